package shifts

const (
	maxStates = 5
	// maxWays is the most ways from one state to another.
	maxWays = 9
)

// row is the ways from one state.
type row [maxStates]int64

// matrix is the ways from each state to each one, as an array so that matrices can be compared. Beyond the states of a shift there are no ways, which leaves determinants of 1 - t a what they are.
type matrix [maxStates]row

// isTable is whether the rows are that many, each with that many columns, of integers from 0 to most, and not too many.
func isTable(rows [][]int, height, width, most int) bool {
	if height < 1 || height > maxStates || width < 1 || width > maxStates || len(rows) != height {
		return false
	}
	for _, numbers := range rows {
		if len(numbers) != width {
			return false
		}
		for _, number := range numbers {
			if number < 0 || number > most {
				return false
			}
		}
	}
	return true
}

// matrixOf is a table as a matrix.
func matrixOf(rows [][]int) matrix {
	var a matrix
	for i, numbers := range rows {
		for j, number := range numbers {
			a[i][j] = int64(number)
		}
	}
	return a
}

// table is the first k rows and columns as the calls return them.
func (a matrix) table(k int) [][]int {
	rows := make([][]int, k)
	for i := range rows {
		rows[i] = make([]int, k)
		for j := range rows[i] {
			rows[i][j] = int(a[i][j])
		}
	}
	return rows
}

// one is the matrix with 1 from the upper left corner on, for k states.
func one(k int) matrix {
	var a matrix
	for i := range k {
		a[i][i] = 1
	}
	return a
}

// full is the matrix with 1 in all places of k states.
func full(k int) matrix {
	var a matrix
	for i := range k {
		for j := range k {
			a[i][j] = 1
		}
	}
	return a
}

// turned is the matrix with rows and columns exchanged.
func (a matrix) turned() matrix {
	var turned matrix
	for i, ways := range a {
		for j, many := range ways {
			turned[j][i] = many
		}
	}
	return turned
}

// isLarge is whether there are more ways from one state to another than a shift may have.
func (a matrix) isLarge() bool {
	for _, ways := range a {
		for _, many := range ways {
			if many > maxWays {
				return true
			}
		}
	}
	return false
}

// sumOfProducts is the products of the pairs, added up.
func sumOfProducts[T int | int64](pairs ...[2]T) T {
	var sum T
	for _, pair := range pairs {
		sum += pair[0] * pair[1]
	}
	return sum
}

// times is the product of the matrix and another one.
func (a matrix) times(b matrix) matrix {
	var product matrix
	for i, ways := range a {
		for j := range product[i] {
			var pairs [maxStates][2]int64
			for over, many := range ways {
				pairs[over] = [2]int64{many, b[over][j]}
			}
			product[i][j] = sumOfProducts(pairs[:]...)
		}
	}
	return product
}

// shape is the matrix with 1 for each number that is not 0.
func (a matrix) shape() matrix {
	for i, ways := range a {
		for j, many := range ways {
			a[i][j] = min(many, 1)
		}
	}
	return a
}

// shapeTimes is the shape of the product of the matrix and another one.
func (a matrix) shapeTimes(b matrix) matrix {
	return a.times(b).shape()
}

// repeated is what a step, done 0 to m times, makes of the start.
func repeated(step func(matrix) matrix, start matrix, m int) []matrix {
	list := []matrix{start}
	for done := range m {
		list = append(list, step(list[done]))
	}
	return list
}

// powers is the numbers of trips between k states, by their length from 0 to m.
func (a matrix) powers(k, m int) []matrix {
	return repeated(a.times, one(k), m)
}
