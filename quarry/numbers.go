package quarry

// calculate answers what an operator makes of two numbers, and whether that is
// a number of 64 bits at all (P10).
func calculate(o operator, left, right int) (result int, inside bool) {
	switch o {
	case plus:
		return sum(left, right)
	case minus:
		return difference(left, right)
	case times:
		return product(left, right)
	case over:
		return quotient(left, right)
	}
	return remainder(left, right)
}

func sum(left, right int) (int, bool) {
	result := left + right
	return result, (result < left) == (right < 0)
}

func difference(left, right int) (int, bool) {
	result := left - right
	return result, (result > left) == (right < 0)
}

func product(left, right int) (int, bool) {
	if left == 0 {
		return 0, true
	}
	if left == -1 {
		return difference(0, right)
	}
	result := left * right
	return result, result/left == right
}

func quotient(left, right int) (int, bool) {
	switch right {
	case 0:
		return 0, false
	case -1:
		return difference(0, left)
	}
	return left / right, true
}

func remainder(left, right int) (int, bool) {
	if right == 0 {
		return 0, false
	}
	return left % right, true
}
