package quarry

import (
	"strings"
	"testing"
)

// step is a command and what Do answers to it.
type step struct {
	user, text, want string
	errno            Errno
	place            int
}

func done(user, text string) step { return step{user: user, text: text} }

func tells(user, text, want string) step { return step{user: user, text: text, want: want} }

func refused(user, text string, e Errno, place int) step {
	return step{user: user, text: text, errno: e, place: place}
}

// fails is refused for admin, its place told by a mark ahead of the token.
func fails(marked string, e Errno) step {
	place := max(strings.IndexByte(marked, '^'), 0)
	return refused("admin", strings.Replace(marked, "^", "", 1), e, place)
}

func play(t *testing.T, s *Store, steps ...step) {
	t.Helper()
	for _, x := range steps {
		if text, e, place := s.Do(x.user, x.text); text != x.want || e != x.errno || place != x.place {
			t.Errorf("Do(%q, %q) = %q, %d, %d, want %q, %d, %d", x.user, x.text, text, e, place, x.want, x.errno, x.place)
		}
	}
}

var roomy = Options{Segment: 3, Width: 2, Budget: maxBudget}

// layouts of stores: what a store answers hangs on none of them.
func allOptions() []Options {
	var all []Options
	for _, segment := range []int{1, 2, 5, 16} {
		for _, width := range []int{1, 3, 16} {
			for p := Plain; p <= Bits; p++ {
				for flags := range 4 {
					all = append(all, Options{Segment: segment, Packing: p, Width: width, Prune: flags&1 > 0, Push: flags&2 > 0, Budget: maxBudget})
				}
			}
		}
	}
	return all
}

func TestP5ACommandHasAtMost300Bytes(t *testing.T) {
	s := New(roomy)
	valid := "from t" + strings.Repeat(" ", 294)
	play(t, s,
		refused("admin", valid, ErrName, 5),
		refused("admin", valid+" ", ErrLong, 0),
		refused("eve", valid+"\x00", ErrLong, 0),
		refused("admin", strings.Repeat("\xff", 301), ErrLong, 0),
		refused("admin", strings.Repeat("\xff", 300), ErrText, 0),
		refused("admin", strings.Repeat(" ", 300), ErrText, 300),
		refused("admin", strings.Repeat("(", 1<<20), ErrLong, 0),
	)
}

func TestP5WordsAreNamesOrTaken(t *testing.T) {
	taken := strings.Fields("from where map join on group order down limit create drop load grant revoke and or not is null true false int str bool count sum min max")
	s := New(roomy)
	for _, w := range taken {
		play(t, s,
			refused("admin", "drop "+w, ErrText, 5),
			refused("admin", "drop t"+w, ErrName, 5),
			refused("admin", "drop "+w+"s", ErrName, 5),
			refused("admin", "create t("+w+" int)", ErrText, 9),
		)
	}
	play(t, s,
		fails("drop ^a", ErrName), fails("drop ^abcdefgh", ErrName), fails("drop ^abcdefghi", ErrText),
		fails("drop ^zzzzzzzz", ErrName), fails("drop ^zzzzzzzzzzzzzzzzzzzzzzzzz", ErrText),
		fails("^createaa t(a int)", ErrText), fails("^createaaa t(a int)", ErrText),
		fails("drop ^T", ErrText), fails("drop t^T", ErrText), fails("drop a^_b", ErrText), fails("drop a^1", ErrText),
		fails("drop ^by", ErrName), fails("drop ^admin", ErrName), fails("drop ^len", ErrName),
	)
}

func TestP5NumbersAndStrings(t *testing.T) {
	play(t, New(roomy),
		fails("load ^t (9223372036854775807)", ErrName), fails("load t (^9223372036854775808)", ErrText),
		fails("load t (-^9223372036854775808)", ErrText), fails("load ^t (-9223372036854775807)", ErrName),
		fails("load ^t (0000000000000000007)", ErrName), fails("load t (^00000000000000000007)", ErrText),
		fails("load t (^99999999999999999999999)", ErrText), fails("load t (1^x)", ErrText), fails("load t (1^.5)", ErrText),
		fails("load t (- ^- 1)", ErrText), fails("load ^t (- 1)", ErrName), fails("load t (^+1)", ErrText), fails("load t (-^true)", ErrText), fails("load t (-^'a')", ErrText),
		fails("load ^t ('')", ErrName), fails("load ^t ('twelve bytes')", ErrName), fails("load t (^'thirteen byte')", ErrText),
		fails("load ^t (' ~()|A9')", ErrName), fails("load t (^'\x1f')", ErrText), fails("load t (^'\x7f')", ErrText), fails("load t (^'\xc3\xa9')", ErrText),
		fails("load t (^'a)", ErrText), fails("load t (^'", ErrText), fails("load t ('a'^'b')", ErrText), fails("load t ('a'^')", ErrText),
		fails("load t (^\"a\")", ErrText), fails("load ^t (true,false,null)", ErrName),
	)
}

func TestP5NoOtherByteBeginsAToken(t *testing.T) {
	s := New(roomy)
	begins := " abcdefghijklmnopqrstuvwxyz0123456789(),|:=<>+-*/%"
	for b := range 256 {
		text := string([]byte{byte(b)})
		if strings.Contains(begins, text) {
			continue
		}
		play(t, s, refused("admin", text, ErrText, 0), refused("admin", "drop t"+text, ErrText, 6), refused("admin", "drop t "+text+" u", ErrText, 7), refused("admin", "from t | where a = "+text+"1", ErrText, 19))
	}
}

func TestP5SignsAreAsLongAsTheyCanBe(t *testing.T) {
	play(t, New(roomy),
		fails("from ^t|where a<=b", ErrName), fails("from ^t|where a>=b", ErrName), fails("from ^t|where a<>b", ErrName),
		fails("from t|where a< ^=b", ErrText), fails("from t|where a> ^=b", ErrText), fails("from t|where a< ^>b", ErrText),
		fails("from t|where a=^<b", ErrText), fails("from t|where a=^>b", ErrText), fails("from t|where a>^<b", ErrText),
		fails("from t|where a<>^=b", ErrText), fails("from t|where a<=^=b", ErrText), fails("from t|where a^!=b", ErrText), fails("from t|where a=^=b", ErrText),
		fails("from ^t|where a<-b", ErrName), fails("from ^t|where a--b=c", ErrName), fails("from t|where a<^+b", ErrText),
	)
}

func TestP5TokensStandWithOrWithoutBlanks(t *testing.T) {
	play(t, New(roomy),
		done("admin", "create t(a int,b str)"), done("admin", "   create   u  (  a   int  )   "),
		done("admin", "load t(1,'x')(2,'y')"), done("admin", "load t ( 3 , 'z' ) ( - 4 , null )  "),
		done("admin", "grant ann on t(a)where(a)=1or(b)='z'"),
		tells("ann", "   from t", "a:int\n1\n3\n"),
		fails("create ^t(a int,b str)", ErrTwice),
		fails("^fromt", ErrText), fails("create v(a^)", ErrText), fails("create v(aint^)", ErrText),
		fails("from t^\n", ErrText), fails("from^\tt", ErrText), fails("^\rfrom t", ErrText), fails("from t^\x00", ErrText), fails("from t^\u00a0", ErrText),
	)
}

func TestP5TheFirstTokenThatCannotStand(t *testing.T) {
	play(t, New(roomy),
		fails("^", ErrText), fails("  ^", ErrText), fails("^t", ErrText), fails("^1", ErrText), fails("^'a'", ErrText), fails("^(", ErrText), fails("^where", ErrText), fails("^select", ErrText),
		fails("create^", ErrText), fails("create t^", ErrText), fails("create t(^", ErrText), fails("create t(^)", ErrText), fails("create t(a^", ErrText), fails("create t(a int^", ErrText), fails("create t(a int,^)", ErrText), fails("create t(a int)^,", ErrText), fails("create t(a ^float)", ErrText), fails("create t(a int ^b int)", ErrText), fails("create ^1(a int)", ErrText), fails("create t(^'a' int)", ErrText), fails("create t ^a int", ErrText), fails("create t(a ^null)", ErrText),
		fails("drop^", ErrText), fails("drop t^,u", ErrText), fails("drop ^'t'", ErrText), fails("drop t^(a)", ErrText),
		fails("load^", ErrText), fails("load t^", ErrText), fails("load t (^", ErrText), fails("load t (^)", ErrText), fails("load t (1^", ErrText), fails("load t (1,^)", ErrText), fails("load t (1)^,(2)", ErrText), fails("load t (^a)", ErrText), fails("load t (^(1))", ErrText), fails("load t (1^+1)", ErrText), fails("load t (1 ^2)", ErrText), fails("load t ^1", ErrText), fails("load t (^not)", ErrText), fails("load t (-^null)", ErrText), fails("load t (-^)", ErrText),
		fails("grant^", ErrText), fails("grant u ^in t (a) where a", ErrText), fails("grant u on t ^where a", ErrText), fails("grant u on t (^) where a", ErrText), fails("grant u on t (a,^) where a", ErrText), fails("grant u on t (a)^", ErrText), fails("grant u on t (a) where^", ErrText), fails("grant u on t (a) where a ^| limit 1", ErrText), fails("grant u on t (a ^int) where a", ErrText), fails("grant ^'u' on t (a) where a", ErrText), fails("grant u on ^(a) where a", ErrText),
		fails("revoke^", ErrText), fails("revoke u^", ErrText), fails("revoke u on^", ErrText), fails("revoke u ^t", ErrText), fails("revoke u on t ^(a)", ErrText),
		fails("from^", ErrText), fails("from ^1", ErrText), fails("from t ^where a", ErrText), fails("from t ^,u", ErrText), fails("from t |^", ErrText), fails("from t | ^|", ErrText), fails("from t | ^from u", ErrText), fails("from t | ^select", ErrText), fails("from t | limit 1 ^;", ErrText),
		fails("from t | map^", ErrText), fails("from t | map a^", ErrText), fails("from t | map a ^< b", ErrText), fails("from t | map a = b,^", ErrText), fails("from t | map ^1 = a", ErrText), fails("from t | map a = b ^c = d", ErrText), fails("from ^t | map a = b, c = d and e", ErrName),
		fails("from t | join^", ErrText), fails("from t | join u^", ErrText), fails("from t | join u on a^", ErrText), fails("from t | join u on a ^< b", ErrText), fails("from t | join u on a = ^1", ErrText), fails("from t | join u on a = b ^and c", ErrText), fails("from ^t | join u on a = b", ErrName),
		fails("from t | group^", ErrText), fails("from t | group a^", ErrText), fails("from t | group a,^:", ErrText), fails("from t | group a :^", ErrText), fails("from t | group : ^count()", ErrText), fails("from t | group : n = ^a", ErrText), fails("from t | group : n = count^", ErrText), fails("from t | group : n = count(^1)", ErrText), fails("from t | group : n = min(^)", ErrText), fails("from t | group : n = max(^)", ErrText), fails("from t | group : n = sum(a^+b)", ErrText), fails("from t | group : n = sum(a^,b)", ErrText), fails("from t | group : n = ^avg(a)", ErrText), fails("from t | group : n = count(),^", ErrText), fails("from ^t | group : n = count()", ErrName), fails("from ^t | group a, b : n = count(a), m = sum(b), o = min(c), p = max(c)", ErrName),
		fails("from t | order^", ErrText), fails("from t | order ^down", ErrText), fails("from t | order a down ^down", ErrText), fails("from t | order a ^up", ErrText), fails("from t | order a,^", ErrText), fails("from t | order ^1", ErrText), fails("from ^t | order a, b down, c", ErrName),
		fails("from t | limit^", ErrText), fails("from t | limit ^-1", ErrText), fails("from t | limit ^a", ErrText), fails("from t | limit 1^+1", ErrText), fails("from ^t | limit 0", ErrName), fails("from ^t | limit 1 | limit 2", ErrName),
		fails("from t | where^", ErrText), fails("from t | where a ^b", ErrText), fails("from t | where a <^", ErrText), fails("from t | where a = b ^= c", ErrText), fails("from t | where a is^", ErrText), fails("from t | where a is ^b", ErrText), fails("from t | where a is not^", ErrText), fails("from t | where a is not ^not null", ErrText), fails("from t | where a is null ^is null", ErrText), fails("from t | where a is null ^= b", ErrText), fails("from t | where a = ^null", ErrText), fails("from t | where ^null", ErrText), fails("from t | where a = ^not b", ErrText), fails("from t | where 1 + ^not b", ErrText), fails("from t | where - ^not b", ErrText), fails("from t | where (a^", ErrText), fails("from t | where (^)", ErrText), fails("from t | where a^)", ErrText), fails("from t | where (a ^b)", ErrText), fails("from t | where (a^, b)", ErrText), fails("from t | where ^and a", ErrText), fails("from t | where a and^", ErrText), fails("from t | where a or ^or b", ErrText), fails("from t | where not^", ErrText), fails("from t | where ^count(a)", ErrText), fails("from t | where a^(b)", ErrText), fails("from t | where ^+a", ErrText),
		fails("from ^t | where not a = b and not (c or d) is not null or -a * -b + c % d / e - 1 <= 'x'", ErrName),
	)
}

func TestP5OfSeveralErrorsTheFirstFromTheLeft(t *testing.T) {
	play(t, New(roomy),
		fails("from ^T ' 99999999999999999999", ErrText), fails("from t ^u 'a", ErrText), fails("from t ^u T", ErrText),
		fails("from t | where ((((((((^(a = = b", ErrDeep), fails("from t | where a = ^= (((((((((b", ErrText), fails("from t | where ((((((((^( 'a", ErrDeep), fails("from t | where ((((((((^'a", ErrText),
		fails("create t(a int, a^", ErrText), fails("load t (1)(2^", ErrText),
		refused("eve", "drop", ErrText, 4), refused("eve", "drop t", ErrDenied, 0), refused("eve", "grant a on b (c) where (((((((((d", ErrDeep, 31),
	)
}

func TestP5Depth(t *testing.T) {
	nots := strings.Repeat("not ", 8)
	play(t, New(roomy),
		fails("from ^t | where ((((((((a))))))))", ErrName), fails("from t | where ((((((((^(a)))))))))", ErrDeep),
		fails("from ^t | where "+nots+"a", ErrName), fails("from t | where "+nots+"^not a", ErrDeep),
		fails("from ^t | where --------a = 1", ErrName), fails("from t | where --------^-a = 1", ErrDeep),
		fails("from ^t | where not (-(-(not (a = b))))", ErrName), fails("from t | where not (-(-(not (^-a = b))))", ErrDeep), fails("from t | where not (-(-(not (^(a) = b))))", ErrDeep), fails("from t | where not (-(-(not (^not a = b))))", ErrDeep),
		fails("from t | where "+nots+"^-a = 1", ErrDeep), fails("from t | where "+nots+"a = ^-1", ErrDeep), fails("from t | where "+nots+"^(a)", ErrDeep), fails("from t | where --------^(a)", ErrDeep),
		// Those that have ended are not counted.
		fails("from ^t | where "+nots+"a = 1 and -b = 1", ErrName), fails("from ^t | where "+nots+"a or "+nots+"b", ErrName), fails("from ^t | where "+nots[4:]+"-a = -b", ErrName), fails("from t | where "+nots[4:]+"(a) = (^-b)", ErrDeep),
		fails("from ^t | where ((((((((a)))))))) = ((((((((b))))))))", ErrName), fails("from ^t | where (((((((-a - -b - -c + -d)))))))", ErrName), fails("from ^t | where --------a * --------b % --------c = 0", ErrName),
		fails("from ^t | where (a) and (b) and (c) and (d) and (e) and (f) and (g) and (h) and (i) and (j)", ErrName), fails("from ^t | map a = ((((((((b)))))))), c = ((((((((d))))))))", ErrName), fails("from ^t | where ((((((((a)))))))) | where ((((((((a))))))))", ErrName),
		// Others are not of these.
		fails("from ^t | where ((((((((a - b))))))))", ErrName), fails("from t | where ((((((((a - ^-b))))))))", ErrDeep), fails("from ^t | where ((((((((a is not null))))))))", ErrName), fails("from t | where ((((((((a is not null and ^not b))))))))", ErrDeep),
		fails("grant u on ^t (a) where ((((((((b))))))))", ErrName), fails("grant u on t (a) where ((((((((^(b)))))))))", ErrDeep),
	)
}
