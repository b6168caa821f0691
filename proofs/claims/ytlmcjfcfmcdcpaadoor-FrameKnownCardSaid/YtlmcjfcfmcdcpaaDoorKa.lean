/-
  Contracts of this seat: what loops and calls leave, for all inputs. No condition.
-/
import Derived.Test.YtlmcjfcfmcdcpaaDoorSycp
import Derived.Test.YtlmcjfcfmcdcpaaDoorCo
set_option linter.unusedSimpArgs false
set_option linter.unusedVariables false
namespace Go.Proofs.YtlmcjfcfmcdcpaaDoor.Ka
open Go.RowKit Go.Ev Go.Proofs.YtlmcjfcfmcdcpaaDoor.Co


def crcT : List Int := [0, 1996959894, 3993919788, 2567524794, 124634137, 1886057615, 3915621685, 2657392035, 249268274, 2044508324, 3772115230, 2547177864, 162941995, 2125561021, 3887607047, 2428444049, 498536548, 1789927666, 4089016648, 2227061214, 450548861, 1843258603, 4107580753, 2211677639, 325883990, 1684777152, 4251122042, 2321926636, 335633487, 1661365465, 4195302755, 2366115317, 997073096, 1281953886, 3579855332, 2724688242, 1006888145, 1258607687, 3524101629, 2768942443, 901097722, 1119000684, 3686517206, 2898065728, 853044451, 1172266101, 3705015759, 2882616665, 651767980, 1373503546, 3369554304, 3218104598, 565507253, 1454621731, 3485111705, 3099436303, 671266974, 1594198024, 3322730930, 2970347812, 795835527, 1483230225, 3244367275, 3060149565, 1994146192, 31158534, 2563907772, 4023717930, 1907459465, 112637215, 2680153253, 3904427059, 2013776290, 251722036, 2517215374, 3775830040, 2137656763, 141376813, 2439277719, 3865271297, 1802195444, 476864866, 2238001368, 4066508878, 1812370925, 453092731, 2181625025, 4111451223, 1706088902, 314042704, 2344532202, 4240017532, 1658658271, 366619977, 2362670323, 4224994405, 1303535960, 984961486, 2747007092, 3569037538, 1256170817, 1037604311, 2765210733, 3554079995, 1131014506, 879679996, 2909243462, 3663771856, 1141124467, 855842277, 2852801631, 3708648649, 1342533948, 654459306, 3188396048, 3373015174, 1466479909, 544179635, 3110523913, 3462522015, 1591671054, 702138776, 2966460450, 3352799412, 1504918807, 783551873, 3082640443, 3233442989, 3988292384, 2596254646, 62317068, 1957810842, 3939845945, 2647816111, 81470997, 1943803523, 3814918930, 2489596804, 225274430, 2053790376, 3826175755, 2466906013, 167816743, 2097651377, 4027552580, 2265490386, 503444072, 1762050814, 4150417245, 2154129355, 426522225, 1852507879, 4275313526, 2312317920, 282753626, 1742555852, 4189708143, 2394877945, 397917763, 1622183637, 3604390888, 2714866558, 953729732, 1340076626, 3518719985, 2797360999, 1068828381, 1219638859, 3624741850, 2936675148, 906185462, 1090812512, 3747672003, 2825379669, 829329135, 1181335161, 3412177804, 3160834842, 628085408, 1382605366, 3423369109, 3138078467, 570562233, 1426400815, 3317316542, 2998733608, 733239954, 1555261956, 3268935591, 3050360625, 752459403, 1541320221, 2607071920, 3965973030, 1969922972, 40735498, 2617837225, 3943577151, 1913087877, 83908371, 2512341634, 3803740692, 2075208622, 213261112, 2463272603, 3855990285, 2094854071, 198958881, 2262029012, 4057260610, 1759359992, 534414190, 2176718541, 4139329115, 1873836001, 414664567, 2282248934, 4279200368, 1711684554, 285281116, 2405801727, 4167216745, 1634467795, 376229701, 2685067896, 3608007406, 1308918612, 956543938, 2808555105, 3495958263, 1231636301, 1047427035, 2932959818, 3654703836, 1088359270, 936918000, 2847714899, 3736837829, 1202900863, 817233897, 3183342108, 3401237130, 1404277552, 615818150, 3134207493, 3453421203, 1423857449, 601450431, 3009837614, 3294710456, 1567103746, 711928724, 3020668471, 3272380065, 1510334235, 755167117]
def crcAV : List AV := crcT.map (.int .u32)
def stepI (n c : Int) : Int := iopI .xor .u32 (iopI .shr .u32 n 8) ((crcT[(iopI .xor .u8 (IntKind.u8.wrap n) c).toNat]?).getD 0)
def moreI (n : Int) (l : List Int) : Int := l.foldl stepI n
def notI (n : Int) : Int := iopI .xor .u32 4294967295 n
def bitI (n c k : Int) : Int := if iopI .rem .u32 n 2 = iopI .rem .u32 (iopI .shr .u8 c k) 2 then iopI .shr .u32 n 1 else iopI .xor .u32 (iopI .shr .u32 n 1) 3988292384
def bitsI (c : Int) : Nat → Int → Int → Int
  | 0, _, n => n
  | r + 1, k, n => bitsI c r (k + 1) (bitI n c k)
def markI (i : Int) : Int := 160 + i % 90
def lentI (l : List Int) : List Int := l ++ [markI l.length, markI (l.length + 1), markI (l.length + 2)]
def refI (n : Int) (l : List Int) : Int := l.foldl (fun n c => bitsI c 8 0 n) n
def flipB (fr i : Int) (l : List Int) : List Int := l.set (iopI .quo .i64 (fr + i) 8).toNat (iopI .xor .u8 ((l[(iopI .quo .i64 (fr + i) 8).toNat]?).getD 0) (iopI .shl .u8 1 (iopI .rem .i64 (fr + i) 8)))
def flipI (fr m : Int) : Nat → Int → List Int → List Int
  | 0, _, l => l
  | r + 1, i, l => flipI fr m r (i + 1) (if iopI .rem .u32 (iopI .shr .u32 m i) 2 = 1 then flipB fr i l else l)
def le4 (n : Int) : List Int := [IntKind.u8.wrap n, IntKind.u8.wrap (iopI .shr .u32 n 8), IntKind.u8.wrap (iopI .shr .u32 n 16), IntKind.u8.wrap (iopI .shr .u32 n 24)]
def sumI (l : List Int) : Int := notI (moreI (notI 0) l)
def rsumI (l : List Int) : Int := notI (refI 4294967295 l)
def putI (l : List Int) : List Int := l ++ le4 (sumI l)
def rputI (l : List Int) : List Int := l ++ le4 (rsumI l)
/-- Is a frame as its type says (type, session, boot, number, ack, the body's length)? -/
def saysP (t s b q a l : Int) : Prop := (t = 1 ∧ 0 < s ∧ b = 0 ∧ q = 0 ∧ l = 0 ∧ a = 0) ∨ (t = 2 ∧ 0 < s ∧ 0 < b ∧ q = 0 ∧ l = 0 ∧ a = 0) ∨ (t = 3 ∧ 0 < s ∧ 0 < b ∧ 0 < q) ∨ (t = 4 ∧ 0 < s ∧ 0 < b ∧ q = 0 ∧ l = 0) ∨ (t = 5 ∧ 0 < s ∧ q = 0 ∧ l = 0 ∧ a = 0)
instance (t s b q a l : Int) : Decidable (saysP t s b q a l) := by unfold saysP; infer_instance
def rangeP (n : Int) : Prop := 0 ≤ n ∧ n ≤ 2147483647
instance (n : Int) : Decidable (rangeP n) := by unfold rangeP; infer_instance
/-- What is wrong with a frame. -/
def errI (t s b q a l : Int) : Int := if t < 1 ∨ 5 < t then 213 else if ¬ (rangeP s ∧ rangeP b ∧ rangeP q ∧ rangeP a) then 5 else if 1400 < l then 3 else if saysP t s b q a l then 0 else 2
def byteI (n k : Int) : Int := IntKind.u8.wrap (iopI .shr .i64 n k)
def fourI (n : Int) : List Int := [byteI n 24, byteI n 16, byteI n 8, IntKind.u8.wrap n]
def layI (t s b q a : Int) (x : List Int) : List Int := [83, 75, 1, IntKind.u8.wrap t] ++ fourI s ++ fourI b ++ fourI q ++ fourI a ++ [byteI x.length 8, IntKind.u8.wrap x.length] ++ x
/-- Bytes as a number, the highest first. -/
def be (l : List Int) : Int := l.foldl (fun n c => n * 256 + c) 0
/-- What is wrong with what a frame's bytes say: how they begin, the version, the type, the four numbers, how long the body should be, how long it is. -/
def sayI (m v t s b q a n l : Int) : Int := if m ≠ 21323 then 211 else if v ≠ 1 then 212 else if t < 1 ∨ 5 < t then 213 else if ¬ (rangeP s ∧ rangeP b ∧ rangeP q ∧ rangeP a) then 5 else if n ≠ l then 214 else if saysP t s b q a l then 0 else 2
def goodI (l : List Int) : Int := if l = putI (prt l 0 (l.length - 4)) then 1 else 0
/-- One bit, with Nat's own xor: the kernel reckons it at once. -/
def L1 (n : Nat) : Nat := Nat.xor (n / 2) (n % 2 * 3988292384)
def L8 (n : Nat) : Nat := L1 (L1 (L1 (L1 (L1 (L1 (L1 (L1 n)))))))
def moreN : List Int → Nat → Nat
  | [], n => n
  | c :: l, n => moreN l (L8 (Nat.xor n c.toNat))
/-- The sum at once. -/
def sumN (l : List Int) : Int := match l.all fun c => decide (0 ≤ c ∧ c ≤ 255) with
  | true => (Nat.xor 4294967295 (moreN l 4294967295) : Nat)
  | false => sumI l
def goodF (l : List Int) : Int := if l = prt l 0 (l.length - 4) ++ le4 (sumN (prt l 0 (l.length - 4))) then 1 else 0
/-- What is wrong with bytes. -/
def readI (l : List Int) : Int := if 1426 < (l.length : Int) then 3 else if (l.length : Int) < 26 then 4 else if goodI l ≠ 1 then 210 else
  sayI (be (prt l 0 2)) (be (prt l 2 3)) (be (prt l 3 4)) (be (prt l 4 8)) (be (prt l 8 12)) (be (prt l 12 16)) (be (prt l 16 20)) (be (prt l 20 22)) (l.length - 26)
/-- 11: what is wrong. 12: the bytes, guarded. 13: what is wrong with what they say. 14: are they guarded right? 15: the number of some. 16: what is wrong with bytes. 1: the number behind x[o..t), from n on. 2: so of sums. 3: bits from k on. 4: 1, bit by bit. -/
def F : Nat → D → D
  | 1 => fun a => .int (moreI (argD a 0).toInt (prt (argD a 1).ints (argD a 2).toInt (argD a 3).toInt))
  | 2 => fun a => .int (notI (moreI (notI (argD a 0).toInt) (prt (argD a 1).ints (argD a 2).toInt (argD a 3).toInt)))
  | 3 => fun a => .int (bitsI (argD a 2).toInt (8 - (argD a 0).toInt).toNat (argD a 0).toInt (argD a 1).toInt)
  | 5 => fun a => .int (notI (refI 4294967295 (prt (argD a 0).ints (argD a 1).toInt (argD a 2).toInt)))
  | 6 => fun a => D.ofInts (lentI (prt (argD a 0).ints (argD a 1).toInt (argD a 2).toInt))
  | 7 => fun a => .int ((argD a 0).toInt % (argD a 1).toInt)
  | 8 => fun a => D.ofInts (putI (prt (argD a 0).ints (argD a 1).toInt (argD a 2).toInt))
  | 9 => fun a => D.ofInts (rputI (prt (argD a 0).ints (argD a 1).toInt (argD a 2).toInt))
  | 10 => fun a => D.ofInts (flipI (argD a 1).toInt (argD a 2).toInt (32 - (argD a 3).toInt).toNat (argD a 3).toInt (argD a 0).ints)
  | 4 => fun a => .int (refI (argD a 0).toInt (prt (argD a 1).ints (argD a 2).toInt (argD a 3).toInt))
  | 11 => fun a => .int (errI (argD a 0).toInt (argD a 1).toInt (argD a 2).toInt (argD a 3).toInt (argD a 4).toInt (argD a 5).toInt)
  | 12 => fun a => D.ofInts (putI (layI (argD a 0).toInt (argD a 1).toInt (argD a 2).toInt (argD a 3).toInt (argD a 4).toInt (prt (argD a 5).ints (argD a 6).toInt ((argD a 6).toInt + (argD a 7).toInt))))
  | 13 => fun a => .int (sayI (argD a 0).toInt (argD a 1).toInt (argD a 2).toInt (argD a 3).toInt (argD a 4).toInt (argD a 5).toInt (argD a 6).toInt (argD a 7).toInt (argD a 8).toInt)
  | 14 => fun a => .int (goodF (prt (argD a 0).ints (argD a 1).toInt (argD a 2).toInt))
  | 15 => fun a => .int (be (prt (argD a 0).ints (argD a 1).toInt (argD a 2).toInt))
  | 17 => fun a => .int (if saysP (argD a 0).toInt (argD a 1).toInt (argD a 2).toInt (argD a 3).toInt (argD a 4).toInt (argD a 5).toInt then 1 else 0)
  | 16 => fun a => .int (readI (prt (argD a 0).ints (argD a 1).toInt (argD a 2).toInt))
  | _ => fun x => x

theorem F2 (n x o t : D) : F 2 (.list [n, .list [x, .list [o, .list [t, .int 0]]]]) = .int (notI (moreI (notI n.toInt) (prt x.ints o.toInt t.toInt))) := rfl
theorem F3 (k n c : D) : F 3 (.list [k, .list [n, .list [c, .int 0]]]) = .int (bitsI c.toInt (8 - k.toInt).toNat k.toInt n.toInt) := rfl
theorem F4 (n x o t : D) : F 4 (.list [n, .list [x, .list [o, .list [t, .int 0]]]]) = .int (refI n.toInt (prt x.ints o.toInt t.toInt)) := rfl
theorem F5 (x o t : D) : F 5 (.list [x, .list [o, .list [t, .int 0]]]) = .int (notI (refI 4294967295 (prt x.ints o.toInt t.toInt))) := rfl
theorem F6 (x o t : D) : F 6 (.list [x, .list [o, .list [t, .int 0]]]) = D.ofInts (lentI (prt x.ints o.toInt t.toInt)) := rfl
theorem F7 (x n : D) : F 7 (.list [x, .list [n, .int 0]]) = .int (x.toInt % n.toInt) := rfl
theorem F8 (x o t : D) : F 8 (.list [x, .list [o, .list [t, .int 0]]]) = D.ofInts (putI (prt x.ints o.toInt t.toInt)) := rfl
theorem F9 (x o t : D) : F 9 (.list [x, .list [o, .list [t, .int 0]]]) = D.ofInts (rputI (prt x.ints o.toInt t.toInt)) := rfl
theorem F10 (x f m i : D) : F 10 (.list [x, .list [f, .list [m, .list [i, .int 0]]]]) = D.ofInts (flipI f.toInt m.toInt (32 - i.toInt).toNat i.toInt x.ints) := rfl
theorem flip_step (fr m : Int) (l : List Int) (i : Int) (h : i < 32) : flipI fr m (32 - i).toNat i l = flipI fr m (32 - (i + 1)).toNat (i + 1) (if iopI .rem .u32 (iopI .shr .u32 m i) 2 = 1 then flipB fr i l else l) := by
  rw [show (32 - i).toNat = (32 - (i + 1)).toNat + 1 by omega]; rfl
theorem bits_step (c n k : Int) (h : k < 8) : bitsI c (8 - k).toNat k n = bitsI c (8 - (k + 1)).toNat (k + 1) (bitI n c k) := by
  rw [show (8 - k).toNat = (8 - (k + 1)).toNat + 1 by omega]; rfl
theorem F1 (n x o t : D) : F 1 (.list [n, .list [x, .list [o, .list [t, .int 0]]]]) = .int (moreI n.toInt (prt x.ints o.toInt t.toInt)) := rfl
theorem F11 (t s b q a l : D) : F 11 (.list [t, (.list [s, (.list [b, (.list [q, (.list [a, (.list [l, (.int 0)])])])])])]) = .int (errI t.toInt s.toInt b.toInt q.toInt a.toInt l.toInt) := rfl
theorem F12 (t s b q a x o l : D) : F 12 (.list [t, (.list [s, (.list [b, (.list [q, (.list [a, (.list [x, (.list [o, (.list [l, (.int 0)])])])])])])])]) = D.ofInts (putI (layI t.toInt s.toInt b.toInt q.toInt a.toInt (prt x.ints o.toInt (o.toInt + l.toInt)))) := rfl
theorem F13 (m v t s b q a n l : D) : F 13 (.list [m, (.list [v, (.list [t, (.list [s, (.list [b, (.list [q, (.list [a, (.list [n, (.list [l, (.int 0)])])])])])])])])]) = .int (sayI m.toInt v.toInt t.toInt s.toInt b.toInt q.toInt a.toInt n.toInt l.toInt) := rfl
theorem F15 (x o t : D) : F 15 (.list [x, (.list [o, (.list [t, (.int 0)])])]) = .int (be (prt x.ints o.toInt t.toInt)) := rfl
theorem F16 (x o t : D) : F 16 (.list [x, (.list [o, (.list [t, (.int 0)])])]) = .int (readI (prt x.ints o.toInt t.toInt)) := rfl
theorem F17 (t s b q a l : D) : F 17 (.list [t, (.list [s, (.list [b, (.list [q, (.list [a, (.list [l, (.int 0)])])])])])]) = .int (if saysP t.toInt s.toInt b.toInt q.toInt a.toInt l.toInt then 1 else 0) := rfl
def cellsG : List AV := [.int .i64 0, .int .i64 0, .int .i64 0, .int .i64 0, .int .i64 0, .int .i64 2, .int .i64 0, .int .i64 0, .int .i64 0, .int .i64 0, .int .i64 2, .int .i64 2, .int .i64 0, .int .i64 0, .int .i64 0, .int .i64 2, .int .i64 2, .int .i64 2, .int .i64 1, .int .i64 1, .int .i64 2, .int .i64 2, .int .i64 0, .int .i64 1, .int .i64 0, .int .i64 2, .int .i64 1, .int .i64 0, .int .i64 0, .int .i64 0]

def tableC : CSpec := { args := [], next := 0, rows := [], pre := [], res := .agg crcAV, frows := [], same := [] }
def tableC_t0 : List (Q × Bool) := []
def tableC_d0 : List Duty := []
theorem tableC_y0 : endC tableC [] 1000 (callC Tryd.prog (tellA tableC_t0) [] [] [] 3000 40 52 tableC) = some tableC_d0 := by kernel_rfl
theorem tableC_holds : CHolds Tryd.prog 52 tableC F := by
  refine cholds_of sound (tableNil _ _) (specsNil _ _) (oversNil _ _) (fuel := 3000) (depth := 40) (by kernel_rfl) fun d hp hR hA => ?_
  refine ⟨tellA tableC_t0, _, _, _, tellA_ok (allTold'_iff.1 ?_), tableC_y0, dutiesTold_ok ?_⟩
  · trivial
  · trivial

def moreL : LSpec := { n := 30, next := 2, pat := [(14, .sint .i64 (.var 0)), (6, .sint .u32 (.var 1)), (12, .sslice 3 (.var 4) (.var 5) (.var 6) false), (13, .sint .i64 (.var 5)), (5, .ptr 1 0)], rows := [(1, .seq ⟨71, .u32, .int 256, .lits crcT, false, false⟩), (3, .eseq ⟨.u8, .var 3, .var 2⟩)], pre := [(.le (.int 0) (.var 0), true), (.le (.var 0) (.var 5), true), (.le (.bi .add (.var 4) (.var 5)) (.var 3), true)], x := 0, fin := [(6, .sint .u32 (.fn 1 (argsE [.var 1, .var 2, .bi .add (.var 4) (.var 0), .bi .add (.var 4) (.var 5)])))], frows := [], same := [], chg := [5, 6, 8, 12, 13, 14, 15, 16, 17, 18, 19, 20, 21, 22, 23, 24, 25, 26, 27] }
abbrev asKa0 : Q × Bool := ((.le (.var 5) (.var 0)), false)
abbrev asKa1 : Q × Bool := ((.le (.int 0) (.var 0)), true)
abbrev asKa2 : Q × Bool := ((.le (.int 0) (.bi .add (.var 4) (.var 0))), true)
abbrev asKa3 : Q × Bool := ((.le (.var 3) (.bi .add (.var 4) (.var 0))), false)
abbrev asKa4 : Q × Bool := ((.le (.int 0) (.bi (.iop .xor .u8) (.un (.wrap .u8) (.var 1)) (.bi .sel (.var 2) (.bi .add (.var 4) (.var 0))))), true)
abbrev asKa5 : Q × Bool := ((.le (.int 256) (.bi (.iop .xor .u8) (.un (.wrap .u8) (.var 1)) (.bi .sel (.var 2) (.bi .add (.var 4) (.var 0))))), false)
abbrev asKa6 : Q × Bool := ((.fit .i64 (.bi .add (.var 0) (.int 1))), true)
def moreL_t0 : List (Q × Bool) := [asKa0, asKa1, asKa2, asKa3, asKa4, asKa5, asKa6]
def moreL_d0 : List Duty := [(true, (.fn 1 (.bi .pair (.bi (.iop .xor .u32) (.bi (.iop .shr .u32) (.var 1) (.int 8)) (.bi .sel (.lits crcT) (.bi (.iop .xor .u8) (.un (.wrap .u8) (.var 1)) (.bi .sel (.var 2) (.bi .add (.var 4) (.var 0)))))) (.bi .pair (.var 2) (.bi .pair (.bi .add (.var 4) (.bi .add (.var 0) (.int 1))) (.bi .pair (.bi .add (.var 4) (.var 5)) (.int 0)))))), (.fn 1 (.bi .pair (.var 1) (.bi .pair (.var 2) (.bi .pair (.bi .add (.var 4) (.var 0)) (.bi .pair (.bi .add (.var 4) (.var 5)) (.int 0)))))))]
def moreL_h0 : List (Nat × E) := [(3, (.var 3)), (2, (.var 2)), (4, (.var 4)), (5, (.var 5)), (6, (.var 6)), (1, (.bi (.iop .xor .u32) (.bi (.iop .shr .u32) (.var 1) (.int 8)) (.bi .sel (.lits crcT) (.bi (.iop .xor .u8) (.un (.wrap .u8) (.var 1)) (.bi .sel (.var 2) (.bi .add (.var 4) (.var 0))))))), (0, (.bi .add (.var 0) (.int 1)))]
theorem moreL_h0_0 : lookE moreL_h0 0 = (.bi .add (.var 0) (.int 1)) := rfl
theorem moreL_h0_1 : lookE moreL_h0 1 = (.bi (.iop .xor .u32) (.bi (.iop .shr .u32) (.var 1) (.int 8)) (.bi .sel (.lits crcT) (.bi (.iop .xor .u8) (.un (.wrap .u8) (.var 1)) (.bi .sel (.var 2) (.bi .add (.var 4) (.var 0)))))) := rfl
theorem moreL_h0_2 : lookE moreL_h0 2 = (.var 2) := rfl
theorem moreL_h0_3 : lookE moreL_h0 3 = (.var 3) := rfl
theorem moreL_h0_4 : lookE moreL_h0 4 = (.var 4) := rfl
theorem moreL_h0_5 : lookE moreL_h0 5 = (.var 5) := rfl
theorem moreL_h0_6 : lookE moreL_h0 6 = (.var 6) := rfl
theorem moreL_y0 : nextD moreL moreL_h0 [(1, 1), (3, 3)] (roundC Tryd.prog [] [(52, tableC)] [] 3000 40 50 [4, 1, 0, 1, 1, 1] (tellA moreL_t0) moreL) = some moreL_d0 := by kernel_rfl
abbrev asKa7 : Q × Bool := ((.le (.var 5) (.var 0)), true)
def moreL_t1 : List (Q × Bool) := [asKa7]
def moreL_d1 : List Duty := [(true, (.var 1), (.fn 1 (.bi .pair (.var 1) (.bi .pair (.var 2) (.bi .pair (.bi .add (.var 4) (.var 0)) (.bi .pair (.bi .add (.var 4) (.var 5)) (.int 0)))))))]
theorem moreL_y1 : endD moreL [(1, 1), (3, 3)] 1000 (roundC Tryd.prog [] [(52, tableC)] [] 3000 40 50 [4, 1, 0, 1, 1, 1] (tellA moreL_t1) moreL) = some moreL_d1 := by kernel_rfl
theorem moreL_holds : LHolds Tryd.prog (loopAt Tryd.prog 50 [4, 1, 0, 1, 1, 1]) moreL F := by
  refine loop_roundsC sound (tableNil _ _) (specsCons tableC_holds (specsNil _ _)) (oversNil _ _) (fuel := 3000) (depth := 40) (by kernel_rfl) (by kernel_rfl) (by kernel_rfl) (fun d => ((d 5).toInt - (d 0).toInt).toNat) fun d hp hR hA => ?_
  have hp := allTold'_iff.2 hp
  simp only [moreL, allTold', dutiesTold, factsA, factsC, factsP, factsR, AV.facts, RW.facts, inK, and_true, Q.holds', E.i, E.s, E.n, D.nat, E.den, BO.den, UO.den, TO.den, D.toInt_int, D.toList_list, D.ints_ofInts, i64min, i64max, u8min, u8max, u16min, u16max, u32min, u32max, u64min, u64max, i32min, i32max, Om.sub, selI, ints_app, ints_cut, ints_upd, ints_rep, ints_splice, ints_seg, len_ints] at hp hR hA
  by_cases h : (d 5).toInt ≤ (d 0).toInt
  · refine ⟨tellA moreL_t1, tellA_ok (allTold'_iff.1 ?_), .inl ⟨_, _, _, moreL_y1, dutiesTold_ok ?_⟩⟩
    · simp only [moreL_t1, allTold', dutiesTold, factsA, factsC, factsP, factsR, AV.facts, RW.facts, inK, and_true, Q.holds', E.i, E.s, E.n, D.nat, E.den, BO.den, UO.den, TO.den, D.toInt_int, D.toList_list, D.ints_ofInts, i64min, i64max, u8min, u8max, u16min, u16max, u32min, u32max, u64min, u64max, i32min, i32max, Om.sub, selI, ints_app, ints_cut, ints_upd, ints_rep, ints_splice, ints_seg, len_ints]
      omega
    · simp only [moreL_d1, F1, allTold', dutiesTold, factsA, factsC, factsP, factsR, AV.facts, RW.facts, inK, and_true, Q.holds', E.i, E.s, E.n, D.nat, E.den, BO.den, UO.den, TO.den, D.toInt_int, D.toList_list, D.ints_ofInts, i64min, i64max, u8min, u8max, u16min, u16max, u32min, u32max, u64min, u64max, i32min, i32max, Om.sub, selI, ints_app, ints_cut, ints_upd, ints_rep, ints_splice, ints_seg, len_ints]
      rw [prt_nil (by omega) (by omega)]
      rfl
  · refine ⟨tellA moreL_t0, tellA_ok (allTold'_iff.1 ?_), .inr ⟨moreL_h0, _, _, moreL_y0, dutiesTold_ok ?_, allTold'_iff.1 ?_, ?_⟩⟩
    · simp only [moreL_t0, allTold', dutiesTold, factsA, factsC, factsP, factsR, AV.facts, RW.facts, inK, and_true, Q.holds', E.i, E.s, E.n, D.nat, E.den, BO.den, UO.den, TO.den, D.toInt_int, D.toList_list, D.ints_ofInts, i64min, i64max, u8min, u8max, u16min, u16max, u32min, u32max, u64min, u64max, i32min, i32max, Om.sub, selI, ints_app, ints_cut, ints_upd, ints_rep, ints_splice, ints_seg, len_ints]
      have := xor_in .u8 (IntKind.u8.wrap (d 1).toInt) (((d 2).ints[((d 4).toInt + (d 0).toInt).toNat]?).getD 0)
      simp only [u8min, u8max] at this
      omega
    · simp only [moreL_d0, F1, allTold', dutiesTold, factsA, factsC, factsP, factsR, AV.facts, RW.facts, inK, and_true, Q.holds', E.i, E.s, E.n, D.nat, E.den, BO.den, UO.den, TO.den, D.toInt_int, D.toList_list, D.ints_ofInts, i64min, i64max, u8min, u8max, u16min, u16max, u32min, u32max, u64min, u64max, i32min, i32max, Om.sub, selI, ints_app, ints_cut, ints_upd, ints_rep, ints_splice, ints_seg, len_ints]
      rw [prt_step (x := (d 2).ints) (o := (d 4).toInt + (d 0).toInt) (by omega) (by omega) (by omega), Int.add_assoc]
      rfl
    · simp only [moreL, moreL_h0_0, moreL_h0_1, moreL_h0_2, moreL_h0_3, moreL_h0_4, moreL_h0_5, moreL_h0_6, allTold', dutiesTold, factsA, factsC, factsP, factsR, AV.facts, RW.facts, inK, and_true, Q.holds', E.i, E.s, E.n, D.nat, E.den, BO.den, UO.den, TO.den, D.toInt_int, D.toList_list, D.ints_ofInts, i64min, i64max, u8min, u8max, u16min, u16max, u32min, u32max, u64min, u64max, i32min, i32max, Om.sub, selI, ints_app, ints_cut, ints_upd, ints_rep, ints_splice, ints_seg, len_ints]
      omega
    · simp only [moreL_h0_0, moreL_h0_1, moreL_h0_2, moreL_h0_3, moreL_h0_4, moreL_h0_5, moreL_h0_6, allTold', dutiesTold, factsA, factsC, factsP, factsR, AV.facts, RW.facts, inK, and_true, Q.holds', E.i, E.s, E.n, D.nat, E.den, BO.den, UO.den, TO.den, D.toInt_int, D.toList_list, D.ints_ofInts, i64min, i64max, u8min, u8max, u16min, u16max, u32min, u32max, u64min, u64max, i32min, i32max, Om.sub, selI, ints_app, ints_cut, ints_upd, ints_rep, ints_splice, ints_seg, len_ints]
      omega

def moreLO : LSpec := { n := 30, next := 2, pat := [(14, .sint .i64 (.var 0)), (6, .sint .u32 (.var 1)), (12, .sslice 3 (.var 4) (.var 5) (.var 6) true), (13, .sint .i64 (.var 5)), (5, .ptr 1 0)], rows := [(1, .seq ⟨71, .u32, .int 256, .lits crcT, false, false⟩), (3, .eseq ⟨.u8, .var 3, .var 2⟩)], pre := [(.le (.int 0) (.var 0), true), (.le (.var 0) (.var 5), true), (.le (.bi .add (.var 4) (.var 5)) (.var 3), true)], x := 0, fin := [(6, .sint .u32 (.fn 1 (argsE [.var 1, .var 2, .bi .add (.var 4) (.var 0), .bi .add (.var 4) (.var 5)])))], frows := [], same := [], chg := [5, 6, 8, 12, 13, 14, 15, 16, 17, 18, 19, 20, 21, 22, 23, 24, 25, 26, 27] }
def moreLO_t0 : List (Q × Bool) := [asKa0, asKa1, asKa2, asKa3, asKa4, asKa5, asKa6]
def moreLO_d0 : List Duty := [(true, (.fn 1 (.bi .pair (.bi (.iop .xor .u32) (.bi (.iop .shr .u32) (.var 1) (.int 8)) (.bi .sel (.lits crcT) (.bi (.iop .xor .u8) (.un (.wrap .u8) (.var 1)) (.bi .sel (.var 2) (.bi .add (.var 4) (.var 0)))))) (.bi .pair (.var 2) (.bi .pair (.bi .add (.var 4) (.bi .add (.var 0) (.int 1))) (.bi .pair (.bi .add (.var 4) (.var 5)) (.int 0)))))), (.fn 1 (.bi .pair (.var 1) (.bi .pair (.var 2) (.bi .pair (.bi .add (.var 4) (.var 0)) (.bi .pair (.bi .add (.var 4) (.var 5)) (.int 0)))))))]
def moreLO_h0 : List (Nat × E) := [(3, (.var 3)), (2, (.var 2)), (4, (.var 4)), (5, (.var 5)), (6, (.var 6)), (1, (.bi (.iop .xor .u32) (.bi (.iop .shr .u32) (.var 1) (.int 8)) (.bi .sel (.lits crcT) (.bi (.iop .xor .u8) (.un (.wrap .u8) (.var 1)) (.bi .sel (.var 2) (.bi .add (.var 4) (.var 0))))))), (0, (.bi .add (.var 0) (.int 1)))]
theorem moreLO_h0_0 : lookE moreLO_h0 0 = (.bi .add (.var 0) (.int 1)) := rfl
theorem moreLO_h0_1 : lookE moreLO_h0 1 = (.bi (.iop .xor .u32) (.bi (.iop .shr .u32) (.var 1) (.int 8)) (.bi .sel (.lits crcT) (.bi (.iop .xor .u8) (.un (.wrap .u8) (.var 1)) (.bi .sel (.var 2) (.bi .add (.var 4) (.var 0)))))) := rfl
theorem moreLO_h0_2 : lookE moreLO_h0 2 = (.var 2) := rfl
theorem moreLO_h0_3 : lookE moreLO_h0 3 = (.var 3) := rfl
theorem moreLO_h0_4 : lookE moreLO_h0 4 = (.var 4) := rfl
theorem moreLO_h0_5 : lookE moreLO_h0 5 = (.var 5) := rfl
theorem moreLO_h0_6 : lookE moreLO_h0 6 = (.var 6) := rfl
theorem moreLO_y0 : nextD moreLO moreLO_h0 [(1, 1), (3, 3)] (roundC Tryd.prog [⟨50, [4, 1, 0, 1, 1, 1], moreL⟩] [(52, tableC)] [] 3000 40 50 [4, 1, 0, 1, 1, 1] (tellA moreLO_t0) moreLO) = some moreLO_d0 := by kernel_rfl
def moreLO_t1 : List (Q × Bool) := [asKa7]
def moreLO_d1 : List Duty := [(true, (.var 1), (.fn 1 (.bi .pair (.var 1) (.bi .pair (.var 2) (.bi .pair (.bi .add (.var 4) (.var 0)) (.bi .pair (.bi .add (.var 4) (.var 5)) (.int 0)))))))]
theorem moreLO_y1 : endD moreLO [(1, 1), (3, 3)] 1000 (roundC Tryd.prog [⟨50, [4, 1, 0, 1, 1, 1], moreL⟩] [(52, tableC)] [] 3000 40 50 [4, 1, 0, 1, 1, 1] (tellA moreLO_t1) moreLO) = some moreLO_d1 := by kernel_rfl
theorem moreLO_holds : LHolds Tryd.prog (loopAt Tryd.prog 50 [4, 1, 0, 1, 1, 1]) moreLO F := by
  refine loop_roundsC sound (tableCons moreL_holds (tableNil _ _)) (specsCons tableC_holds (specsNil _ _)) (oversNil _ _) (fuel := 3000) (depth := 40) (by kernel_rfl) (by kernel_rfl) (by kernel_rfl) (fun d => ((d 5).toInt - (d 0).toInt).toNat) fun d hp hR hA => ?_
  have hp := allTold'_iff.2 hp
  simp only [moreLO, allTold', dutiesTold, factsA, factsC, factsP, factsR, AV.facts, RW.facts, inK, and_true, Q.holds', E.i, E.s, E.n, D.nat, E.den, BO.den, UO.den, TO.den, D.toInt_int, D.toList_list, D.ints_ofInts, i64min, i64max, u8min, u8max, u16min, u16max, u32min, u32max, u64min, u64max, i32min, i32max, Om.sub, selI, ints_app, ints_cut, ints_upd, ints_rep, ints_splice, ints_seg, len_ints] at hp hR hA
  by_cases h : (d 5).toInt ≤ (d 0).toInt
  · refine ⟨tellA moreLO_t1, tellA_ok (allTold'_iff.1 ?_), .inl ⟨_, _, _, moreLO_y1, dutiesTold_ok ?_⟩⟩
    · simp only [moreLO_t1, allTold', dutiesTold, factsA, factsC, factsP, factsR, AV.facts, RW.facts, inK, and_true, Q.holds', E.i, E.s, E.n, D.nat, E.den, BO.den, UO.den, TO.den, D.toInt_int, D.toList_list, D.ints_ofInts, i64min, i64max, u8min, u8max, u16min, u16max, u32min, u32max, u64min, u64max, i32min, i32max, Om.sub, selI, ints_app, ints_cut, ints_upd, ints_rep, ints_splice, ints_seg, len_ints]
      omega
    · simp only [moreLO_d1, F1, allTold', dutiesTold, factsA, factsC, factsP, factsR, AV.facts, RW.facts, inK, and_true, Q.holds', E.i, E.s, E.n, D.nat, E.den, BO.den, UO.den, TO.den, D.toInt_int, D.toList_list, D.ints_ofInts, i64min, i64max, u8min, u8max, u16min, u16max, u32min, u32max, u64min, u64max, i32min, i32max, Om.sub, selI, ints_app, ints_cut, ints_upd, ints_rep, ints_splice, ints_seg, len_ints]
      rw [prt_nil (by omega) (by omega)]
      rfl
  · refine ⟨tellA moreLO_t0, tellA_ok (allTold'_iff.1 ?_), .inr ⟨moreLO_h0, _, _, moreLO_y0, dutiesTold_ok ?_, allTold'_iff.1 ?_, ?_⟩⟩
    · simp only [moreLO_t0, allTold', dutiesTold, factsA, factsC, factsP, factsR, AV.facts, RW.facts, inK, and_true, Q.holds', E.i, E.s, E.n, D.nat, E.den, BO.den, UO.den, TO.den, D.toInt_int, D.toList_list, D.ints_ofInts, i64min, i64max, u8min, u8max, u16min, u16max, u32min, u32max, u64min, u64max, i32min, i32max, Om.sub, selI, ints_app, ints_cut, ints_upd, ints_rep, ints_splice, ints_seg, len_ints]
      have := xor_in .u8 (IntKind.u8.wrap (d 1).toInt) (((d 2).ints[((d 4).toInt + (d 0).toInt).toNat]?).getD 0)
      simp only [u8min, u8max] at this
      omega
    · simp only [moreLO_d0, F1, allTold', dutiesTold, factsA, factsC, factsP, factsR, AV.facts, RW.facts, inK, and_true, Q.holds', E.i, E.s, E.n, D.nat, E.den, BO.den, UO.den, TO.den, D.toInt_int, D.toList_list, D.ints_ofInts, i64min, i64max, u8min, u8max, u16min, u16max, u32min, u32max, u64min, u64max, i32min, i32max, Om.sub, selI, ints_app, ints_cut, ints_upd, ints_rep, ints_splice, ints_seg, len_ints]
      rw [prt_step (x := (d 2).ints) (o := (d 4).toInt + (d 0).toInt) (by omega) (by omega) (by omega), Int.add_assoc]
      rfl
    · simp only [moreLO, moreLO_h0_0, moreLO_h0_1, moreLO_h0_2, moreLO_h0_3, moreLO_h0_4, moreLO_h0_5, moreLO_h0_6, allTold', dutiesTold, factsA, factsC, factsP, factsR, AV.facts, RW.facts, inK, and_true, Q.holds', E.i, E.s, E.n, D.nat, E.den, BO.den, UO.den, TO.den, D.toInt_int, D.toList_list, D.ints_ofInts, i64min, i64max, u8min, u8max, u16min, u16max, u32min, u32max, u64min, u64max, i32min, i32max, Om.sub, selI, ints_app, ints_cut, ints_upd, ints_rep, ints_splice, ints_seg, len_ints]
      omega
    · simp only [moreLO_h0_0, moreLO_h0_1, moreLO_h0_2, moreLO_h0_3, moreLO_h0_4, moreLO_h0_5, moreLO_h0_6, allTold', dutiesTold, factsA, factsC, factsP, factsR, AV.facts, RW.facts, inK, and_true, Q.holds', E.i, E.s, E.n, D.nat, E.den, BO.den, UO.den, TO.den, D.toInt_int, D.toList_list, D.ints_ofInts, i64min, i64max, u8min, u8max, u16min, u16max, u32min, u32max, u64min, u64max, i32min, i32max, Om.sub, selI, ints_app, ints_cut, ints_upd, ints_rep, ints_splice, ints_seg, len_ints]
      omega

def moreC : CSpec := { args := [.sint .u32 (.var 0), .sslice 3 (.var 1) (.var 2) (.var 3) false], next := 2, rows := [(3, .eseq ⟨.u8, .var 4, .var 5⟩)], pre := [(.le (.bi .add (.var 1) (.var 2)) (.var 4), true), (.le (.var 2) (.int 1000000), true)], res := .sint .u32 (.fn 2 (argsE [.var 0, .var 5, .var 1, .bi .add (.var 1) (.var 2)])), frows := [], same := [] }
abbrev asKa8 : Q × Bool := ((.fit .i64 (.var 2)), true)
abbrev asKa9 : Q × Bool := ((.le (.int 0) (.var 2)), true)
abbrev asKa10 : Q × Bool := ((.le (.bi .add (.var 1) (.var 2)) (.var 4)), true)
def moreC_t0 : List (Q × Bool) := [asKa8, asKa9, asKa10]
def moreC_d0 : List Duty := [(true, (.bi (.iop .xor .u32) (.int 4294967295) (.fn 1 (.bi .pair (.bi (.iop .xor .u32) (.int 4294967295) (.var 0)) (.bi .pair (.var 5) (.bi .pair (.bi .add (.var 1) (.int 0)) (.bi .pair (.bi .add (.var 1) (.var 2)) (.int 0))))))), (.fn 2 (.bi .pair (.var 0) (.bi .pair (.var 5) (.bi .pair (.var 1) (.bi .pair (.bi .add (.var 1) (.var 2)) (.int 0)))))))]
theorem moreC_y0 : endC moreC [] 1000 (callC Tryd.prog (tellA moreC_t0) [⟨50, [4, 1, 0, 1, 1, 1], moreL⟩, ⟨50, [4, 1, 0, 1, 1, 1], moreLO⟩] [(52, tableC)] [] 3000 40 50 moreC) = some moreC_d0 := by kernel_rfl
theorem moreC_holds : CHolds Tryd.prog 50 moreC F := by
  refine cholds_of sound (tableCons moreL_holds (tableCons moreLO_holds (tableNil _ _))) (specsCons tableC_holds (specsNil _ _)) (oversNil _ _) (fuel := 3000) (depth := 40) (by kernel_rfl) fun d hp hR hA => ?_
  have hp := allTold'_iff.2 hp
  simp only [moreC, allTold', dutiesTold, factsA, factsC, factsP, factsR, AV.facts, RW.facts, inK, and_true, Q.holds', E.i, E.s, E.n, D.nat, E.den, BO.den, UO.den, TO.den, D.toInt_int, D.toList_list, D.ints_ofInts, i64min, i64max, u8min, u8max, u16min, u16max, u32min, u32max, u64min, u64max, i32min, i32max, Om.sub, selI, ints_app, ints_cut, ints_upd, ints_rep, ints_splice, ints_seg, len_ints] at hp hR hA
  refine ⟨tellA moreC_t0, _, _, _, tellA_ok (allTold'_iff.1 ?_), moreC_y0, dutiesTold_ok ?_⟩
  · simp only [moreC_t0, allTold', dutiesTold, factsA, factsC, factsP, factsR, AV.facts, RW.facts, inK, and_true, Q.holds', E.i, E.s, E.n, D.nat, E.den, BO.den, UO.den, TO.den, D.toInt_int, D.toList_list, D.ints_ofInts, i64min, i64max, u8min, u8max, u16min, u16max, u32min, u32max, u64min, u64max, i32min, i32max, Om.sub, selI, ints_app, ints_cut, ints_upd, ints_rep, ints_splice, ints_seg, len_ints]
    omega
  · simp only [moreC_d0, F1, F2, Int.add_zero, allTold', dutiesTold, factsA, factsC, factsP, factsR, AV.facts, RW.facts, inK, and_true, Q.holds', E.i, E.s, E.n, D.nat, E.den, BO.den, UO.den, TO.den, D.toInt_int, D.toList_list, D.ints_ofInts, i64min, i64max, u8min, u8max, u16min, u16max, u32min, u32max, u64min, u64max, i32min, i32max, Om.sub, selI, ints_app, ints_cut, ints_upd, ints_rep, ints_splice, ints_seg, len_ints]
    rfl

def moreCO : CSpec := { args := [.sint .u32 (.var 0), .sslice 3 (.var 1) (.var 2) (.var 3) true], next := 2, rows := [(3, .eseq ⟨.u8, .var 4, .var 5⟩)], pre := [(.le (.bi .add (.var 1) (.var 2)) (.var 4), true), (.le (.var 2) (.int 1000000), true)], res := .sint .u32 (.fn 2 (argsE [.var 0, .var 5, .var 1, .bi .add (.var 1) (.var 2)])), frows := [], same := [] }
def moreCO_t0 : List (Q × Bool) := [asKa8, asKa9, asKa10]
def moreCO_d0 : List Duty := [(true, (.bi (.iop .xor .u32) (.int 4294967295) (.fn 1 (.bi .pair (.bi (.iop .xor .u32) (.int 4294967295) (.var 0)) (.bi .pair (.var 5) (.bi .pair (.bi .add (.var 1) (.int 0)) (.bi .pair (.bi .add (.var 1) (.var 2)) (.int 0))))))), (.fn 2 (.bi .pair (.var 0) (.bi .pair (.var 5) (.bi .pair (.var 1) (.bi .pair (.bi .add (.var 1) (.var 2)) (.int 0)))))))]
theorem moreCO_y0 : endC moreCO [] 1000 (callC Tryd.prog (tellA moreCO_t0) [⟨50, [4, 1, 0, 1, 1, 1], moreL⟩, ⟨50, [4, 1, 0, 1, 1, 1], moreLO⟩] [(52, tableC), (50, moreC)] [] 3000 40 50 moreCO) = some moreCO_d0 := by kernel_rfl
theorem moreCO_holds : CHolds Tryd.prog 50 moreCO F := by
  refine cholds_of sound (tableCons moreL_holds (tableCons moreLO_holds (tableNil _ _))) (specsCons tableC_holds (specsCons moreC_holds (specsNil _ _))) (oversNil _ _) (fuel := 3000) (depth := 40) (by kernel_rfl) fun d hp hR hA => ?_
  have hp := allTold'_iff.2 hp
  simp only [moreCO, allTold', dutiesTold, factsA, factsC, factsP, factsR, AV.facts, RW.facts, inK, and_true, Q.holds', E.i, E.s, E.n, D.nat, E.den, BO.den, UO.den, TO.den, D.toInt_int, D.toList_list, D.ints_ofInts, i64min, i64max, u8min, u8max, u16min, u16max, u32min, u32max, u64min, u64max, i32min, i32max, Om.sub, selI, ints_app, ints_cut, ints_upd, ints_rep, ints_splice, ints_seg, len_ints] at hp hR hA
  refine ⟨tellA moreCO_t0, _, _, _, tellA_ok (allTold'_iff.1 ?_), moreCO_y0, dutiesTold_ok ?_⟩
  · simp only [moreCO_t0, allTold', dutiesTold, factsA, factsC, factsP, factsR, AV.facts, RW.facts, inK, and_true, Q.holds', E.i, E.s, E.n, D.nat, E.den, BO.den, UO.den, TO.den, D.toInt_int, D.toList_list, D.ints_ofInts, i64min, i64max, u8min, u8max, u16min, u16max, u32min, u32max, u64min, u64max, i32min, i32max, Om.sub, selI, ints_app, ints_cut, ints_upd, ints_rep, ints_splice, ints_seg, len_ints]
    omega
  · simp only [moreCO_d0, F1, F2, Int.add_zero, allTold', dutiesTold, factsA, factsC, factsP, factsR, AV.facts, RW.facts, inK, and_true, Q.holds', E.i, E.s, E.n, D.nat, E.den, BO.den, UO.den, TO.den, D.toInt_int, D.toList_list, D.ints_ofInts, i64min, i64max, u8min, u8max, u16min, u16max, u32min, u32max, u64min, u64max, i32min, i32max, Om.sub, selI, ints_app, ints_cut, ints_upd, ints_rep, ints_splice, ints_seg, len_ints]
    rfl

def pickC : CSpec := { args := [.sint .i64 (.var 0), .sint .i64 (.var 1)], next := 0, rows := [], pre := [(.le (.int 1) (.var 1), true)], res := .sint .i64 (.fn 7 (argsE [.var 0, .var 1])), frows := [], same := [] }
abbrev asKa11 : Q × Bool := ((.le (.int 1) (.var 1)), true)
abbrev asKa12 : Q × Bool := ((.eq (.var 1) (.int 0)), false)
abbrev asKa13 : Q × Bool := ((.le (.int 0) (.bi (.iop .rem .i64) (.var 0) (.var 1))), true)
def pickC_t0 : List (Q × Bool) := [asKa11, asKa12, asKa13]
def pickC_d0 : List Duty := [(true, (.bi (.iop .rem .i64) (.var 0) (.var 1)), (.fn 7 (.bi .pair (.var 0) (.bi .pair (.var 1) (.int 0)))))]
theorem pickC_y0 : endC pickC [] 1000 (callC Tryd.prog (tellA pickC_t0) [] [] [] 3000 40 23 pickC) = some pickC_d0 := by kernel_rfl
abbrev asKa14 : Q × Bool := ((.le (.int 0) (.bi (.iop .rem .i64) (.var 0) (.var 1))), false)
abbrev asKa15 : Q × Bool := ((.fit .i64 (.bi .add (.bi (.iop .rem .i64) (.var 0) (.var 1)) (.var 1))), true)
def pickC_t1 : List (Q × Bool) := [asKa11, asKa12, asKa14, asKa15]
def pickC_d1 : List Duty := [(true, (.bi .add (.bi (.iop .rem .i64) (.var 0) (.var 1)) (.var 1)), (.fn 7 (.bi .pair (.var 0) (.bi .pair (.var 1) (.int 0)))))]
theorem pickC_y1 : endC pickC [] 1000 (callC Tryd.prog (tellA pickC_t1) [] [] [] 3000 40 23 pickC) = some pickC_d1 := by kernel_rfl
theorem pickC_holds : CHolds Tryd.prog 23 pickC F := by
  refine cholds_of sound (tableNil _ _) (specsNil _ _) (oversNil _ _) (fuel := 3000) (depth := 40) (by kernel_rfl) fun d hp hR hA => ?_
  have hp := allTold'_iff.2 hp
  simp only [pickC, allTold', dutiesTold, factsA, factsC, factsP, factsR, AV.facts, RW.facts, inK, and_true, Q.holds', E.i, E.s, E.n, D.nat, E.den, BO.den, UO.den, TO.den, D.toInt_int, D.toList_list, D.ints_ofInts, i64min, i64max, u8min, u8max, u16min, u16max, u32min, u32max, u64min, u64max, i32min, i32max, Om.sub, selI, ints_app, ints_cut, ints_upd, ints_rep, ints_splice, ints_seg, len_ints] at hp hR hA
  have e1 := emod_in (x := (d 0).toInt) hp
  have e2 := tmod_or .i64 (x := (d 0).toInt) hp
  by_cases h : 0 ≤ iopI .rem .i64 (d 0).toInt (d 1).toInt
  · refine ⟨tellA pickC_t0, _, _, _, tellA_ok (allTold'_iff.1 ?_), pickC_y0, dutiesTold_ok ?_⟩
    · simp only [pickC_t0, allTold', dutiesTold, factsA, factsC, factsP, factsR, AV.facts, RW.facts, inK, and_true, Q.holds', E.i, E.s, E.n, D.nat, E.den, BO.den, UO.den, TO.den, D.toInt_int, D.toList_list, D.ints_ofInts, i64min, i64max, u8min, u8max, u16min, u16max, u32min, u32max, u64min, u64max, i32min, i32max, Om.sub, selI, ints_app, ints_cut, ints_upd, ints_rep, ints_splice, ints_seg, len_ints]
      omega
    · simp only [pickC_d0, F7, allTold', dutiesTold, factsA, factsC, factsP, factsR, AV.facts, RW.facts, inK, and_true, Q.holds', E.i, E.s, E.n, D.nat, E.den, BO.den, UO.den, TO.den, D.toInt_int, D.toList_list, D.ints_ofInts, i64min, i64max, u8min, u8max, u16min, u16max, u32min, u32max, u64min, u64max, i32min, i32max, Om.sub, selI, ints_app, ints_cut, ints_upd, ints_rep, ints_splice, ints_seg, len_ints]
      omega
  · refine ⟨tellA pickC_t1, _, _, _, tellA_ok (allTold'_iff.1 ?_), pickC_y1, dutiesTold_ok ?_⟩
    · simp only [pickC_t1, allTold', dutiesTold, factsA, factsC, factsP, factsR, AV.facts, RW.facts, inK, and_true, Q.holds', E.i, E.s, E.n, D.nat, E.den, BO.den, UO.den, TO.den, D.toInt_int, D.toList_list, D.ints_ofInts, i64min, i64max, u8min, u8max, u16min, u16max, u32min, u32max, u64min, u64max, i32min, i32max, Om.sub, selI, ints_app, ints_cut, ints_upd, ints_rep, ints_splice, ints_seg, len_ints]
      omega
    · simp only [pickC_d1, F7, allTold', dutiesTold, factsA, factsC, factsP, factsR, AV.facts, RW.facts, inK, and_true, Q.holds', E.i, E.s, E.n, D.nat, E.den, BO.den, UO.den, TO.den, D.toInt_int, D.toList_list, D.ints_ofInts, i64min, i64max, u8min, u8max, u16min, u16max, u32min, u32max, u64min, u64max, i32min, i32max, Om.sub, selI, ints_app, ints_cut, ints_upd, ints_rep, ints_splice, ints_seg, len_ints]
      omega

def putC : CSpec := { args := [.sslice 3 (.var 1) (.var 2) (.var 3) false], next := 2, rows := [(3, .eseq ⟨.u8, .var 4, .var 5⟩)], pre := [(.le (.bi .add (.var 1) (.var 2)) (.var 4), true), (.le (.var 2) (.int 1000000), true)], res := .sslice 5 (.int 0) (.bi .add (.var 2) (.int 4)) (.bi .add (.var 2) (.int 4)) true, frows := [(5, .seq ⟨5, .u8, .bi .add (.var 2) (.int 4), .fn 8 (argsE [.var 5, .var 1, .bi .add (.var 1) (.var 2)]), true, false⟩)], same := [] }
abbrev asKa16 : Q × Bool := ((.le (.var 2) (.int 1000000)), true)
abbrev asKa17 : Q × Bool := ((.fit .i64 (.bi .add (.var 2) (.int 4))), true)
abbrev asKa18 : Q × Bool := ((.le (.int 0) (.bi .add (.var 2) (.int 4))), true)
abbrev asKa19 : Q × Bool := ((.le (.bi .add (.var 2) (.int 4)) (.int 0)), false)
abbrev asKa20 : Q × Bool := ((.le (.bi .mul (.bi .add (.var 2) (.int 4)) (.int 2)) (.int 281474976710656)), true)
abbrev asKa21 : Q × Bool := ((.le (.bi .mul (.var 2) (.int 2)) (.int 281474976710656)), true)
def putC_t0 : List (Q × Bool) := [asKa10, asKa16, asKa8, asKa9, asKa17, asKa18, asKa19, asKa20, asKa21]
abbrev teKa0 : E := (.bi .pair (.var 5) (.bi .pair (.var 1) (.bi .pair (.bi .add (.var 1) (.var 2)) (.int 0))))
def putC_d0 : List Duty := [(false, (.bi .app (.bi .app (.tr .cut (.bi .rep (.bi .add (.var 2) (.int 4)) (.int 0)) (.int 0) (.int 0)) (.tr .cut (.var 5) (.var 1) (.bi .add (.var 1) (.var 2)))) (.bi .app (.un .one (.un (.wrap .u8) (.fn 2 (.bi .pair (.int 0) teKa0)))) (.bi .app (.un .one (.un (.wrap .u8) (.bi (.iop .shr .u32) (.fn 2 (.bi .pair (.int 0) teKa0)) (.int 8)))) (.bi .app (.un .one (.un (.wrap .u8) (.bi (.iop .shr .u32) (.fn 2 (.bi .pair (.int 0) teKa0)) (.int 16)))) (.bi .app (.un .one (.un (.wrap .u8) (.bi (.iop .shr .u32) (.fn 2 (.bi .pair (.int 0) teKa0)) (.int 24)))) (.lits [])))))), (.fn 8 teKa0))]
theorem putC_y0 : endC putC [(5, 15)] 1000 (callC Tryd.prog (tellA putC_t0) [⟨50, [4, 1, 0, 1, 1, 1], moreL⟩, ⟨50, [4, 1, 0, 1, 1, 1], moreLO⟩] [(52, tableC), (50, moreC), (50, moreCO), (23, pickC)] [] 3000 40 29 putC) = some putC_d0 := by kernel_rfl
theorem putC_holds : CHolds Tryd.prog 29 putC F := by
  refine cholds_of sound (tableCons moreL_holds (tableCons moreLO_holds (tableNil _ _))) (specsCons tableC_holds (specsCons moreC_holds (specsCons moreCO_holds (specsCons pickC_holds (specsNil _ _))))) (oversNil _ _) (fuel := 3000) (depth := 40) (by kernel_rfl) fun d hp hR hA => ?_
  have hp := allTold'_iff.2 hp
  simp only [putC, allTold', dutiesTold, factsA, factsC, factsP, factsR, AV.facts, RW.facts, inK, and_true, Q.holds', E.i, E.s, E.n, D.nat, E.den, BO.den, UO.den, TO.den, D.toInt_int, D.toList_list, D.ints_ofInts, i64min, i64max, u8min, u8max, u16min, u16max, u32min, u32max, u64min, u64max, i32min, i32max, Om.sub, selI, ints_app, ints_cut, ints_upd, ints_rep, ints_splice, ints_seg, len_ints] at hp hR hA
  refine ⟨tellA putC_t0, _, _, _, tellA_ok (allTold'_iff.1 ?_), putC_y0, dutiesTold_ok ?_⟩
  · simp only [putC_t0, allTold', dutiesTold, factsA, factsC, factsP, factsR, AV.facts, RW.facts, inK, and_true, Q.holds', E.i, E.s, E.n, D.nat, E.den, BO.den, UO.den, TO.den, D.toInt_int, D.toList_list, D.ints_ofInts, i64min, i64max, u8min, u8max, u16min, u16max, u32min, u32max, u64min, u64max, i32min, i32max, Om.sub, selI, ints_app, ints_cut, ints_upd, ints_rep, ints_splice, ints_seg, len_ints]
    omega
  · simp only [putC_d0, F8, F2, ints_list, List.map_append, List.map_drop, List.map_take, List.map_replicate, List.map_cons, List.map_nil, map_ints, allTold', dutiesTold, factsA, factsC, factsP, factsR, AV.facts, RW.facts, inK, and_true, Q.holds', E.i, E.s, E.n, D.nat, E.den, BO.den, UO.den, TO.den, D.toInt_int, D.toList_list, D.ints_ofInts, i64min, i64max, u8min, u8max, u16min, u16max, u32min, u32max, u64min, u64max, i32min, i32max, Om.sub, selI, ints_app, ints_cut, ints_upd, ints_rep, ints_splice, ints_seg, len_ints]
    simp [putI, le4, sumI, prt]

def putCO : CSpec := { args := [.sslice 3 (.var 1) (.var 2) (.var 3) true], next := 2, rows := [(3, .eseq ⟨.u8, .var 4, .var 5⟩)], pre := [(.le (.bi .add (.var 1) (.var 2)) (.var 4), true), (.le (.var 2) (.int 1000000), true)], res := .sslice 5 (.int 0) (.bi .add (.var 2) (.int 4)) (.bi .add (.var 2) (.int 4)) true, frows := [(5, .seq ⟨5, .u8, .bi .add (.var 2) (.int 4), .fn 8 (argsE [.var 5, .var 1, .bi .add (.var 1) (.var 2)]), true, false⟩)], same := [] }
def putCO_t0 : List (Q × Bool) := [asKa10, asKa16, asKa8, asKa9, asKa17, asKa18, asKa19, asKa20, asKa21]
def putCO_d0 : List Duty := [(false, (.bi .app (.bi .app (.tr .cut (.bi .rep (.bi .add (.var 2) (.int 4)) (.int 0)) (.int 0) (.int 0)) (.tr .cut (.var 5) (.var 1) (.bi .add (.var 1) (.var 2)))) (.bi .app (.un .one (.un (.wrap .u8) (.fn 2 (.bi .pair (.int 0) teKa0)))) (.bi .app (.un .one (.un (.wrap .u8) (.bi (.iop .shr .u32) (.fn 2 (.bi .pair (.int 0) teKa0)) (.int 8)))) (.bi .app (.un .one (.un (.wrap .u8) (.bi (.iop .shr .u32) (.fn 2 (.bi .pair (.int 0) teKa0)) (.int 16)))) (.bi .app (.un .one (.un (.wrap .u8) (.bi (.iop .shr .u32) (.fn 2 (.bi .pair (.int 0) teKa0)) (.int 24)))) (.lits [])))))), (.fn 8 teKa0))]
theorem putCO_y0 : endC putCO [(5, 15)] 1000 (callC Tryd.prog (tellA putCO_t0) [⟨50, [4, 1, 0, 1, 1, 1], moreL⟩, ⟨50, [4, 1, 0, 1, 1, 1], moreLO⟩] [(52, tableC), (50, moreC), (50, moreCO), (23, pickC), (29, putC)] [] 3000 40 29 putCO) = some putCO_d0 := by kernel_rfl
theorem putCO_holds : CHolds Tryd.prog 29 putCO F := by
  refine cholds_of sound (tableCons moreL_holds (tableCons moreLO_holds (tableNil _ _))) (specsCons tableC_holds (specsCons moreC_holds (specsCons moreCO_holds (specsCons pickC_holds (specsCons putC_holds (specsNil _ _)))))) (oversNil _ _) (fuel := 3000) (depth := 40) (by kernel_rfl) fun d hp hR hA => ?_
  have hp := allTold'_iff.2 hp
  simp only [putCO, allTold', dutiesTold, factsA, factsC, factsP, factsR, AV.facts, RW.facts, inK, and_true, Q.holds', E.i, E.s, E.n, D.nat, E.den, BO.den, UO.den, TO.den, D.toInt_int, D.toList_list, D.ints_ofInts, i64min, i64max, u8min, u8max, u16min, u16max, u32min, u32max, u64min, u64max, i32min, i32max, Om.sub, selI, ints_app, ints_cut, ints_upd, ints_rep, ints_splice, ints_seg, len_ints] at hp hR hA
  refine ⟨tellA putCO_t0, _, _, _, tellA_ok (allTold'_iff.1 ?_), putCO_y0, dutiesTold_ok ?_⟩
  · simp only [putCO_t0, allTold', dutiesTold, factsA, factsC, factsP, factsR, AV.facts, RW.facts, inK, and_true, Q.holds', E.i, E.s, E.n, D.nat, E.den, BO.den, UO.den, TO.den, D.toInt_int, D.toList_list, D.ints_ofInts, i64min, i64max, u8min, u8max, u16min, u16max, u32min, u32max, u64min, u64max, i32min, i32max, Om.sub, selI, ints_app, ints_cut, ints_upd, ints_rep, ints_splice, ints_seg, len_ints]
    omega
  · simp only [putCO_d0, F8, F2, ints_list, List.map_append, List.map_drop, List.map_take, List.map_replicate, List.map_cons, List.map_nil, map_ints, allTold', dutiesTold, factsA, factsC, factsP, factsR, AV.facts, RW.facts, inK, and_true, Q.holds', E.i, E.s, E.n, D.nat, E.den, BO.den, UO.den, TO.den, D.toInt_int, D.toList_list, D.ints_ofInts, i64min, i64max, u8min, u8max, u16min, u16max, u32min, u32max, u64min, u64max, i32min, i32max, Om.sub, selI, ints_app, ints_cut, ints_upd, ints_rep, ints_splice, ints_seg, len_ints]
    simp [putI, le4, sumI, prt]

end Go.Proofs.YtlmcjfcfmcdcpaaDoor.Ka
