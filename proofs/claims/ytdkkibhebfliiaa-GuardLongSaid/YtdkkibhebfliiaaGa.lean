/-
  Contracts of this seat: what loops and calls leave, for all inputs. No condition.
-/
import Derived.Test.YtdkkibhebfliiaaSylm
import Derived.Test.YtdkkibhebfliiaaCo
set_option linter.unusedSimpArgs false
set_option linter.unusedVariables false
namespace Go.Proofs.Ytdkkibhebfliiaa.Ga
open Go.RowKit Go.Ev Go.Proofs.Ytdkkibhebfliiaa.Co


def crcT : List Int := [0, 1996959894, 3993919788, 2567524794, 124634137, 1886057615, 3915621685, 2657392035, 249268274, 2044508324, 3772115230, 2547177864, 162941995, 2125561021, 3887607047, 2428444049, 498536548, 1789927666, 4089016648, 2227061214, 450548861, 1843258603, 4107580753, 2211677639, 325883990, 1684777152, 4251122042, 2321926636, 335633487, 1661365465, 4195302755, 2366115317, 997073096, 1281953886, 3579855332, 2724688242, 1006888145, 1258607687, 3524101629, 2768942443, 901097722, 1119000684, 3686517206, 2898065728, 853044451, 1172266101, 3705015759, 2882616665, 651767980, 1373503546, 3369554304, 3218104598, 565507253, 1454621731, 3485111705, 3099436303, 671266974, 1594198024, 3322730930, 2970347812, 795835527, 1483230225, 3244367275, 3060149565, 1994146192, 31158534, 2563907772, 4023717930, 1907459465, 112637215, 2680153253, 3904427059, 2013776290, 251722036, 2517215374, 3775830040, 2137656763, 141376813, 2439277719, 3865271297, 1802195444, 476864866, 2238001368, 4066508878, 1812370925, 453092731, 2181625025, 4111451223, 1706088902, 314042704, 2344532202, 4240017532, 1658658271, 366619977, 2362670323, 4224994405, 1303535960, 984961486, 2747007092, 3569037538, 1256170817, 1037604311, 2765210733, 3554079995, 1131014506, 879679996, 2909243462, 3663771856, 1141124467, 855842277, 2852801631, 3708648649, 1342533948, 654459306, 3188396048, 3373015174, 1466479909, 544179635, 3110523913, 3462522015, 1591671054, 702138776, 2966460450, 3352799412, 1504918807, 783551873, 3082640443, 3233442989, 3988292384, 2596254646, 62317068, 1957810842, 3939845945, 2647816111, 81470997, 1943803523, 3814918930, 2489596804, 225274430, 2053790376, 3826175755, 2466906013, 167816743, 2097651377, 4027552580, 2265490386, 503444072, 1762050814, 4150417245, 2154129355, 426522225, 1852507879, 4275313526, 2312317920, 282753626, 1742555852, 4189708143, 2394877945, 397917763, 1622183637, 3604390888, 2714866558, 953729732, 1340076626, 3518719985, 2797360999, 1068828381, 1219638859, 3624741850, 2936675148, 906185462, 1090812512, 3747672003, 2825379669, 829329135, 1181335161, 3412177804, 3160834842, 628085408, 1382605366, 3423369109, 3138078467, 570562233, 1426400815, 3317316542, 2998733608, 733239954, 1555261956, 3268935591, 3050360625, 752459403, 1541320221, 2607071920, 3965973030, 1969922972, 40735498, 2617837225, 3943577151, 1913087877, 83908371, 2512341634, 3803740692, 2075208622, 213261112, 2463272603, 3855990285, 2094854071, 198958881, 2262029012, 4057260610, 1759359992, 534414190, 2176718541, 4139329115, 1873836001, 414664567, 2282248934, 4279200368, 1711684554, 285281116, 2405801727, 4167216745, 1634467795, 376229701, 2685067896, 3608007406, 1308918612, 956543938, 2808555105, 3495958263, 1231636301, 1047427035, 2932959818, 3654703836, 1088359270, 936918000, 2847714899, 3736837829, 1202900863, 817233897, 3183342108, 3401237130, 1404277552, 615818150, 3134207493, 3453421203, 1423857449, 601450431, 3009837614, 3294710456, 1567103746, 711928724, 3020668471, 3272380065, 1510334235, 755167117]
def crcAV : List AV := crcT.map (.int .u32)
def stepI (n c : Int) : Int := iopI .xor .u32 (iopI .shr .u32 n 8) ((crcT[(iopI .xor .u8 (IntKind.u8.wrap n) c).toNat]?).getD 0)
def moreI (n : Int) (l : List Int) : Int := l.foldl stepI n
def notI (n : Int) : Int := iopI .xor .u32 4294967295 n
def bitI (n c k : Int) : Int := if iopI .rem .u32 n 2 = iopI .rem .u32 (iopI .shr .u8 c k) 2 then iopI .shr .u32 n 1 else iopI .xor .u32 (iopI .shr .u32 n 1) 3988292384
def bitsI (c : Int) : Nat → Int → Int → Int
  | 0, _, n => n
  | r + 1, k, n => bitsI c r (k + 1) (bitI n c k)
def markI (i : Int) : Int := 160 + i % 90
def lentI (l : List Int) : List Int := l ++ [markI l.length, markI (l.length + 1), markI (l.length + 2)]
def refI (n : Int) (l : List Int) : Int := l.foldl (fun n c => bitsI c 8 0 n) n
def flipB (fr i : Int) (l : List Int) : List Int := l.set (iopI .quo .i64 (fr + i) 8).toNat (iopI .xor .u8 ((l[(iopI .quo .i64 (fr + i) 8).toNat]?).getD 0) (iopI .shl .u8 1 (iopI .rem .i64 (fr + i) 8)))
def flipI (fr m : Int) : Nat → Int → List Int → List Int
  | 0, _, l => l
  | r + 1, i, l => flipI fr m r (i + 1) (if iopI .rem .u32 (iopI .shr .u32 m i) 2 = 1 then flipB fr i l else l)
def le4 (n : Int) : List Int := [IntKind.u8.wrap n, IntKind.u8.wrap (iopI .shr .u32 n 8), IntKind.u8.wrap (iopI .shr .u32 n 16), IntKind.u8.wrap (iopI .shr .u32 n 24)]
def sumI (l : List Int) : Int := notI (moreI (notI 0) l)
def rsumI (l : List Int) : Int := notI (refI 4294967295 l)
def putI (l : List Int) : List Int := l ++ le4 (sumI l)
def rputI (l : List Int) : List Int := l ++ le4 (rsumI l)
/-- 1: the number behind x[o..t), from n on. 2: so of sums. 3: bits from k on. 4: 1, bit by bit. -/
def F : Nat → D → D
  | 1 => fun a => .int (moreI (argD a 0).toInt (prt (argD a 1).ints (argD a 2).toInt (argD a 3).toInt))
  | 2 => fun a => .int (notI (moreI (notI (argD a 0).toInt) (prt (argD a 1).ints (argD a 2).toInt (argD a 3).toInt)))
  | 3 => fun a => .int (bitsI (argD a 2).toInt (8 - (argD a 0).toInt).toNat (argD a 0).toInt (argD a 1).toInt)
  | 5 => fun a => .int (notI (refI 4294967295 (prt (argD a 0).ints (argD a 1).toInt (argD a 2).toInt)))
  | 6 => fun a => D.ofInts (lentI (prt (argD a 0).ints (argD a 1).toInt (argD a 2).toInt))
  | 7 => fun a => .int ((argD a 0).toInt % (argD a 1).toInt)
  | 8 => fun a => D.ofInts (putI (prt (argD a 0).ints (argD a 1).toInt (argD a 2).toInt))
  | 9 => fun a => D.ofInts (rputI (prt (argD a 0).ints (argD a 1).toInt (argD a 2).toInt))
  | 10 => fun a => D.ofInts (flipI (argD a 1).toInt (argD a 2).toInt (32 - (argD a 3).toInt).toNat (argD a 3).toInt (argD a 0).ints)
  | 4 => fun a => .int (refI (argD a 0).toInt (prt (argD a 1).ints (argD a 2).toInt (argD a 3).toInt))
  | _ => fun x => x

theorem F2 (n x o t : D) : F 2 (.list [n, .list [x, .list [o, .list [t, .int 0]]]]) = .int (notI (moreI (notI n.toInt) (prt x.ints o.toInt t.toInt))) := rfl
theorem F3 (k n c : D) : F 3 (.list [k, .list [n, .list [c, .int 0]]]) = .int (bitsI c.toInt (8 - k.toInt).toNat k.toInt n.toInt) := rfl
theorem F4 (n x o t : D) : F 4 (.list [n, .list [x, .list [o, .list [t, .int 0]]]]) = .int (refI n.toInt (prt x.ints o.toInt t.toInt)) := rfl
theorem F5 (x o t : D) : F 5 (.list [x, .list [o, .list [t, .int 0]]]) = .int (notI (refI 4294967295 (prt x.ints o.toInt t.toInt))) := rfl
theorem F6 (x o t : D) : F 6 (.list [x, .list [o, .list [t, .int 0]]]) = D.ofInts (lentI (prt x.ints o.toInt t.toInt)) := rfl
theorem F7 (x n : D) : F 7 (.list [x, .list [n, .int 0]]) = .int (x.toInt % n.toInt) := rfl
theorem F8 (x o t : D) : F 8 (.list [x, .list [o, .list [t, .int 0]]]) = D.ofInts (putI (prt x.ints o.toInt t.toInt)) := rfl
theorem F9 (x o t : D) : F 9 (.list [x, .list [o, .list [t, .int 0]]]) = D.ofInts (rputI (prt x.ints o.toInt t.toInt)) := rfl
theorem F10 (x f m i : D) : F 10 (.list [x, .list [f, .list [m, .list [i, .int 0]]]]) = D.ofInts (flipI f.toInt m.toInt (32 - i.toInt).toNat i.toInt x.ints) := rfl
theorem flip_step (fr m : Int) (l : List Int) (i : Int) (h : i < 32) : flipI fr m (32 - i).toNat i l = flipI fr m (32 - (i + 1)).toNat (i + 1) (if iopI .rem .u32 (iopI .shr .u32 m i) 2 = 1 then flipB fr i l else l) := by
  rw [show (32 - i).toNat = (32 - (i + 1)).toNat + 1 by omega]; rfl
theorem bits_step (c n k : Int) (h : k < 8) : bitsI c (8 - k).toNat k n = bitsI c (8 - (k + 1)).toNat (k + 1) (bitI n c k) := by
  rw [show (8 - k).toNat = (8 - (k + 1)).toNat + 1 by omega]; rfl
theorem F1 (n x o t : D) : F 1 (.list [n, .list [x, .list [o, .list [t, .int 0]]]]) = .int (moreI n.toInt (prt x.ints o.toInt t.toInt)) := rfl

def tableC : CSpec := { args := [], next := 0, rows := [], pre := [], res := .agg crcAV, frows := [], same := [] }
def tableC_t0 : List (Q × Bool) := []
def tableC_d0 : List Duty := []
theorem tableC_y0 : endC tableC [] 1000 (callC Try.prog (tellA tableC_t0) [] [] [] 3000 40 25 tableC) = some tableC_d0 := by kernel_rfl
theorem tableC_holds : CHolds Try.prog 25 tableC F := by
  refine cholds_of sound (tableNil _ _) (specsNil _ _) (oversNil _ _) (fuel := 3000) (depth := 40) (by kernel_rfl) fun d hp hR hA => ?_
  refine ⟨tellA tableC_t0, _, _, _, tellA_ok (allTold'_iff.1 ?_), tableC_y0, dutiesTold_ok ?_⟩
  · trivial
  · trivial

def moreL : LSpec := { n := 30, next := 2, pat := [(14, .sint .i64 (.var 0)), (6, .sint .u32 (.var 1)), (12, .sslice 3 (.var 4) (.var 5) (.var 6) false), (13, .sint .i64 (.var 5)), (5, .ptr 1 0)], rows := [(1, .seq ⟨42, .u32, .int 256, .lits crcT, false, false⟩), (3, .eseq ⟨.u8, .var 3, .var 2⟩)], pre := [(.le (.int 0) (.var 0), true), (.le (.var 0) (.var 5), true), (.le (.bi .add (.var 4) (.var 5)) (.var 3), true)], x := 0, fin := [(6, .sint .u32 (.fn 1 (argsE [.var 1, .var 2, .bi .add (.var 4) (.var 0), .bi .add (.var 4) (.var 5)])))], frows := [], same := [], chg := [5, 6, 8, 12, 13, 14, 15, 16, 17, 18, 19, 20, 21, 22, 23, 24, 25, 26, 27] }
def moreL_t0 : List (Q × Bool) := [((.le (.var 5) (.var 0)), false),
  ((.le (.int 0) (.var 0)), true),
  ((.le (.int 0) (.bi .add (.var 4) (.var 0))), true),
  ((.le (.var 3) (.bi .add (.var 4) (.var 0))), false),
  ((.le (.int 0) (.bi (.iop .xor .u8) (.un (.wrap .u8) (.var 1)) (.bi .sel (.var 2) (.bi .add (.var 4) (.var 0))))), true),
  ((.le (.int 256) (.bi (.iop .xor .u8) (.un (.wrap .u8) (.var 1)) (.bi .sel (.var 2) (.bi .add (.var 4) (.var 0))))), false),
  ((.fit .i64 (.bi .add (.var 0) (.int 1))), true)]
def moreL_d0 : List Duty := [(true, (.fn 1 (.bi .pair (.bi (.iop .xor .u32) (.bi (.iop .shr .u32) (.var 1) (.int 8)) (.bi .sel (.lits crcT) (.bi (.iop .xor .u8) (.un (.wrap .u8) (.var 1)) (.bi .sel (.var 2) (.bi .add (.var 4) (.var 0)))))) (.bi .pair (.var 2) (.bi .pair (.bi .add (.var 4) (.bi .add (.var 0) (.int 1))) (.bi .pair (.bi .add (.var 4) (.var 5)) (.int 0)))))), (.fn 1 (.bi .pair (.var 1) (.bi .pair (.var 2) (.bi .pair (.bi .add (.var 4) (.var 0)) (.bi .pair (.bi .add (.var 4) (.var 5)) (.int 0)))))))]
def moreL_h0 : List (Nat × E) := [(3, (.var 3)), (2, (.var 2)), (4, (.var 4)), (5, (.var 5)), (6, (.var 6)), (1, (.bi (.iop .xor .u32) (.bi (.iop .shr .u32) (.var 1) (.int 8)) (.bi .sel (.lits crcT) (.bi (.iop .xor .u8) (.un (.wrap .u8) (.var 1)) (.bi .sel (.var 2) (.bi .add (.var 4) (.var 0))))))), (0, (.bi .add (.var 0) (.int 1)))]
theorem moreL_h0_0 : lookE moreL_h0 0 = (.bi .add (.var 0) (.int 1)) := rfl
theorem moreL_h0_1 : lookE moreL_h0 1 = (.bi (.iop .xor .u32) (.bi (.iop .shr .u32) (.var 1) (.int 8)) (.bi .sel (.lits crcT) (.bi (.iop .xor .u8) (.un (.wrap .u8) (.var 1)) (.bi .sel (.var 2) (.bi .add (.var 4) (.var 0)))))) := rfl
theorem moreL_h0_2 : lookE moreL_h0 2 = (.var 2) := rfl
theorem moreL_h0_3 : lookE moreL_h0 3 = (.var 3) := rfl
theorem moreL_h0_4 : lookE moreL_h0 4 = (.var 4) := rfl
theorem moreL_h0_5 : lookE moreL_h0 5 = (.var 5) := rfl
theorem moreL_h0_6 : lookE moreL_h0 6 = (.var 6) := rfl
theorem moreL_y0 : nextD moreL moreL_h0 [(1, 1), (3, 3)] (roundC Try.prog [] [(25, tableC)] [] 3000 40 14 [4, 1, 0, 1, 1, 1] (tellA moreL_t0) moreL) = some moreL_d0 := by kernel_rfl
def moreL_t1 : List (Q × Bool) := [((.le (.var 5) (.var 0)), true)]
def moreL_d1 : List Duty := [(true, (.var 1), (.fn 1 (.bi .pair (.var 1) (.bi .pair (.var 2) (.bi .pair (.bi .add (.var 4) (.var 0)) (.bi .pair (.bi .add (.var 4) (.var 5)) (.int 0)))))))]
theorem moreL_y1 : endD moreL [(1, 1), (3, 3)] 1000 (roundC Try.prog [] [(25, tableC)] [] 3000 40 14 [4, 1, 0, 1, 1, 1] (tellA moreL_t1) moreL) = some moreL_d1 := by kernel_rfl
theorem moreL_holds : LHolds Try.prog (loopAt Try.prog 14 [4, 1, 0, 1, 1, 1]) moreL F := by
  refine loop_roundsC sound (tableNil _ _) (specsCons tableC_holds (specsNil _ _)) (oversNil _ _) (fuel := 3000) (depth := 40) (by kernel_rfl) (by kernel_rfl) (by kernel_rfl) (fun d => ((d 5).toInt - (d 0).toInt).toNat) fun d hp hR hA => ?_
  have hp := allTold'_iff.2 hp
  simp only [moreL, allTold', dutiesTold, factsA, factsP, factsR, AV.facts, RW.facts, inK, and_true, Q.holds', E.i, E.s, E.n, D.nat, E.den, BO.den, UO.den, TO.den, D.toInt_int, D.toList_list, D.ints_ofInts, i64min, i64max, u8min, u8max, u16min, u16max, u32min, u32max, u64min, u64max, i32min, i32max, Om.sub, selI, ints_app, ints_cut, ints_upd, ints_rep, ints_splice, len_ints] at hp hR hA
  by_cases h : (d 5).toInt ≤ (d 0).toInt
  · refine ⟨tellA moreL_t1, tellA_ok (allTold'_iff.1 ?_), .inl ⟨_, _, _, moreL_y1, dutiesTold_ok ?_⟩⟩
    · simp only [moreL_t1, allTold', dutiesTold, factsA, factsP, factsR, AV.facts, RW.facts, inK, and_true, Q.holds', E.i, E.s, E.n, D.nat, E.den, BO.den, UO.den, TO.den, D.toInt_int, D.toList_list, D.ints_ofInts, i64min, i64max, u8min, u8max, u16min, u16max, u32min, u32max, u64min, u64max, i32min, i32max, Om.sub, selI, ints_app, ints_cut, ints_upd, ints_rep, ints_splice, len_ints]
      omega
    · simp only [moreL_d1, F1, allTold', dutiesTold, factsA, factsP, factsR, AV.facts, RW.facts, inK, and_true, Q.holds', E.i, E.s, E.n, D.nat, E.den, BO.den, UO.den, TO.den, D.toInt_int, D.toList_list, D.ints_ofInts, i64min, i64max, u8min, u8max, u16min, u16max, u32min, u32max, u64min, u64max, i32min, i32max, Om.sub, selI, ints_app, ints_cut, ints_upd, ints_rep, ints_splice, len_ints]
      rw [prt_nil (by omega) (by omega)]
      rfl
  · refine ⟨tellA moreL_t0, tellA_ok (allTold'_iff.1 ?_), .inr ⟨moreL_h0, _, _, moreL_y0, dutiesTold_ok ?_, allTold'_iff.1 ?_, ?_⟩⟩
    · simp only [moreL_t0, allTold', dutiesTold, factsA, factsP, factsR, AV.facts, RW.facts, inK, and_true, Q.holds', E.i, E.s, E.n, D.nat, E.den, BO.den, UO.den, TO.den, D.toInt_int, D.toList_list, D.ints_ofInts, i64min, i64max, u8min, u8max, u16min, u16max, u32min, u32max, u64min, u64max, i32min, i32max, Om.sub, selI, ints_app, ints_cut, ints_upd, ints_rep, ints_splice, len_ints]
      have := xor_in .u8 (IntKind.u8.wrap (d 1).toInt) (((d 2).ints[((d 4).toInt + (d 0).toInt).toNat]?).getD 0)
      simp only [u8min, u8max] at this
      omega
    · simp only [moreL_d0, F1, allTold', dutiesTold, factsA, factsP, factsR, AV.facts, RW.facts, inK, and_true, Q.holds', E.i, E.s, E.n, D.nat, E.den, BO.den, UO.den, TO.den, D.toInt_int, D.toList_list, D.ints_ofInts, i64min, i64max, u8min, u8max, u16min, u16max, u32min, u32max, u64min, u64max, i32min, i32max, Om.sub, selI, ints_app, ints_cut, ints_upd, ints_rep, ints_splice, len_ints]
      rw [prt_step (x := (d 2).ints) (o := (d 4).toInt + (d 0).toInt) (by omega) (by omega) (by omega), Int.add_assoc]
      rfl
    · simp only [moreL, moreL_h0_0, moreL_h0_1, moreL_h0_2, moreL_h0_3, moreL_h0_4, moreL_h0_5, moreL_h0_6, allTold', dutiesTold, factsA, factsP, factsR, AV.facts, RW.facts, inK, and_true, Q.holds', E.i, E.s, E.n, D.nat, E.den, BO.den, UO.den, TO.den, D.toInt_int, D.toList_list, D.ints_ofInts, i64min, i64max, u8min, u8max, u16min, u16max, u32min, u32max, u64min, u64max, i32min, i32max, Om.sub, selI, ints_app, ints_cut, ints_upd, ints_rep, ints_splice, len_ints]
      omega
    · simp only [moreL_h0_0, moreL_h0_1, moreL_h0_2, moreL_h0_3, moreL_h0_4, moreL_h0_5, moreL_h0_6, allTold', dutiesTold, factsA, factsP, factsR, AV.facts, RW.facts, inK, and_true, Q.holds', E.i, E.s, E.n, D.nat, E.den, BO.den, UO.den, TO.den, D.toInt_int, D.toList_list, D.ints_ofInts, i64min, i64max, u8min, u8max, u16min, u16max, u32min, u32max, u64min, u64max, i32min, i32max, Om.sub, selI, ints_app, ints_cut, ints_upd, ints_rep, ints_splice, len_ints]
      omega

def moreLO : LSpec := { n := 30, next := 2, pat := [(14, .sint .i64 (.var 0)), (6, .sint .u32 (.var 1)), (12, .sslice 3 (.var 4) (.var 5) (.var 6) true), (13, .sint .i64 (.var 5)), (5, .ptr 1 0)], rows := [(1, .seq ⟨42, .u32, .int 256, .lits crcT, false, false⟩), (3, .eseq ⟨.u8, .var 3, .var 2⟩)], pre := [(.le (.int 0) (.var 0), true), (.le (.var 0) (.var 5), true), (.le (.bi .add (.var 4) (.var 5)) (.var 3), true)], x := 0, fin := [(6, .sint .u32 (.fn 1 (argsE [.var 1, .var 2, .bi .add (.var 4) (.var 0), .bi .add (.var 4) (.var 5)])))], frows := [], same := [], chg := [5, 6, 8, 12, 13, 14, 15, 16, 17, 18, 19, 20, 21, 22, 23, 24, 25, 26, 27] }
def moreLO_t0 : List (Q × Bool) := [((.le (.var 5) (.var 0)), false),
  ((.le (.int 0) (.var 0)), true),
  ((.le (.int 0) (.bi .add (.var 4) (.var 0))), true),
  ((.le (.var 3) (.bi .add (.var 4) (.var 0))), false),
  ((.le (.int 0) (.bi (.iop .xor .u8) (.un (.wrap .u8) (.var 1)) (.bi .sel (.var 2) (.bi .add (.var 4) (.var 0))))), true),
  ((.le (.int 256) (.bi (.iop .xor .u8) (.un (.wrap .u8) (.var 1)) (.bi .sel (.var 2) (.bi .add (.var 4) (.var 0))))), false),
  ((.fit .i64 (.bi .add (.var 0) (.int 1))), true)]
def moreLO_d0 : List Duty := [(true, (.fn 1 (.bi .pair (.bi (.iop .xor .u32) (.bi (.iop .shr .u32) (.var 1) (.int 8)) (.bi .sel (.lits crcT) (.bi (.iop .xor .u8) (.un (.wrap .u8) (.var 1)) (.bi .sel (.var 2) (.bi .add (.var 4) (.var 0)))))) (.bi .pair (.var 2) (.bi .pair (.bi .add (.var 4) (.bi .add (.var 0) (.int 1))) (.bi .pair (.bi .add (.var 4) (.var 5)) (.int 0)))))), (.fn 1 (.bi .pair (.var 1) (.bi .pair (.var 2) (.bi .pair (.bi .add (.var 4) (.var 0)) (.bi .pair (.bi .add (.var 4) (.var 5)) (.int 0)))))))]
def moreLO_h0 : List (Nat × E) := [(3, (.var 3)), (2, (.var 2)), (4, (.var 4)), (5, (.var 5)), (6, (.var 6)), (1, (.bi (.iop .xor .u32) (.bi (.iop .shr .u32) (.var 1) (.int 8)) (.bi .sel (.lits crcT) (.bi (.iop .xor .u8) (.un (.wrap .u8) (.var 1)) (.bi .sel (.var 2) (.bi .add (.var 4) (.var 0))))))), (0, (.bi .add (.var 0) (.int 1)))]
theorem moreLO_h0_0 : lookE moreLO_h0 0 = (.bi .add (.var 0) (.int 1)) := rfl
theorem moreLO_h0_1 : lookE moreLO_h0 1 = (.bi (.iop .xor .u32) (.bi (.iop .shr .u32) (.var 1) (.int 8)) (.bi .sel (.lits crcT) (.bi (.iop .xor .u8) (.un (.wrap .u8) (.var 1)) (.bi .sel (.var 2) (.bi .add (.var 4) (.var 0)))))) := rfl
theorem moreLO_h0_2 : lookE moreLO_h0 2 = (.var 2) := rfl
theorem moreLO_h0_3 : lookE moreLO_h0 3 = (.var 3) := rfl
theorem moreLO_h0_4 : lookE moreLO_h0 4 = (.var 4) := rfl
theorem moreLO_h0_5 : lookE moreLO_h0 5 = (.var 5) := rfl
theorem moreLO_h0_6 : lookE moreLO_h0 6 = (.var 6) := rfl
theorem moreLO_y0 : nextD moreLO moreLO_h0 [(1, 1), (3, 3)] (roundC Try.prog [⟨14, [4, 1, 0, 1, 1, 1], moreL⟩] [(25, tableC)] [] 3000 40 14 [4, 1, 0, 1, 1, 1] (tellA moreLO_t0) moreLO) = some moreLO_d0 := by kernel_rfl
def moreLO_t1 : List (Q × Bool) := [((.le (.var 5) (.var 0)), true)]
def moreLO_d1 : List Duty := [(true, (.var 1), (.fn 1 (.bi .pair (.var 1) (.bi .pair (.var 2) (.bi .pair (.bi .add (.var 4) (.var 0)) (.bi .pair (.bi .add (.var 4) (.var 5)) (.int 0)))))))]
theorem moreLO_y1 : endD moreLO [(1, 1), (3, 3)] 1000 (roundC Try.prog [⟨14, [4, 1, 0, 1, 1, 1], moreL⟩] [(25, tableC)] [] 3000 40 14 [4, 1, 0, 1, 1, 1] (tellA moreLO_t1) moreLO) = some moreLO_d1 := by kernel_rfl
theorem moreLO_holds : LHolds Try.prog (loopAt Try.prog 14 [4, 1, 0, 1, 1, 1]) moreLO F := by
  refine loop_roundsC sound (tableCons moreL_holds (tableNil _ _)) (specsCons tableC_holds (specsNil _ _)) (oversNil _ _) (fuel := 3000) (depth := 40) (by kernel_rfl) (by kernel_rfl) (by kernel_rfl) (fun d => ((d 5).toInt - (d 0).toInt).toNat) fun d hp hR hA => ?_
  have hp := allTold'_iff.2 hp
  simp only [moreLO, allTold', dutiesTold, factsA, factsP, factsR, AV.facts, RW.facts, inK, and_true, Q.holds', E.i, E.s, E.n, D.nat, E.den, BO.den, UO.den, TO.den, D.toInt_int, D.toList_list, D.ints_ofInts, i64min, i64max, u8min, u8max, u16min, u16max, u32min, u32max, u64min, u64max, i32min, i32max, Om.sub, selI, ints_app, ints_cut, ints_upd, ints_rep, ints_splice, len_ints] at hp hR hA
  by_cases h : (d 5).toInt ≤ (d 0).toInt
  · refine ⟨tellA moreLO_t1, tellA_ok (allTold'_iff.1 ?_), .inl ⟨_, _, _, moreLO_y1, dutiesTold_ok ?_⟩⟩
    · simp only [moreLO_t1, allTold', dutiesTold, factsA, factsP, factsR, AV.facts, RW.facts, inK, and_true, Q.holds', E.i, E.s, E.n, D.nat, E.den, BO.den, UO.den, TO.den, D.toInt_int, D.toList_list, D.ints_ofInts, i64min, i64max, u8min, u8max, u16min, u16max, u32min, u32max, u64min, u64max, i32min, i32max, Om.sub, selI, ints_app, ints_cut, ints_upd, ints_rep, ints_splice, len_ints]
      omega
    · simp only [moreLO_d1, F1, allTold', dutiesTold, factsA, factsP, factsR, AV.facts, RW.facts, inK, and_true, Q.holds', E.i, E.s, E.n, D.nat, E.den, BO.den, UO.den, TO.den, D.toInt_int, D.toList_list, D.ints_ofInts, i64min, i64max, u8min, u8max, u16min, u16max, u32min, u32max, u64min, u64max, i32min, i32max, Om.sub, selI, ints_app, ints_cut, ints_upd, ints_rep, ints_splice, len_ints]
      rw [prt_nil (by omega) (by omega)]
      rfl
  · refine ⟨tellA moreLO_t0, tellA_ok (allTold'_iff.1 ?_), .inr ⟨moreLO_h0, _, _, moreLO_y0, dutiesTold_ok ?_, allTold'_iff.1 ?_, ?_⟩⟩
    · simp only [moreLO_t0, allTold', dutiesTold, factsA, factsP, factsR, AV.facts, RW.facts, inK, and_true, Q.holds', E.i, E.s, E.n, D.nat, E.den, BO.den, UO.den, TO.den, D.toInt_int, D.toList_list, D.ints_ofInts, i64min, i64max, u8min, u8max, u16min, u16max, u32min, u32max, u64min, u64max, i32min, i32max, Om.sub, selI, ints_app, ints_cut, ints_upd, ints_rep, ints_splice, len_ints]
      have := xor_in .u8 (IntKind.u8.wrap (d 1).toInt) (((d 2).ints[((d 4).toInt + (d 0).toInt).toNat]?).getD 0)
      simp only [u8min, u8max] at this
      omega
    · simp only [moreLO_d0, F1, allTold', dutiesTold, factsA, factsP, factsR, AV.facts, RW.facts, inK, and_true, Q.holds', E.i, E.s, E.n, D.nat, E.den, BO.den, UO.den, TO.den, D.toInt_int, D.toList_list, D.ints_ofInts, i64min, i64max, u8min, u8max, u16min, u16max, u32min, u32max, u64min, u64max, i32min, i32max, Om.sub, selI, ints_app, ints_cut, ints_upd, ints_rep, ints_splice, len_ints]
      rw [prt_step (x := (d 2).ints) (o := (d 4).toInt + (d 0).toInt) (by omega) (by omega) (by omega), Int.add_assoc]
      rfl
    · simp only [moreLO, moreLO_h0_0, moreLO_h0_1, moreLO_h0_2, moreLO_h0_3, moreLO_h0_4, moreLO_h0_5, moreLO_h0_6, allTold', dutiesTold, factsA, factsP, factsR, AV.facts, RW.facts, inK, and_true, Q.holds', E.i, E.s, E.n, D.nat, E.den, BO.den, UO.den, TO.den, D.toInt_int, D.toList_list, D.ints_ofInts, i64min, i64max, u8min, u8max, u16min, u16max, u32min, u32max, u64min, u64max, i32min, i32max, Om.sub, selI, ints_app, ints_cut, ints_upd, ints_rep, ints_splice, len_ints]
      omega
    · simp only [moreLO_h0_0, moreLO_h0_1, moreLO_h0_2, moreLO_h0_3, moreLO_h0_4, moreLO_h0_5, moreLO_h0_6, allTold', dutiesTold, factsA, factsP, factsR, AV.facts, RW.facts, inK, and_true, Q.holds', E.i, E.s, E.n, D.nat, E.den, BO.den, UO.den, TO.den, D.toInt_int, D.toList_list, D.ints_ofInts, i64min, i64max, u8min, u8max, u16min, u16max, u32min, u32max, u64min, u64max, i32min, i32max, Om.sub, selI, ints_app, ints_cut, ints_upd, ints_rep, ints_splice, len_ints]
      omega

def moreC : CSpec := { args := [.sint .u32 (.var 0), .sslice 3 (.var 1) (.var 2) (.var 3) false], next := 2, rows := [(3, .eseq ⟨.u8, .var 4, .var 5⟩)], pre := [(.le (.bi .add (.var 1) (.var 2)) (.var 4), true), (.le (.var 2) (.int 1000000), true)], res := .sint .u32 (.fn 2 (argsE [.var 0, .var 5, .var 1, .bi .add (.var 1) (.var 2)])), frows := [], same := [] }
def moreC_t0 : List (Q × Bool) := [((.fit .i64 (.var 2)), true),
  ((.le (.int 0) (.var 2)), true),
  ((.le (.bi .add (.var 1) (.var 2)) (.var 4)), true)]
def moreC_d0 : List Duty := [(true, (.bi (.iop .xor .u32) (.int 4294967295) (.fn 1 (.bi .pair (.bi (.iop .xor .u32) (.int 4294967295) (.var 0)) (.bi .pair (.var 5) (.bi .pair (.bi .add (.var 1) (.int 0)) (.bi .pair (.bi .add (.var 1) (.var 2)) (.int 0))))))), (.fn 2 (.bi .pair (.var 0) (.bi .pair (.var 5) (.bi .pair (.var 1) (.bi .pair (.bi .add (.var 1) (.var 2)) (.int 0)))))))]
theorem moreC_y0 : endC moreC [] 1000 (callC Try.prog (tellA moreC_t0) [⟨14, [4, 1, 0, 1, 1, 1], moreL⟩, ⟨14, [4, 1, 0, 1, 1, 1], moreLO⟩] [(25, tableC)] [] 3000 40 14 moreC) = some moreC_d0 := by kernel_rfl
theorem moreC_holds : CHolds Try.prog 14 moreC F := by
  refine cholds_of sound (tableCons moreL_holds (tableCons moreLO_holds (tableNil _ _))) (specsCons tableC_holds (specsNil _ _)) (oversNil _ _) (fuel := 3000) (depth := 40) (by kernel_rfl) fun d hp hR hA => ?_
  have hp := allTold'_iff.2 hp
  simp only [moreC, allTold', dutiesTold, factsA, factsP, factsR, AV.facts, RW.facts, inK, and_true, Q.holds', E.i, E.s, E.n, D.nat, E.den, BO.den, UO.den, TO.den, D.toInt_int, D.toList_list, D.ints_ofInts, i64min, i64max, u8min, u8max, u16min, u16max, u32min, u32max, u64min, u64max, i32min, i32max, Om.sub, selI, ints_app, ints_cut, ints_upd, ints_rep, ints_splice, len_ints] at hp hR hA
  refine ⟨tellA moreC_t0, _, _, _, tellA_ok (allTold'_iff.1 ?_), moreC_y0, dutiesTold_ok ?_⟩
  · simp only [moreC_t0, allTold', dutiesTold, factsA, factsP, factsR, AV.facts, RW.facts, inK, and_true, Q.holds', E.i, E.s, E.n, D.nat, E.den, BO.den, UO.den, TO.den, D.toInt_int, D.toList_list, D.ints_ofInts, i64min, i64max, u8min, u8max, u16min, u16max, u32min, u32max, u64min, u64max, i32min, i32max, Om.sub, selI, ints_app, ints_cut, ints_upd, ints_rep, ints_splice, len_ints]
    omega
  · simp only [moreC_d0, F1, F2, Int.add_zero, allTold', dutiesTold, factsA, factsP, factsR, AV.facts, RW.facts, inK, and_true, Q.holds', E.i, E.s, E.n, D.nat, E.den, BO.den, UO.den, TO.den, D.toInt_int, D.toList_list, D.ints_ofInts, i64min, i64max, u8min, u8max, u16min, u16max, u32min, u32max, u64min, u64max, i32min, i32max, Om.sub, selI, ints_app, ints_cut, ints_upd, ints_rep, ints_splice, len_ints]
    rfl

def moreCO : CSpec := { args := [.sint .u32 (.var 0), .sslice 3 (.var 1) (.var 2) (.var 3) true], next := 2, rows := [(3, .eseq ⟨.u8, .var 4, .var 5⟩)], pre := [(.le (.bi .add (.var 1) (.var 2)) (.var 4), true), (.le (.var 2) (.int 1000000), true)], res := .sint .u32 (.fn 2 (argsE [.var 0, .var 5, .var 1, .bi .add (.var 1) (.var 2)])), frows := [], same := [] }
def moreCO_t0 : List (Q × Bool) := [((.fit .i64 (.var 2)), true),
  ((.le (.int 0) (.var 2)), true),
  ((.le (.bi .add (.var 1) (.var 2)) (.var 4)), true)]
def moreCO_d0 : List Duty := [(true, (.bi (.iop .xor .u32) (.int 4294967295) (.fn 1 (.bi .pair (.bi (.iop .xor .u32) (.int 4294967295) (.var 0)) (.bi .pair (.var 5) (.bi .pair (.bi .add (.var 1) (.int 0)) (.bi .pair (.bi .add (.var 1) (.var 2)) (.int 0))))))), (.fn 2 (.bi .pair (.var 0) (.bi .pair (.var 5) (.bi .pair (.var 1) (.bi .pair (.bi .add (.var 1) (.var 2)) (.int 0)))))))]
theorem moreCO_y0 : endC moreCO [] 1000 (callC Try.prog (tellA moreCO_t0) [⟨14, [4, 1, 0, 1, 1, 1], moreL⟩, ⟨14, [4, 1, 0, 1, 1, 1], moreLO⟩] [(25, tableC), (14, moreC)] [] 3000 40 14 moreCO) = some moreCO_d0 := by kernel_rfl
theorem moreCO_holds : CHolds Try.prog 14 moreCO F := by
  refine cholds_of sound (tableCons moreL_holds (tableCons moreLO_holds (tableNil _ _))) (specsCons tableC_holds (specsCons moreC_holds (specsNil _ _))) (oversNil _ _) (fuel := 3000) (depth := 40) (by kernel_rfl) fun d hp hR hA => ?_
  have hp := allTold'_iff.2 hp
  simp only [moreCO, allTold', dutiesTold, factsA, factsP, factsR, AV.facts, RW.facts, inK, and_true, Q.holds', E.i, E.s, E.n, D.nat, E.den, BO.den, UO.den, TO.den, D.toInt_int, D.toList_list, D.ints_ofInts, i64min, i64max, u8min, u8max, u16min, u16max, u32min, u32max, u64min, u64max, i32min, i32max, Om.sub, selI, ints_app, ints_cut, ints_upd, ints_rep, ints_splice, len_ints] at hp hR hA
  refine ⟨tellA moreCO_t0, _, _, _, tellA_ok (allTold'_iff.1 ?_), moreCO_y0, dutiesTold_ok ?_⟩
  · simp only [moreCO_t0, allTold', dutiesTold, factsA, factsP, factsR, AV.facts, RW.facts, inK, and_true, Q.holds', E.i, E.s, E.n, D.nat, E.den, BO.den, UO.den, TO.den, D.toInt_int, D.toList_list, D.ints_ofInts, i64min, i64max, u8min, u8max, u16min, u16max, u32min, u32max, u64min, u64max, i32min, i32max, Om.sub, selI, ints_app, ints_cut, ints_upd, ints_rep, ints_splice, len_ints]
    omega
  · simp only [moreCO_d0, F1, F2, Int.add_zero, allTold', dutiesTold, factsA, factsP, factsR, AV.facts, RW.facts, inK, and_true, Q.holds', E.i, E.s, E.n, D.nat, E.den, BO.den, UO.den, TO.den, D.toInt_int, D.toList_list, D.ints_ofInts, i64min, i64max, u8min, u8max, u16min, u16max, u32min, u32max, u64min, u64max, i32min, i32max, Om.sub, selI, ints_app, ints_cut, ints_upd, ints_rep, ints_splice, len_ints]
    rfl

def bitL : LSpec := { n := 35, next := 2, pat := [(5, .sint .i64 (.var 0)), (3, .sint .u32 (.var 1)), (4, .sint .i64 (.var 4)), (0, .sslice 3 (.var 5) (.var 6) (.var 7) false)], rows := [(3, .eseq ⟨.u8, .var 3, .var 2⟩)], pre := [(.le (.int 0) (.var 0), true), (.le (.var 0) (.int 8), true), (.le (.int 0) (.var 4), true), (.le (.var 6) (.var 4), false), (.le (.bi .add (.var 5) (.var 6)) (.var 3), true)], x := 2, fin := [(3, .sint .u32 (.fn 3 (argsE [.var 0, .var 1, .bi .sel (.var 2) (.bi .add (.var 5) (.var 4))]))), (4, .sint .i64 (.var 4)), (0, .sslice 3 (.var 5) (.var 6) (.var 7) false)], frows := [], same := [3], chg := [0, 3, 4, 5, 6, 13, 14, 15, 16, 17, 18, 19, 20, 21, 22, 23, 24, 25, 26, 27, 28, 29, 30, 31, 32] }
def bitL_t0 : List (Q × Bool) := [((.le (.int 8) (.var 0)), false),
  ((.le (.int 0) (.var 4)), true),
  ((.le (.var 6) (.var 4)), false),
  ((.le (.int 0) (.bi .add (.var 5) (.var 4))), true),
  ((.le (.var 3) (.bi .add (.var 5) (.var 4))), false),
  ((.le (.int 0) (.var 0)), true),
  ((.eq (.bi (.iop .rem .u32) (.var 1) (.int 2)) (.bi (.iop .rem .u32) (.bi (.iop .shr .u8) (.bi .sel (.var 2) (.bi .add (.var 5) (.var 4))) (.var 0)) (.int 2))), false),
  ((.fit .i64 (.bi .add (.var 0) (.int 1))), true)]
def bitL_d0 : List Duty := [(true, (.fn 3 (.bi .pair (.bi .add (.var 0) (.int 1)) (.bi .pair (.bi (.iop .xor .u32) (.bi (.iop .shr .u32) (.var 1) (.int 1)) (.int 3988292384)) (.bi .pair (.bi .sel (.var 2) (.bi .add (.var 5) (.var 4))) (.int 0))))), (.fn 3 (.bi .pair (.var 0) (.bi .pair (.var 1) (.bi .pair (.bi .sel (.var 2) (.bi .add (.var 5) (.var 4))) (.int 0))))))]
def bitL_h0 : List (Nat × E) := [(3, (.var 3)), (2, (.var 2)), (5, (.var 5)), (6, (.var 6)), (7, (.var 7)), (4, (.var 4)), (1, (.bi (.iop .xor .u32) (.bi (.iop .shr .u32) (.var 1) (.int 1)) (.int 3988292384))), (0, (.bi .add (.var 0) (.int 1)))]
theorem bitL_h0_0 : lookE bitL_h0 0 = (.bi .add (.var 0) (.int 1)) := rfl
theorem bitL_h0_1 : lookE bitL_h0 1 = (.bi (.iop .xor .u32) (.bi (.iop .shr .u32) (.var 1) (.int 1)) (.int 3988292384)) := rfl
theorem bitL_h0_2 : lookE bitL_h0 2 = (.var 2) := rfl
theorem bitL_h0_3 : lookE bitL_h0 3 = (.var 3) := rfl
theorem bitL_h0_4 : lookE bitL_h0 4 = (.var 4) := rfl
theorem bitL_h0_5 : lookE bitL_h0 5 = (.var 5) := rfl
theorem bitL_h0_6 : lookE bitL_h0 6 = (.var 6) := rfl
theorem bitL_h0_7 : lookE bitL_h0 7 = (.var 7) := rfl
theorem bitL_y0 : nextD bitL bitL_h0 [(3, 3)] (roundC Try.prog [⟨14, [4, 1, 0, 1, 1, 1], moreL⟩, ⟨14, [4, 1, 0, 1, 1, 1], moreLO⟩] [(25, tableC), (14, moreC), (14, moreCO)] [] 3000 40 13 [4, 1, 4, 0, 1, 5, 4, 1, 0, 1, 1] (tellA bitL_t0) bitL) = some bitL_d0 := by kernel_rfl
def bitL_t1 : List (Q × Bool) := [((.le (.int 8) (.var 0)), false),
  ((.le (.int 0) (.var 4)), true),
  ((.le (.var 6) (.var 4)), false),
  ((.le (.int 0) (.bi .add (.var 5) (.var 4))), true),
  ((.le (.var 3) (.bi .add (.var 5) (.var 4))), false),
  ((.le (.int 0) (.var 0)), true),
  ((.eq (.bi (.iop .rem .u32) (.var 1) (.int 2)) (.bi (.iop .rem .u32) (.bi (.iop .shr .u8) (.bi .sel (.var 2) (.bi .add (.var 5) (.var 4))) (.var 0)) (.int 2))), true),
  ((.fit .i64 (.bi .add (.var 0) (.int 1))), true)]
def bitL_d1 : List Duty := [(true, (.fn 3 (.bi .pair (.bi .add (.var 0) (.int 1)) (.bi .pair (.bi (.iop .shr .u32) (.var 1) (.int 1)) (.bi .pair (.bi .sel (.var 2) (.bi .add (.var 5) (.var 4))) (.int 0))))), (.fn 3 (.bi .pair (.var 0) (.bi .pair (.var 1) (.bi .pair (.bi .sel (.var 2) (.bi .add (.var 5) (.var 4))) (.int 0))))))]
def bitL_h1 : List (Nat × E) := [(3, (.var 3)), (2, (.var 2)), (5, (.var 5)), (6, (.var 6)), (7, (.var 7)), (4, (.var 4)), (1, (.bi (.iop .shr .u32) (.var 1) (.int 1))), (0, (.bi .add (.var 0) (.int 1)))]
theorem bitL_h1_0 : lookE bitL_h1 0 = (.bi .add (.var 0) (.int 1)) := rfl
theorem bitL_h1_1 : lookE bitL_h1 1 = (.bi (.iop .shr .u32) (.var 1) (.int 1)) := rfl
theorem bitL_h1_2 : lookE bitL_h1 2 = (.var 2) := rfl
theorem bitL_h1_3 : lookE bitL_h1 3 = (.var 3) := rfl
theorem bitL_h1_4 : lookE bitL_h1 4 = (.var 4) := rfl
theorem bitL_h1_5 : lookE bitL_h1 5 = (.var 5) := rfl
theorem bitL_h1_6 : lookE bitL_h1 6 = (.var 6) := rfl
theorem bitL_h1_7 : lookE bitL_h1 7 = (.var 7) := rfl
theorem bitL_y1 : nextD bitL bitL_h1 [(3, 3)] (roundC Try.prog [⟨14, [4, 1, 0, 1, 1, 1], moreL⟩, ⟨14, [4, 1, 0, 1, 1, 1], moreLO⟩] [(25, tableC), (14, moreC), (14, moreCO)] [] 3000 40 13 [4, 1, 4, 0, 1, 5, 4, 1, 0, 1, 1] (tellA bitL_t1) bitL) = some bitL_d1 := by kernel_rfl
def bitL_t2 : List (Q × Bool) := [((.le (.int 8) (.var 0)), true)]
def bitL_d2 : List Duty := [(true, (.var 1), (.fn 3 (.bi .pair (.var 0) (.bi .pair (.var 1) (.bi .pair (.bi .sel (.var 2) (.bi .add (.var 5) (.var 4))) (.int 0))))))]
theorem bitL_y2 : endD bitL [(3, 3)] 1000 (roundC Try.prog [⟨14, [4, 1, 0, 1, 1, 1], moreL⟩, ⟨14, [4, 1, 0, 1, 1, 1], moreLO⟩] [(25, tableC), (14, moreC), (14, moreCO)] [] 3000 40 13 [4, 1, 4, 0, 1, 5, 4, 1, 0, 1, 1] (tellA bitL_t2) bitL) = some bitL_d2 := by kernel_rfl
theorem bitL_holds : LHolds Try.prog (loopAt Try.prog 13 [4, 1, 4, 0, 1, 5, 4, 1, 0, 1, 1]) bitL F := by
  refine loop_roundsC sound (tableCons moreL_holds (tableCons moreLO_holds (tableNil _ _))) (specsCons tableC_holds (specsCons moreC_holds (specsCons moreCO_holds (specsNil _ _)))) (oversNil _ _) (fuel := 3000) (depth := 40) (by kernel_rfl) (by kernel_rfl) (by kernel_rfl) (fun d => (8 - (d 0).toInt).toNat) fun d hp hR hA => ?_
  have hp := allTold'_iff.2 hp
  simp only [bitL, allTold', dutiesTold, factsA, factsP, factsR, AV.facts, RW.facts, inK, and_true, Q.holds', E.i, E.s, E.n, D.nat, E.den, BO.den, UO.den, TO.den, D.toInt_int, D.toList_list, D.ints_ofInts, i64min, i64max, u8min, u8max, u16min, u16max, u32min, u32max, u64min, u64max, i32min, i32max, Om.sub, selI, ints_app, ints_cut, ints_upd, ints_rep, ints_splice, len_ints] at hp hR hA
  by_cases h : 8 ≤ (d 0).toInt
  · refine ⟨tellA bitL_t2, tellA_ok (allTold'_iff.1 ?_), .inl ⟨_, _, _, bitL_y2, dutiesTold_ok ?_⟩⟩
    · simp only [bitL_t2, allTold', dutiesTold, factsA, factsP, factsR, AV.facts, RW.facts, inK, and_true, Q.holds', E.i, E.s, E.n, D.nat, E.den, BO.den, UO.den, TO.den, D.toInt_int, D.toList_list, D.ints_ofInts, i64min, i64max, u8min, u8max, u16min, u16max, u32min, u32max, u64min, u64max, i32min, i32max, Om.sub, selI, ints_app, ints_cut, ints_upd, ints_rep, ints_splice, len_ints]
      omega
    · simp only [bitL_d2, F3, allTold', dutiesTold, factsA, factsP, factsR, AV.facts, RW.facts, inK, and_true, Q.holds', E.i, E.s, E.n, D.nat, E.den, BO.den, UO.den, TO.den, D.toInt_int, D.toList_list, D.ints_ofInts, i64min, i64max, u8min, u8max, u16min, u16max, u32min, u32max, u64min, u64max, i32min, i32max, Om.sub, selI, ints_app, ints_cut, ints_upd, ints_rep, ints_splice, len_ints]
      rw [show (8 - (d 0).toInt).toNat = 0 by omega]
      rfl
  · by_cases g : iopI .rem .u32 (d 1).toInt 2 = iopI .rem .u32 (iopI .shr .u8 (((d 2).ints[((d 5).toInt + (d 4).toInt).toNat]?).getD 0) (d 0).toInt) 2
    · refine ⟨tellA bitL_t1, tellA_ok (allTold'_iff.1 ?_), .inr ⟨bitL_h1, _, _, bitL_y1, dutiesTold_ok ?_, allTold'_iff.1 ?_, ?_⟩⟩
      · simp only [bitL_t1, allTold', dutiesTold, factsA, factsP, factsR, AV.facts, RW.facts, inK, and_true, Q.holds', E.i, E.s, E.n, D.nat, E.den, BO.den, UO.den, TO.den, D.toInt_int, D.toList_list, D.ints_ofInts, i64min, i64max, u8min, u8max, u16min, u16max, u32min, u32max, u64min, u64max, i32min, i32max, Om.sub, selI, ints_app, ints_cut, ints_upd, ints_rep, ints_splice, len_ints]
        omega
      · simp only [bitL_d1, F3, allTold', dutiesTold, factsA, factsP, factsR, AV.facts, RW.facts, inK, and_true, Q.holds', E.i, E.s, E.n, D.nat, E.den, BO.den, UO.den, TO.den, D.toInt_int, D.toList_list, D.ints_ofInts, i64min, i64max, u8min, u8max, u16min, u16max, u32min, u32max, u64min, u64max, i32min, i32max, Om.sub, selI, ints_app, ints_cut, ints_upd, ints_rep, ints_splice, len_ints]
        rw [bits_step _ (d 1).toInt _ (by omega)]
        unfold bitI
        rw [if_pos g]
      · simp only [bitL, bitL_h1_0, bitL_h1_1, bitL_h1_2, bitL_h1_3, bitL_h1_4, bitL_h1_5, bitL_h1_6, bitL_h1_7, allTold', dutiesTold, factsA, factsP, factsR, AV.facts, RW.facts, inK, and_true, Q.holds', E.i, E.s, E.n, D.nat, E.den, BO.den, UO.den, TO.den, D.toInt_int, D.toList_list, D.ints_ofInts, i64min, i64max, u8min, u8max, u16min, u16max, u32min, u32max, u64min, u64max, i32min, i32max, Om.sub, selI, ints_app, ints_cut, ints_upd, ints_rep, ints_splice, len_ints]
        omega
      · simp only [bitL_h1_0, bitL_h1_1, bitL_h1_2, bitL_h1_3, bitL_h1_4, bitL_h1_5, bitL_h1_6, bitL_h1_7, allTold', dutiesTold, factsA, factsP, factsR, AV.facts, RW.facts, inK, and_true, Q.holds', E.i, E.s, E.n, D.nat, E.den, BO.den, UO.den, TO.den, D.toInt_int, D.toList_list, D.ints_ofInts, i64min, i64max, u8min, u8max, u16min, u16max, u32min, u32max, u64min, u64max, i32min, i32max, Om.sub, selI, ints_app, ints_cut, ints_upd, ints_rep, ints_splice, len_ints]
        omega
    · refine ⟨tellA bitL_t0, tellA_ok (allTold'_iff.1 ?_), .inr ⟨bitL_h0, _, _, bitL_y0, dutiesTold_ok ?_, allTold'_iff.1 ?_, ?_⟩⟩
      · simp only [bitL_t0, allTold', dutiesTold, factsA, factsP, factsR, AV.facts, RW.facts, inK, and_true, Q.holds', E.i, E.s, E.n, D.nat, E.den, BO.den, UO.den, TO.den, D.toInt_int, D.toList_list, D.ints_ofInts, i64min, i64max, u8min, u8max, u16min, u16max, u32min, u32max, u64min, u64max, i32min, i32max, Om.sub, selI, ints_app, ints_cut, ints_upd, ints_rep, ints_splice, len_ints]
        omega
      · simp only [bitL_d0, F3, allTold', dutiesTold, factsA, factsP, factsR, AV.facts, RW.facts, inK, and_true, Q.holds', E.i, E.s, E.n, D.nat, E.den, BO.den, UO.den, TO.den, D.toInt_int, D.toList_list, D.ints_ofInts, i64min, i64max, u8min, u8max, u16min, u16max, u32min, u32max, u64min, u64max, i32min, i32max, Om.sub, selI, ints_app, ints_cut, ints_upd, ints_rep, ints_splice, len_ints]
        rw [bits_step _ (d 1).toInt _ (by omega)]
        unfold bitI
        rw [if_neg g]
      · simp only [bitL, bitL_h0_0, bitL_h0_1, bitL_h0_2, bitL_h0_3, bitL_h0_4, bitL_h0_5, bitL_h0_6, bitL_h0_7, allTold', dutiesTold, factsA, factsP, factsR, AV.facts, RW.facts, inK, and_true, Q.holds', E.i, E.s, E.n, D.nat, E.den, BO.den, UO.den, TO.den, D.toInt_int, D.toList_list, D.ints_ofInts, i64min, i64max, u8min, u8max, u16min, u16max, u32min, u32max, u64min, u64max, i32min, i32max, Om.sub, selI, ints_app, ints_cut, ints_upd, ints_rep, ints_splice, len_ints]
        omega
      · simp only [bitL_h0_0, bitL_h0_1, bitL_h0_2, bitL_h0_3, bitL_h0_4, bitL_h0_5, bitL_h0_6, bitL_h0_7, allTold', dutiesTold, factsA, factsP, factsR, AV.facts, RW.facts, inK, and_true, Q.holds', E.i, E.s, E.n, D.nat, E.den, BO.den, UO.den, TO.den, D.toInt_int, D.toList_list, D.ints_ofInts, i64min, i64max, u8min, u8max, u16min, u16max, u32min, u32max, u64min, u64max, i32min, i32max, Om.sub, selI, ints_app, ints_cut, ints_upd, ints_rep, ints_splice, len_ints]
        omega

def bitLO : LSpec := { n := 35, next := 2, pat := [(5, .sint .i64 (.var 0)), (3, .sint .u32 (.var 1)), (4, .sint .i64 (.var 4)), (0, .sslice 3 (.var 5) (.var 6) (.var 7) true)], rows := [(3, .eseq ⟨.u8, .var 3, .var 2⟩)], pre := [(.le (.int 0) (.var 0), true), (.le (.var 0) (.int 8), true), (.le (.int 0) (.var 4), true), (.le (.var 6) (.var 4), false), (.le (.bi .add (.var 5) (.var 6)) (.var 3), true)], x := 2, fin := [(3, .sint .u32 (.fn 3 (argsE [.var 0, .var 1, .bi .sel (.var 2) (.bi .add (.var 5) (.var 4))]))), (4, .sint .i64 (.var 4)), (0, .sslice 3 (.var 5) (.var 6) (.var 7) true)], frows := [], same := [3], chg := [0, 3, 4, 5, 6, 13, 14, 15, 16, 17, 18, 19, 20, 21, 22, 23, 24, 25, 26, 27, 28, 29, 30, 31, 32] }
def bitLO_t0 : List (Q × Bool) := [((.le (.int 8) (.var 0)), false),
  ((.le (.int 0) (.var 4)), true),
  ((.le (.var 6) (.var 4)), false),
  ((.le (.int 0) (.bi .add (.var 5) (.var 4))), true),
  ((.le (.var 3) (.bi .add (.var 5) (.var 4))), false),
  ((.le (.int 0) (.var 0)), true),
  ((.eq (.bi (.iop .rem .u32) (.var 1) (.int 2)) (.bi (.iop .rem .u32) (.bi (.iop .shr .u8) (.bi .sel (.var 2) (.bi .add (.var 5) (.var 4))) (.var 0)) (.int 2))), false),
  ((.fit .i64 (.bi .add (.var 0) (.int 1))), true)]
def bitLO_d0 : List Duty := [(true, (.fn 3 (.bi .pair (.bi .add (.var 0) (.int 1)) (.bi .pair (.bi (.iop .xor .u32) (.bi (.iop .shr .u32) (.var 1) (.int 1)) (.int 3988292384)) (.bi .pair (.bi .sel (.var 2) (.bi .add (.var 5) (.var 4))) (.int 0))))), (.fn 3 (.bi .pair (.var 0) (.bi .pair (.var 1) (.bi .pair (.bi .sel (.var 2) (.bi .add (.var 5) (.var 4))) (.int 0))))))]
def bitLO_h0 : List (Nat × E) := [(3, (.var 3)), (2, (.var 2)), (5, (.var 5)), (6, (.var 6)), (7, (.var 7)), (4, (.var 4)), (1, (.bi (.iop .xor .u32) (.bi (.iop .shr .u32) (.var 1) (.int 1)) (.int 3988292384))), (0, (.bi .add (.var 0) (.int 1)))]
theorem bitLO_h0_0 : lookE bitLO_h0 0 = (.bi .add (.var 0) (.int 1)) := rfl
theorem bitLO_h0_1 : lookE bitLO_h0 1 = (.bi (.iop .xor .u32) (.bi (.iop .shr .u32) (.var 1) (.int 1)) (.int 3988292384)) := rfl
theorem bitLO_h0_2 : lookE bitLO_h0 2 = (.var 2) := rfl
theorem bitLO_h0_3 : lookE bitLO_h0 3 = (.var 3) := rfl
theorem bitLO_h0_4 : lookE bitLO_h0 4 = (.var 4) := rfl
theorem bitLO_h0_5 : lookE bitLO_h0 5 = (.var 5) := rfl
theorem bitLO_h0_6 : lookE bitLO_h0 6 = (.var 6) := rfl
theorem bitLO_h0_7 : lookE bitLO_h0 7 = (.var 7) := rfl
theorem bitLO_y0 : nextD bitLO bitLO_h0 [(3, 3)] (roundC Try.prog [⟨14, [4, 1, 0, 1, 1, 1], moreL⟩, ⟨14, [4, 1, 0, 1, 1, 1], moreLO⟩, ⟨13, [4, 1, 4, 0, 1, 5, 4, 1, 0, 1, 1], bitL⟩] [(25, tableC), (14, moreC), (14, moreCO)] [] 3000 40 13 [4, 1, 4, 0, 1, 5, 4, 1, 0, 1, 1] (tellA bitLO_t0) bitLO) = some bitLO_d0 := by kernel_rfl
def bitLO_t1 : List (Q × Bool) := [((.le (.int 8) (.var 0)), false),
  ((.le (.int 0) (.var 4)), true),
  ((.le (.var 6) (.var 4)), false),
  ((.le (.int 0) (.bi .add (.var 5) (.var 4))), true),
  ((.le (.var 3) (.bi .add (.var 5) (.var 4))), false),
  ((.le (.int 0) (.var 0)), true),
  ((.eq (.bi (.iop .rem .u32) (.var 1) (.int 2)) (.bi (.iop .rem .u32) (.bi (.iop .shr .u8) (.bi .sel (.var 2) (.bi .add (.var 5) (.var 4))) (.var 0)) (.int 2))), true),
  ((.fit .i64 (.bi .add (.var 0) (.int 1))), true)]
def bitLO_d1 : List Duty := [(true, (.fn 3 (.bi .pair (.bi .add (.var 0) (.int 1)) (.bi .pair (.bi (.iop .shr .u32) (.var 1) (.int 1)) (.bi .pair (.bi .sel (.var 2) (.bi .add (.var 5) (.var 4))) (.int 0))))), (.fn 3 (.bi .pair (.var 0) (.bi .pair (.var 1) (.bi .pair (.bi .sel (.var 2) (.bi .add (.var 5) (.var 4))) (.int 0))))))]
def bitLO_h1 : List (Nat × E) := [(3, (.var 3)), (2, (.var 2)), (5, (.var 5)), (6, (.var 6)), (7, (.var 7)), (4, (.var 4)), (1, (.bi (.iop .shr .u32) (.var 1) (.int 1))), (0, (.bi .add (.var 0) (.int 1)))]
theorem bitLO_h1_0 : lookE bitLO_h1 0 = (.bi .add (.var 0) (.int 1)) := rfl
theorem bitLO_h1_1 : lookE bitLO_h1 1 = (.bi (.iop .shr .u32) (.var 1) (.int 1)) := rfl
theorem bitLO_h1_2 : lookE bitLO_h1 2 = (.var 2) := rfl
theorem bitLO_h1_3 : lookE bitLO_h1 3 = (.var 3) := rfl
theorem bitLO_h1_4 : lookE bitLO_h1 4 = (.var 4) := rfl
theorem bitLO_h1_5 : lookE bitLO_h1 5 = (.var 5) := rfl
theorem bitLO_h1_6 : lookE bitLO_h1 6 = (.var 6) := rfl
theorem bitLO_h1_7 : lookE bitLO_h1 7 = (.var 7) := rfl
theorem bitLO_y1 : nextD bitLO bitLO_h1 [(3, 3)] (roundC Try.prog [⟨14, [4, 1, 0, 1, 1, 1], moreL⟩, ⟨14, [4, 1, 0, 1, 1, 1], moreLO⟩, ⟨13, [4, 1, 4, 0, 1, 5, 4, 1, 0, 1, 1], bitL⟩] [(25, tableC), (14, moreC), (14, moreCO)] [] 3000 40 13 [4, 1, 4, 0, 1, 5, 4, 1, 0, 1, 1] (tellA bitLO_t1) bitLO) = some bitLO_d1 := by kernel_rfl
def bitLO_t2 : List (Q × Bool) := [((.le (.int 8) (.var 0)), true)]
def bitLO_d2 : List Duty := [(true, (.var 1), (.fn 3 (.bi .pair (.var 0) (.bi .pair (.var 1) (.bi .pair (.bi .sel (.var 2) (.bi .add (.var 5) (.var 4))) (.int 0))))))]
theorem bitLO_y2 : endD bitLO [(3, 3)] 1000 (roundC Try.prog [⟨14, [4, 1, 0, 1, 1, 1], moreL⟩, ⟨14, [4, 1, 0, 1, 1, 1], moreLO⟩, ⟨13, [4, 1, 4, 0, 1, 5, 4, 1, 0, 1, 1], bitL⟩] [(25, tableC), (14, moreC), (14, moreCO)] [] 3000 40 13 [4, 1, 4, 0, 1, 5, 4, 1, 0, 1, 1] (tellA bitLO_t2) bitLO) = some bitLO_d2 := by kernel_rfl
theorem bitLO_holds : LHolds Try.prog (loopAt Try.prog 13 [4, 1, 4, 0, 1, 5, 4, 1, 0, 1, 1]) bitLO F := by
  refine loop_roundsC sound (tableCons moreL_holds (tableCons moreLO_holds (tableCons bitL_holds (tableNil _ _)))) (specsCons tableC_holds (specsCons moreC_holds (specsCons moreCO_holds (specsNil _ _)))) (oversNil _ _) (fuel := 3000) (depth := 40) (by kernel_rfl) (by kernel_rfl) (by kernel_rfl) (fun d => (8 - (d 0).toInt).toNat) fun d hp hR hA => ?_
  have hp := allTold'_iff.2 hp
  simp only [bitLO, allTold', dutiesTold, factsA, factsP, factsR, AV.facts, RW.facts, inK, and_true, Q.holds', E.i, E.s, E.n, D.nat, E.den, BO.den, UO.den, TO.den, D.toInt_int, D.toList_list, D.ints_ofInts, i64min, i64max, u8min, u8max, u16min, u16max, u32min, u32max, u64min, u64max, i32min, i32max, Om.sub, selI, ints_app, ints_cut, ints_upd, ints_rep, ints_splice, len_ints] at hp hR hA
  by_cases h : 8 ≤ (d 0).toInt
  · refine ⟨tellA bitLO_t2, tellA_ok (allTold'_iff.1 ?_), .inl ⟨_, _, _, bitLO_y2, dutiesTold_ok ?_⟩⟩
    · simp only [bitLO_t2, allTold', dutiesTold, factsA, factsP, factsR, AV.facts, RW.facts, inK, and_true, Q.holds', E.i, E.s, E.n, D.nat, E.den, BO.den, UO.den, TO.den, D.toInt_int, D.toList_list, D.ints_ofInts, i64min, i64max, u8min, u8max, u16min, u16max, u32min, u32max, u64min, u64max, i32min, i32max, Om.sub, selI, ints_app, ints_cut, ints_upd, ints_rep, ints_splice, len_ints]
      omega
    · simp only [bitLO_d2, F3, allTold', dutiesTold, factsA, factsP, factsR, AV.facts, RW.facts, inK, and_true, Q.holds', E.i, E.s, E.n, D.nat, E.den, BO.den, UO.den, TO.den, D.toInt_int, D.toList_list, D.ints_ofInts, i64min, i64max, u8min, u8max, u16min, u16max, u32min, u32max, u64min, u64max, i32min, i32max, Om.sub, selI, ints_app, ints_cut, ints_upd, ints_rep, ints_splice, len_ints]
      rw [show (8 - (d 0).toInt).toNat = 0 by omega]
      rfl
  · by_cases g : iopI .rem .u32 (d 1).toInt 2 = iopI .rem .u32 (iopI .shr .u8 (((d 2).ints[((d 5).toInt + (d 4).toInt).toNat]?).getD 0) (d 0).toInt) 2
    · refine ⟨tellA bitLO_t1, tellA_ok (allTold'_iff.1 ?_), .inr ⟨bitLO_h1, _, _, bitLO_y1, dutiesTold_ok ?_, allTold'_iff.1 ?_, ?_⟩⟩
      · simp only [bitLO_t1, allTold', dutiesTold, factsA, factsP, factsR, AV.facts, RW.facts, inK, and_true, Q.holds', E.i, E.s, E.n, D.nat, E.den, BO.den, UO.den, TO.den, D.toInt_int, D.toList_list, D.ints_ofInts, i64min, i64max, u8min, u8max, u16min, u16max, u32min, u32max, u64min, u64max, i32min, i32max, Om.sub, selI, ints_app, ints_cut, ints_upd, ints_rep, ints_splice, len_ints]
        omega
      · simp only [bitLO_d1, F3, allTold', dutiesTold, factsA, factsP, factsR, AV.facts, RW.facts, inK, and_true, Q.holds', E.i, E.s, E.n, D.nat, E.den, BO.den, UO.den, TO.den, D.toInt_int, D.toList_list, D.ints_ofInts, i64min, i64max, u8min, u8max, u16min, u16max, u32min, u32max, u64min, u64max, i32min, i32max, Om.sub, selI, ints_app, ints_cut, ints_upd, ints_rep, ints_splice, len_ints]
        rw [bits_step _ (d 1).toInt _ (by omega)]
        unfold bitI
        rw [if_pos g]
      · simp only [bitLO, bitLO_h1_0, bitLO_h1_1, bitLO_h1_2, bitLO_h1_3, bitLO_h1_4, bitLO_h1_5, bitLO_h1_6, bitLO_h1_7, allTold', dutiesTold, factsA, factsP, factsR, AV.facts, RW.facts, inK, and_true, Q.holds', E.i, E.s, E.n, D.nat, E.den, BO.den, UO.den, TO.den, D.toInt_int, D.toList_list, D.ints_ofInts, i64min, i64max, u8min, u8max, u16min, u16max, u32min, u32max, u64min, u64max, i32min, i32max, Om.sub, selI, ints_app, ints_cut, ints_upd, ints_rep, ints_splice, len_ints]
        omega
      · simp only [bitLO_h1_0, bitLO_h1_1, bitLO_h1_2, bitLO_h1_3, bitLO_h1_4, bitLO_h1_5, bitLO_h1_6, bitLO_h1_7, allTold', dutiesTold, factsA, factsP, factsR, AV.facts, RW.facts, inK, and_true, Q.holds', E.i, E.s, E.n, D.nat, E.den, BO.den, UO.den, TO.den, D.toInt_int, D.toList_list, D.ints_ofInts, i64min, i64max, u8min, u8max, u16min, u16max, u32min, u32max, u64min, u64max, i32min, i32max, Om.sub, selI, ints_app, ints_cut, ints_upd, ints_rep, ints_splice, len_ints]
        omega
    · refine ⟨tellA bitLO_t0, tellA_ok (allTold'_iff.1 ?_), .inr ⟨bitLO_h0, _, _, bitLO_y0, dutiesTold_ok ?_, allTold'_iff.1 ?_, ?_⟩⟩
      · simp only [bitLO_t0, allTold', dutiesTold, factsA, factsP, factsR, AV.facts, RW.facts, inK, and_true, Q.holds', E.i, E.s, E.n, D.nat, E.den, BO.den, UO.den, TO.den, D.toInt_int, D.toList_list, D.ints_ofInts, i64min, i64max, u8min, u8max, u16min, u16max, u32min, u32max, u64min, u64max, i32min, i32max, Om.sub, selI, ints_app, ints_cut, ints_upd, ints_rep, ints_splice, len_ints]
        omega
      · simp only [bitLO_d0, F3, allTold', dutiesTold, factsA, factsP, factsR, AV.facts, RW.facts, inK, and_true, Q.holds', E.i, E.s, E.n, D.nat, E.den, BO.den, UO.den, TO.den, D.toInt_int, D.toList_list, D.ints_ofInts, i64min, i64max, u8min, u8max, u16min, u16max, u32min, u32max, u64min, u64max, i32min, i32max, Om.sub, selI, ints_app, ints_cut, ints_upd, ints_rep, ints_splice, len_ints]
        rw [bits_step _ (d 1).toInt _ (by omega)]
        unfold bitI
        rw [if_neg g]
      · simp only [bitLO, bitLO_h0_0, bitLO_h0_1, bitLO_h0_2, bitLO_h0_3, bitLO_h0_4, bitLO_h0_5, bitLO_h0_6, bitLO_h0_7, allTold', dutiesTold, factsA, factsP, factsR, AV.facts, RW.facts, inK, and_true, Q.holds', E.i, E.s, E.n, D.nat, E.den, BO.den, UO.den, TO.den, D.toInt_int, D.toList_list, D.ints_ofInts, i64min, i64max, u8min, u8max, u16min, u16max, u32min, u32max, u64min, u64max, i32min, i32max, Om.sub, selI, ints_app, ints_cut, ints_upd, ints_rep, ints_splice, len_ints]
        omega
      · simp only [bitLO_h0_0, bitLO_h0_1, bitLO_h0_2, bitLO_h0_3, bitLO_h0_4, bitLO_h0_5, bitLO_h0_6, bitLO_h0_7, allTold', dutiesTold, factsA, factsP, factsR, AV.facts, RW.facts, inK, and_true, Q.holds', E.i, E.s, E.n, D.nat, E.den, BO.den, UO.den, TO.den, D.toInt_int, D.toList_list, D.ints_ofInts, i64min, i64max, u8min, u8max, u16min, u16max, u32min, u32max, u64min, u64max, i32min, i32max, Om.sub, selI, ints_app, ints_cut, ints_upd, ints_rep, ints_splice, len_ints]
        omega

def refL : LSpec := { n := 35, next := 2, pat := [(4, .sint .i64 (.var 0)), (3, .sint .u32 (.var 1)), (0, .sslice 3 (.var 5) (.var 6) (.var 7) false)], rows := [(3, .eseq ⟨.u8, .var 3, .var 2⟩)], pre := [(.le (.int 0) (.var 0), true), (.le (.var 0) (.var 6), true), (.le (.bi .add (.var 5) (.var 6)) (.var 3), true), (.le (.var 6) (.int 1000000), true)], x := 0, fin := [(3, .sint .u32 (.fn 4 (argsE [.var 1, .var 2, .bi .add (.var 5) (.var 0), .bi .add (.var 5) (.var 6)])))], frows := [], same := [3], chg := [0, 3, 4, 5, 6, 7, 8, 9, 10, 11, 12, 13, 14, 15, 16, 17, 18, 19, 20, 21, 22, 23, 24, 25, 26, 27, 28, 29, 30, 31, 32] }
def refL_t0 : List (Q × Bool) := [((.fit .i64 (.var 6)), true),
  ((.le (.var 6) (.var 0)), false),
  ((.le (.int 0) (.var 0)), true),
  ((.le (.bi .add (.var 5) (.var 6)) (.var 3)), true),
  ((.fit .i64 (.bi .add (.var 0) (.int 1))), true)]
def refL_d0 : List Duty := [(true, (.fn 4 (.bi .pair (.fn 3 (.bi .pair (.int 0) (.bi .pair (.var 1) (.bi .pair (.bi .sel (.var 2) (.bi .add (.var 5) (.var 0))) (.int 0))))) (.bi .pair (.var 2) (.bi .pair (.bi .add (.var 5) (.bi .add (.var 0) (.int 1))) (.bi .pair (.bi .add (.var 5) (.var 6)) (.int 0)))))), (.fn 4 (.bi .pair (.var 1) (.bi .pair (.var 2) (.bi .pair (.bi .add (.var 5) (.var 0)) (.bi .pair (.bi .add (.var 5) (.var 6)) (.int 0)))))))]
def refL_h0 : List (Nat × E) := [(3, (.var 3)), (2, (.var 2)), (5, (.var 5)), (6, (.var 6)), (7, (.var 7)), (1, (.fn 3 (.bi .pair (.int 0) (.bi .pair (.var 1) (.bi .pair (.bi .sel (.var 2) (.bi .add (.var 5) (.var 0))) (.int 0)))))), (0, (.bi .add (.var 0) (.int 1)))]
theorem refL_h0_0 : lookE refL_h0 0 = (.bi .add (.var 0) (.int 1)) := rfl
theorem refL_h0_1 : lookE refL_h0 1 = (.fn 3 (.bi .pair (.int 0) (.bi .pair (.var 1) (.bi .pair (.bi .sel (.var 2) (.bi .add (.var 5) (.var 0))) (.int 0))))) := rfl
theorem refL_h0_2 : lookE refL_h0 2 = (.var 2) := rfl
theorem refL_h0_3 : lookE refL_h0 3 = (.var 3) := rfl
theorem refL_h0_5 : lookE refL_h0 5 = (.var 5) := rfl
theorem refL_h0_6 : lookE refL_h0 6 = (.var 6) := rfl
theorem refL_h0_7 : lookE refL_h0 7 = (.var 7) := rfl
theorem refL_y0 : nextD refL refL_h0 [(3, 3)] (roundC Try.prog [⟨14, [4, 1, 0, 1, 1, 1], moreL⟩, ⟨14, [4, 1, 0, 1, 1, 1], moreLO⟩, ⟨13, [4, 1, 4, 0, 1, 5, 4, 1, 0, 1, 1], bitL⟩, ⟨13, [4, 1, 4, 0, 1, 5, 4, 1, 0, 1, 1], bitLO⟩] [(25, tableC), (14, moreC), (14, moreCO)] [] 3000 40 13 [4, 1, 0, 1, 1] (tellA refL_t0) refL) = some refL_d0 := by kernel_rfl
def refL_t1 : List (Q × Bool) := [((.fit .i64 (.var 6)), true),
  ((.le (.var 6) (.var 0)), true)]
def refL_d1 : List Duty := [(true, (.var 1), (.fn 4 (.bi .pair (.var 1) (.bi .pair (.var 2) (.bi .pair (.bi .add (.var 5) (.var 0)) (.bi .pair (.bi .add (.var 5) (.var 6)) (.int 0)))))))]
theorem refL_y1 : endD refL [(3, 3)] 1000 (roundC Try.prog [⟨14, [4, 1, 0, 1, 1, 1], moreL⟩, ⟨14, [4, 1, 0, 1, 1, 1], moreLO⟩, ⟨13, [4, 1, 4, 0, 1, 5, 4, 1, 0, 1, 1], bitL⟩, ⟨13, [4, 1, 4, 0, 1, 5, 4, 1, 0, 1, 1], bitLO⟩] [(25, tableC), (14, moreC), (14, moreCO)] [] 3000 40 13 [4, 1, 0, 1, 1] (tellA refL_t1) refL) = some refL_d1 := by kernel_rfl
theorem refL_holds : LHolds Try.prog (loopAt Try.prog 13 [4, 1, 0, 1, 1]) refL F := by
  refine loop_roundsC sound (tableCons moreL_holds (tableCons moreLO_holds (tableCons bitL_holds (tableCons bitLO_holds (tableNil _ _))))) (specsCons tableC_holds (specsCons moreC_holds (specsCons moreCO_holds (specsNil _ _)))) (oversNil _ _) (fuel := 3000) (depth := 40) (by kernel_rfl) (by kernel_rfl) (by kernel_rfl) (fun d => ((d 6).toInt - (d 0).toInt).toNat) fun d hp hR hA => ?_
  have hp := allTold'_iff.2 hp
  simp only [refL, allTold', dutiesTold, factsA, factsP, factsR, AV.facts, RW.facts, inK, and_true, Q.holds', E.i, E.s, E.n, D.nat, E.den, BO.den, UO.den, TO.den, D.toInt_int, D.toList_list, D.ints_ofInts, i64min, i64max, u8min, u8max, u16min, u16max, u32min, u32max, u64min, u64max, i32min, i32max, Om.sub, selI, ints_app, ints_cut, ints_upd, ints_rep, ints_splice, len_ints] at hp hR hA
  by_cases h : (d 6).toInt ≤ (d 0).toInt
  · refine ⟨tellA refL_t1, tellA_ok (allTold'_iff.1 ?_), .inl ⟨_, _, _, refL_y1, dutiesTold_ok ?_⟩⟩
    · simp only [refL_t1, allTold', dutiesTold, factsA, factsP, factsR, AV.facts, RW.facts, inK, and_true, Q.holds', E.i, E.s, E.n, D.nat, E.den, BO.den, UO.den, TO.den, D.toInt_int, D.toList_list, D.ints_ofInts, i64min, i64max, u8min, u8max, u16min, u16max, u32min, u32max, u64min, u64max, i32min, i32max, Om.sub, selI, ints_app, ints_cut, ints_upd, ints_rep, ints_splice, len_ints]
      omega
    · simp only [refL_d1, F4, allTold', dutiesTold, factsA, factsP, factsR, AV.facts, RW.facts, inK, and_true, Q.holds', E.i, E.s, E.n, D.nat, E.den, BO.den, UO.den, TO.den, D.toInt_int, D.toList_list, D.ints_ofInts, i64min, i64max, u8min, u8max, u16min, u16max, u32min, u32max, u64min, u64max, i32min, i32max, Om.sub, selI, ints_app, ints_cut, ints_upd, ints_rep, ints_splice, len_ints]
      rw [prt_nil (by omega) (by omega)]
      rfl
  · refine ⟨tellA refL_t0, tellA_ok (allTold'_iff.1 ?_), .inr ⟨refL_h0, _, _, refL_y0, dutiesTold_ok ?_, allTold'_iff.1 ?_, ?_⟩⟩
    · simp only [refL_t0, allTold', dutiesTold, factsA, factsP, factsR, AV.facts, RW.facts, inK, and_true, Q.holds', E.i, E.s, E.n, D.nat, E.den, BO.den, UO.den, TO.den, D.toInt_int, D.toList_list, D.ints_ofInts, i64min, i64max, u8min, u8max, u16min, u16max, u32min, u32max, u64min, u64max, i32min, i32max, Om.sub, selI, ints_app, ints_cut, ints_upd, ints_rep, ints_splice, len_ints]
      omega
    · simp only [refL_d0, F4, F3, allTold', dutiesTold, factsA, factsP, factsR, AV.facts, RW.facts, inK, and_true, Q.holds', E.i, E.s, E.n, D.nat, E.den, BO.den, UO.den, TO.den, D.toInt_int, D.toList_list, D.ints_ofInts, i64min, i64max, u8min, u8max, u16min, u16max, u32min, u32max, u64min, u64max, i32min, i32max, Om.sub, selI, ints_app, ints_cut, ints_upd, ints_rep, ints_splice, len_ints]
      rw [prt_step (x := (d 2).ints) (o := (d 5).toInt + (d 0).toInt) (by omega) (by omega) (by omega), Int.add_assoc]
      rfl
    · simp only [refL, refL_h0_0, refL_h0_1, refL_h0_2, refL_h0_3, refL_h0_5, refL_h0_6, refL_h0_7, allTold', dutiesTold, factsA, factsP, factsR, AV.facts, RW.facts, inK, and_true, Q.holds', E.i, E.s, E.n, D.nat, E.den, BO.den, UO.den, TO.den, D.toInt_int, D.toList_list, D.ints_ofInts, i64min, i64max, u8min, u8max, u16min, u16max, u32min, u32max, u64min, u64max, i32min, i32max, Om.sub, selI, ints_app, ints_cut, ints_upd, ints_rep, ints_splice, len_ints]
      omega
    · simp only [refL_h0_0, refL_h0_1, refL_h0_2, refL_h0_3, refL_h0_5, refL_h0_6, refL_h0_7, allTold', dutiesTold, factsA, factsP, factsR, AV.facts, RW.facts, inK, and_true, Q.holds', E.i, E.s, E.n, D.nat, E.den, BO.den, UO.den, TO.den, D.toInt_int, D.toList_list, D.ints_ofInts, i64min, i64max, u8min, u8max, u16min, u16max, u32min, u32max, u64min, u64max, i32min, i32max, Om.sub, selI, ints_app, ints_cut, ints_upd, ints_rep, ints_splice, len_ints]
      omega

def refLO : LSpec := { n := 35, next := 2, pat := [(4, .sint .i64 (.var 0)), (3, .sint .u32 (.var 1)), (0, .sslice 3 (.var 5) (.var 6) (.var 7) true)], rows := [(3, .eseq ⟨.u8, .var 3, .var 2⟩)], pre := [(.le (.int 0) (.var 0), true), (.le (.var 0) (.var 6), true), (.le (.bi .add (.var 5) (.var 6)) (.var 3), true), (.le (.var 6) (.int 1000000), true)], x := 0, fin := [(3, .sint .u32 (.fn 4 (argsE [.var 1, .var 2, .bi .add (.var 5) (.var 0), .bi .add (.var 5) (.var 6)])))], frows := [], same := [3], chg := [0, 3, 4, 5, 6, 7, 8, 9, 10, 11, 12, 13, 14, 15, 16, 17, 18, 19, 20, 21, 22, 23, 24, 25, 26, 27, 28, 29, 30, 31, 32] }
def refLO_t0 : List (Q × Bool) := [((.fit .i64 (.var 6)), true),
  ((.le (.var 6) (.var 0)), false),
  ((.le (.int 0) (.var 0)), true),
  ((.le (.bi .add (.var 5) (.var 6)) (.var 3)), true),
  ((.fit .i64 (.bi .add (.var 0) (.int 1))), true)]
def refLO_d0 : List Duty := [(true, (.fn 4 (.bi .pair (.fn 3 (.bi .pair (.int 0) (.bi .pair (.var 1) (.bi .pair (.bi .sel (.var 2) (.bi .add (.var 5) (.var 0))) (.int 0))))) (.bi .pair (.var 2) (.bi .pair (.bi .add (.var 5) (.bi .add (.var 0) (.int 1))) (.bi .pair (.bi .add (.var 5) (.var 6)) (.int 0)))))), (.fn 4 (.bi .pair (.var 1) (.bi .pair (.var 2) (.bi .pair (.bi .add (.var 5) (.var 0)) (.bi .pair (.bi .add (.var 5) (.var 6)) (.int 0)))))))]
def refLO_h0 : List (Nat × E) := [(3, (.var 3)), (2, (.var 2)), (5, (.var 5)), (6, (.var 6)), (7, (.var 7)), (1, (.fn 3 (.bi .pair (.int 0) (.bi .pair (.var 1) (.bi .pair (.bi .sel (.var 2) (.bi .add (.var 5) (.var 0))) (.int 0)))))), (0, (.bi .add (.var 0) (.int 1)))]
theorem refLO_h0_0 : lookE refLO_h0 0 = (.bi .add (.var 0) (.int 1)) := rfl
theorem refLO_h0_1 : lookE refLO_h0 1 = (.fn 3 (.bi .pair (.int 0) (.bi .pair (.var 1) (.bi .pair (.bi .sel (.var 2) (.bi .add (.var 5) (.var 0))) (.int 0))))) := rfl
theorem refLO_h0_2 : lookE refLO_h0 2 = (.var 2) := rfl
theorem refLO_h0_3 : lookE refLO_h0 3 = (.var 3) := rfl
theorem refLO_h0_5 : lookE refLO_h0 5 = (.var 5) := rfl
theorem refLO_h0_6 : lookE refLO_h0 6 = (.var 6) := rfl
theorem refLO_h0_7 : lookE refLO_h0 7 = (.var 7) := rfl
theorem refLO_y0 : nextD refLO refLO_h0 [(3, 3)] (roundC Try.prog [⟨14, [4, 1, 0, 1, 1, 1], moreL⟩, ⟨14, [4, 1, 0, 1, 1, 1], moreLO⟩, ⟨13, [4, 1, 4, 0, 1, 5, 4, 1, 0, 1, 1], bitL⟩, ⟨13, [4, 1, 4, 0, 1, 5, 4, 1, 0, 1, 1], bitLO⟩, ⟨13, [4, 1, 0, 1, 1], refL⟩] [(25, tableC), (14, moreC), (14, moreCO)] [] 3000 40 13 [4, 1, 0, 1, 1] (tellA refLO_t0) refLO) = some refLO_d0 := by kernel_rfl
def refLO_t1 : List (Q × Bool) := [((.fit .i64 (.var 6)), true),
  ((.le (.var 6) (.var 0)), true)]
def refLO_d1 : List Duty := [(true, (.var 1), (.fn 4 (.bi .pair (.var 1) (.bi .pair (.var 2) (.bi .pair (.bi .add (.var 5) (.var 0)) (.bi .pair (.bi .add (.var 5) (.var 6)) (.int 0)))))))]
theorem refLO_y1 : endD refLO [(3, 3)] 1000 (roundC Try.prog [⟨14, [4, 1, 0, 1, 1, 1], moreL⟩, ⟨14, [4, 1, 0, 1, 1, 1], moreLO⟩, ⟨13, [4, 1, 4, 0, 1, 5, 4, 1, 0, 1, 1], bitL⟩, ⟨13, [4, 1, 4, 0, 1, 5, 4, 1, 0, 1, 1], bitLO⟩, ⟨13, [4, 1, 0, 1, 1], refL⟩] [(25, tableC), (14, moreC), (14, moreCO)] [] 3000 40 13 [4, 1, 0, 1, 1] (tellA refLO_t1) refLO) = some refLO_d1 := by kernel_rfl
theorem refLO_holds : LHolds Try.prog (loopAt Try.prog 13 [4, 1, 0, 1, 1]) refLO F := by
  refine loop_roundsC sound (tableCons moreL_holds (tableCons moreLO_holds (tableCons bitL_holds (tableCons bitLO_holds (tableCons refL_holds (tableNil _ _)))))) (specsCons tableC_holds (specsCons moreC_holds (specsCons moreCO_holds (specsNil _ _)))) (oversNil _ _) (fuel := 3000) (depth := 40) (by kernel_rfl) (by kernel_rfl) (by kernel_rfl) (fun d => ((d 6).toInt - (d 0).toInt).toNat) fun d hp hR hA => ?_
  have hp := allTold'_iff.2 hp
  simp only [refLO, allTold', dutiesTold, factsA, factsP, factsR, AV.facts, RW.facts, inK, and_true, Q.holds', E.i, E.s, E.n, D.nat, E.den, BO.den, UO.den, TO.den, D.toInt_int, D.toList_list, D.ints_ofInts, i64min, i64max, u8min, u8max, u16min, u16max, u32min, u32max, u64min, u64max, i32min, i32max, Om.sub, selI, ints_app, ints_cut, ints_upd, ints_rep, ints_splice, len_ints] at hp hR hA
  by_cases h : (d 6).toInt ≤ (d 0).toInt
  · refine ⟨tellA refLO_t1, tellA_ok (allTold'_iff.1 ?_), .inl ⟨_, _, _, refLO_y1, dutiesTold_ok ?_⟩⟩
    · simp only [refLO_t1, allTold', dutiesTold, factsA, factsP, factsR, AV.facts, RW.facts, inK, and_true, Q.holds', E.i, E.s, E.n, D.nat, E.den, BO.den, UO.den, TO.den, D.toInt_int, D.toList_list, D.ints_ofInts, i64min, i64max, u8min, u8max, u16min, u16max, u32min, u32max, u64min, u64max, i32min, i32max, Om.sub, selI, ints_app, ints_cut, ints_upd, ints_rep, ints_splice, len_ints]
      omega
    · simp only [refLO_d1, F4, allTold', dutiesTold, factsA, factsP, factsR, AV.facts, RW.facts, inK, and_true, Q.holds', E.i, E.s, E.n, D.nat, E.den, BO.den, UO.den, TO.den, D.toInt_int, D.toList_list, D.ints_ofInts, i64min, i64max, u8min, u8max, u16min, u16max, u32min, u32max, u64min, u64max, i32min, i32max, Om.sub, selI, ints_app, ints_cut, ints_upd, ints_rep, ints_splice, len_ints]
      rw [prt_nil (by omega) (by omega)]
      rfl
  · refine ⟨tellA refLO_t0, tellA_ok (allTold'_iff.1 ?_), .inr ⟨refLO_h0, _, _, refLO_y0, dutiesTold_ok ?_, allTold'_iff.1 ?_, ?_⟩⟩
    · simp only [refLO_t0, allTold', dutiesTold, factsA, factsP, factsR, AV.facts, RW.facts, inK, and_true, Q.holds', E.i, E.s, E.n, D.nat, E.den, BO.den, UO.den, TO.den, D.toInt_int, D.toList_list, D.ints_ofInts, i64min, i64max, u8min, u8max, u16min, u16max, u32min, u32max, u64min, u64max, i32min, i32max, Om.sub, selI, ints_app, ints_cut, ints_upd, ints_rep, ints_splice, len_ints]
      omega
    · simp only [refLO_d0, F4, F3, allTold', dutiesTold, factsA, factsP, factsR, AV.facts, RW.facts, inK, and_true, Q.holds', E.i, E.s, E.n, D.nat, E.den, BO.den, UO.den, TO.den, D.toInt_int, D.toList_list, D.ints_ofInts, i64min, i64max, u8min, u8max, u16min, u16max, u32min, u32max, u64min, u64max, i32min, i32max, Om.sub, selI, ints_app, ints_cut, ints_upd, ints_rep, ints_splice, len_ints]
      rw [prt_step (x := (d 2).ints) (o := (d 5).toInt + (d 0).toInt) (by omega) (by omega) (by omega), Int.add_assoc]
      rfl
    · simp only [refLO, refLO_h0_0, refLO_h0_1, refLO_h0_2, refLO_h0_3, refLO_h0_5, refLO_h0_6, refLO_h0_7, allTold', dutiesTold, factsA, factsP, factsR, AV.facts, RW.facts, inK, and_true, Q.holds', E.i, E.s, E.n, D.nat, E.den, BO.den, UO.den, TO.den, D.toInt_int, D.toList_list, D.ints_ofInts, i64min, i64max, u8min, u8max, u16min, u16max, u32min, u32max, u64min, u64max, i32min, i32max, Om.sub, selI, ints_app, ints_cut, ints_upd, ints_rep, ints_splice, len_ints]
      omega
    · simp only [refLO_h0_0, refLO_h0_1, refLO_h0_2, refLO_h0_3, refLO_h0_5, refLO_h0_6, refLO_h0_7, allTold', dutiesTold, factsA, factsP, factsR, AV.facts, RW.facts, inK, and_true, Q.holds', E.i, E.s, E.n, D.nat, E.den, BO.den, UO.den, TO.den, D.toInt_int, D.toList_list, D.ints_ofInts, i64min, i64max, u8min, u8max, u16min, u16max, u32min, u32max, u64min, u64max, i32min, i32max, Om.sub, selI, ints_app, ints_cut, ints_upd, ints_rep, ints_splice, len_ints]
      omega

def refC : CSpec := { args := [.sslice 3 (.var 1) (.var 2) (.var 3) false], next := 2, rows := [(3, .eseq ⟨.u8, .var 4, .var 5⟩)], pre := [(.le (.bi .add (.var 1) (.var 2)) (.var 4), true), (.le (.var 2) (.int 1000000), true)], res := .sint .u32 (.fn 5 (argsE [.var 5, .var 1, .bi .add (.var 1) (.var 2)])), frows := [], same := [] }
def refC_t0 : List (Q × Bool) := [((.le (.int 0) (.var 2)), true),
  ((.le (.bi .add (.var 1) (.var 2)) (.var 4)), true),
  ((.le (.var 2) (.int 1000000)), true)]
def refC_d0 : List Duty := [(true, (.bi (.iop .xor .u32) (.int 4294967295) (.fn 4 (.bi .pair (.int 4294967295) (.bi .pair (.var 5) (.bi .pair (.bi .add (.var 1) (.int 0)) (.bi .pair (.bi .add (.var 1) (.var 2)) (.int 0))))))), (.fn 5 (.bi .pair (.var 5) (.bi .pair (.var 1) (.bi .pair (.bi .add (.var 1) (.var 2)) (.int 0))))))]
theorem refC_y0 : endC refC [] 1000 (callC Try.prog (tellA refC_t0) [⟨14, [4, 1, 0, 1, 1, 1], moreL⟩, ⟨14, [4, 1, 0, 1, 1, 1], moreLO⟩, ⟨13, [4, 1, 4, 0, 1, 5, 4, 1, 0, 1, 1], bitL⟩, ⟨13, [4, 1, 4, 0, 1, 5, 4, 1, 0, 1, 1], bitLO⟩, ⟨13, [4, 1, 0, 1, 1], refL⟩, ⟨13, [4, 1, 0, 1, 1], refLO⟩] [(25, tableC), (14, moreC), (14, moreCO)] [] 3000 40 13 refC) = some refC_d0 := by kernel_rfl
theorem refC_holds : CHolds Try.prog 13 refC F := by
  refine cholds_of sound (tableCons moreL_holds (tableCons moreLO_holds (tableCons bitL_holds (tableCons bitLO_holds (tableCons refL_holds (tableCons refLO_holds (tableNil _ _))))))) (specsCons tableC_holds (specsCons moreC_holds (specsCons moreCO_holds (specsNil _ _)))) (oversNil _ _) (fuel := 3000) (depth := 40) (by kernel_rfl) fun d hp hR hA => ?_
  have hp := allTold'_iff.2 hp
  simp only [refC, allTold', dutiesTold, factsA, factsP, factsR, AV.facts, RW.facts, inK, and_true, Q.holds', E.i, E.s, E.n, D.nat, E.den, BO.den, UO.den, TO.den, D.toInt_int, D.toList_list, D.ints_ofInts, i64min, i64max, u8min, u8max, u16min, u16max, u32min, u32max, u64min, u64max, i32min, i32max, Om.sub, selI, ints_app, ints_cut, ints_upd, ints_rep, ints_splice, len_ints] at hp hR hA
  refine ⟨tellA refC_t0, _, _, _, tellA_ok (allTold'_iff.1 ?_), refC_y0, dutiesTold_ok ?_⟩
  · simp only [refC_t0, allTold', dutiesTold, factsA, factsP, factsR, AV.facts, RW.facts, inK, and_true, Q.holds', E.i, E.s, E.n, D.nat, E.den, BO.den, UO.den, TO.den, D.toInt_int, D.toList_list, D.ints_ofInts, i64min, i64max, u8min, u8max, u16min, u16max, u32min, u32max, u64min, u64max, i32min, i32max, Om.sub, selI, ints_app, ints_cut, ints_upd, ints_rep, ints_splice, len_ints]
    omega
  · simp only [refC_d0, F4, F5, Int.add_zero, allTold', dutiesTold, factsA, factsP, factsR, AV.facts, RW.facts, inK, and_true, Q.holds', E.i, E.s, E.n, D.nat, E.den, BO.den, UO.den, TO.den, D.toInt_int, D.toList_list, D.ints_ofInts, i64min, i64max, u8min, u8max, u16min, u16max, u32min, u32max, u64min, u64max, i32min, i32max, Om.sub, selI, ints_app, ints_cut, ints_upd, ints_rep, ints_splice, len_ints]
    rfl

def refCO : CSpec := { args := [.sslice 3 (.var 1) (.var 2) (.var 3) true], next := 2, rows := [(3, .eseq ⟨.u8, .var 4, .var 5⟩)], pre := [(.le (.bi .add (.var 1) (.var 2)) (.var 4), true), (.le (.var 2) (.int 1000000), true)], res := .sint .u32 (.fn 5 (argsE [.var 5, .var 1, .bi .add (.var 1) (.var 2)])), frows := [], same := [] }
def refCO_t0 : List (Q × Bool) := [((.le (.int 0) (.var 2)), true),
  ((.le (.bi .add (.var 1) (.var 2)) (.var 4)), true),
  ((.le (.var 2) (.int 1000000)), true)]
def refCO_d0 : List Duty := [(true, (.bi (.iop .xor .u32) (.int 4294967295) (.fn 4 (.bi .pair (.int 4294967295) (.bi .pair (.var 5) (.bi .pair (.bi .add (.var 1) (.int 0)) (.bi .pair (.bi .add (.var 1) (.var 2)) (.int 0))))))), (.fn 5 (.bi .pair (.var 5) (.bi .pair (.var 1) (.bi .pair (.bi .add (.var 1) (.var 2)) (.int 0))))))]
theorem refCO_y0 : endC refCO [] 1000 (callC Try.prog (tellA refCO_t0) [⟨14, [4, 1, 0, 1, 1, 1], moreL⟩, ⟨14, [4, 1, 0, 1, 1, 1], moreLO⟩, ⟨13, [4, 1, 4, 0, 1, 5, 4, 1, 0, 1, 1], bitL⟩, ⟨13, [4, 1, 4, 0, 1, 5, 4, 1, 0, 1, 1], bitLO⟩, ⟨13, [4, 1, 0, 1, 1], refL⟩, ⟨13, [4, 1, 0, 1, 1], refLO⟩] [(25, tableC), (14, moreC), (14, moreCO), (13, refC)] [] 3000 40 13 refCO) = some refCO_d0 := by kernel_rfl
theorem refCO_holds : CHolds Try.prog 13 refCO F := by
  refine cholds_of sound (tableCons moreL_holds (tableCons moreLO_holds (tableCons bitL_holds (tableCons bitLO_holds (tableCons refL_holds (tableCons refLO_holds (tableNil _ _))))))) (specsCons tableC_holds (specsCons moreC_holds (specsCons moreCO_holds (specsCons refC_holds (specsNil _ _))))) (oversNil _ _) (fuel := 3000) (depth := 40) (by kernel_rfl) fun d hp hR hA => ?_
  have hp := allTold'_iff.2 hp
  simp only [refCO, allTold', dutiesTold, factsA, factsP, factsR, AV.facts, RW.facts, inK, and_true, Q.holds', E.i, E.s, E.n, D.nat, E.den, BO.den, UO.den, TO.den, D.toInt_int, D.toList_list, D.ints_ofInts, i64min, i64max, u8min, u8max, u16min, u16max, u32min, u32max, u64min, u64max, i32min, i32max, Om.sub, selI, ints_app, ints_cut, ints_upd, ints_rep, ints_splice, len_ints] at hp hR hA
  refine ⟨tellA refCO_t0, _, _, _, tellA_ok (allTold'_iff.1 ?_), refCO_y0, dutiesTold_ok ?_⟩
  · simp only [refCO_t0, allTold', dutiesTold, factsA, factsP, factsR, AV.facts, RW.facts, inK, and_true, Q.holds', E.i, E.s, E.n, D.nat, E.den, BO.den, UO.den, TO.den, D.toInt_int, D.toList_list, D.ints_ofInts, i64min, i64max, u8min, u8max, u16min, u16max, u32min, u32max, u64min, u64max, i32min, i32max, Om.sub, selI, ints_app, ints_cut, ints_upd, ints_rep, ints_splice, len_ints]
    omega
  · simp only [refCO_d0, F4, F5, Int.add_zero, allTold', dutiesTold, factsA, factsP, factsR, AV.facts, RW.facts, inK, and_true, Q.holds', E.i, E.s, E.n, D.nat, E.den, BO.den, UO.den, TO.den, D.toInt_int, D.toList_list, D.ints_ofInts, i64min, i64max, u8min, u8max, u16min, u16max, u32min, u32max, u64min, u64max, i32min, i32max, Om.sub, selI, ints_app, ints_cut, ints_upd, ints_rep, ints_splice, len_ints]
    rfl

def overL : LSpec := { n := 22, next := 1, pat := [(3, .sint .i64 (.var 2)), (2, .sslice 1 (.int 0) (.var 0) (.var 0) false)], rows := [(1, .seq ⟨5, .u8, .var 0, .var 1, false, false⟩)], pre := [(.le (.int 0) (.var 2), true), (.le (.var 2) (.var 0), true), (.le (.var 0) (.int 9223372036854775807), true)], x := 0, fin := [], frows := [], same := [], chg := [2, 3, 8, 9, 10, 11, 12, 13, 14, 15, 16, 17, 18, 19, 20, 21] }
def overL_t0 : List (Q × Bool) := [((.fit .i64 (.var 0)), true),
  ((.le (.var 0) (.var 2)), false),
  ((.le (.int 0) (.var 2)), true),
  ((.fit .i64 (.bi .add (.var 2) (.int 1))), true)]
def overL_d0 : List Duty := []
def overL_h0 : List (Nat × E) := [(1, (.tr .upd (.var 1) (.var 2) (.bi (.iop .xor .u8) (.bi .sel (.var 1) (.var 2)) (.int 90)))), (0, (.var 0)), (2, (.bi .add (.var 2) (.int 1)))]
theorem overL_h0_0 : lookE overL_h0 0 = (.var 0) := rfl
theorem overL_h0_1 : lookE overL_h0 1 = (.tr .upd (.var 1) (.var 2) (.bi (.iop .xor .u8) (.bi .sel (.var 1) (.var 2)) (.int 90))) := rfl
theorem overL_h0_2 : lookE overL_h0 2 = (.bi .add (.var 2) (.int 1)) := rfl
theorem overL_y0 : nextD overL overL_h0 [(1, 1)] (roundC Try.prog [⟨14, [4, 1, 0, 1, 1, 1], moreL⟩, ⟨14, [4, 1, 0, 1, 1, 1], moreLO⟩, ⟨13, [4, 1, 4, 0, 1, 5, 4, 1, 0, 1, 1], bitL⟩, ⟨13, [4, 1, 4, 0, 1, 5, 4, 1, 0, 1, 1], bitLO⟩, ⟨13, [4, 1, 0, 1, 1], refL⟩, ⟨13, [4, 1, 0, 1, 1], refLO⟩] [(25, tableC), (14, moreC), (14, moreCO), (13, refC), (13, refCO)] [] 3000 40 17 [4, 1, 1] (tellA overL_t0) overL) = some overL_d0 := by kernel_rfl
def overL_t1 : List (Q × Bool) := [((.fit .i64 (.var 0)), true),
  ((.le (.var 0) (.var 2)), true)]
def overL_d1 : List Duty := []
theorem overL_y1 : endD overL [(1, 1)] 1000 (roundC Try.prog [⟨14, [4, 1, 0, 1, 1, 1], moreL⟩, ⟨14, [4, 1, 0, 1, 1, 1], moreLO⟩, ⟨13, [4, 1, 4, 0, 1, 5, 4, 1, 0, 1, 1], bitL⟩, ⟨13, [4, 1, 4, 0, 1, 5, 4, 1, 0, 1, 1], bitLO⟩, ⟨13, [4, 1, 0, 1, 1], refL⟩, ⟨13, [4, 1, 0, 1, 1], refLO⟩] [(25, tableC), (14, moreC), (14, moreCO), (13, refC), (13, refCO)] [] 3000 40 17 [4, 1, 1] (tellA overL_t1) overL) = some overL_d1 := by kernel_rfl
theorem overL_holds : LHolds Try.prog (loopAt Try.prog 17 [4, 1, 1]) overL F := by
  refine loop_roundsC sound (tableCons moreL_holds (tableCons moreLO_holds (tableCons bitL_holds (tableCons bitLO_holds (tableCons refL_holds (tableCons refLO_holds (tableNil _ _))))))) (specsCons tableC_holds (specsCons moreC_holds (specsCons moreCO_holds (specsCons refC_holds (specsCons refCO_holds (specsNil _ _)))))) (oversNil _ _) (fuel := 3000) (depth := 40) (by kernel_rfl) (by kernel_rfl) (by kernel_rfl) (fun d => ((d 0).toInt - (d 2).toInt).toNat) fun d hp hR hA => ?_
  have hp := allTold'_iff.2 hp
  simp only [overL, allTold', dutiesTold, factsA, factsP, factsR, AV.facts, RW.facts, inK, and_true, Q.holds', E.i, E.s, E.n, D.nat, E.den, BO.den, UO.den, TO.den, D.toInt_int, D.toList_list, D.ints_ofInts, i64min, i64max, u8min, u8max, u16min, u16max, u32min, u32max, u64min, u64max, i32min, i32max, Om.sub, selI, ints_app, ints_cut, ints_upd, ints_rep, ints_splice, len_ints] at hp hR hA
  by_cases h : (d 0).toInt ≤ (d 2).toInt
  · refine ⟨tellA overL_t1, tellA_ok (allTold'_iff.1 ?_), .inl ⟨_, _, _, overL_y1, dutiesTold_ok ?_⟩⟩
    · simp only [overL_t1, allTold', dutiesTold, factsA, factsP, factsR, AV.facts, RW.facts, inK, and_true, Q.holds', E.i, E.s, E.n, D.nat, E.den, BO.den, UO.den, TO.den, D.toInt_int, D.toList_list, D.ints_ofInts, i64min, i64max, u8min, u8max, u16min, u16max, u32min, u32max, u64min, u64max, i32min, i32max, Om.sub, selI, ints_app, ints_cut, ints_upd, ints_rep, ints_splice, len_ints]
      omega
    · simp only [overL_d1, allTold', dutiesTold, factsA, factsP, factsR, AV.facts, RW.facts, inK, and_true, Q.holds', E.i, E.s, E.n, D.nat, E.den, BO.den, UO.den, TO.den, D.toInt_int, D.toList_list, D.ints_ofInts, i64min, i64max, u8min, u8max, u16min, u16max, u32min, u32max, u64min, u64max, i32min, i32max, Om.sub, selI, ints_app, ints_cut, ints_upd, ints_rep, ints_splice, len_ints]
  · refine ⟨tellA overL_t0, tellA_ok (allTold'_iff.1 ?_), .inr ⟨overL_h0, _, _, overL_y0, dutiesTold_ok ?_, allTold'_iff.1 ?_, ?_⟩⟩
    · simp only [overL_t0, allTold', dutiesTold, factsA, factsP, factsR, AV.facts, RW.facts, inK, and_true, Q.holds', E.i, E.s, E.n, D.nat, E.den, BO.den, UO.den, TO.den, D.toInt_int, D.toList_list, D.ints_ofInts, i64min, i64max, u8min, u8max, u16min, u16max, u32min, u32max, u64min, u64max, i32min, i32max, Om.sub, selI, ints_app, ints_cut, ints_upd, ints_rep, ints_splice, len_ints]
      omega
    · simp only [overL_d0, allTold', dutiesTold, factsA, factsP, factsR, AV.facts, RW.facts, inK, and_true, Q.holds', E.i, E.s, E.n, D.nat, E.den, BO.den, UO.den, TO.den, D.toInt_int, D.toList_list, D.ints_ofInts, i64min, i64max, u8min, u8max, u16min, u16max, u32min, u32max, u64min, u64max, i32min, i32max, Om.sub, selI, ints_app, ints_cut, ints_upd, ints_rep, ints_splice, len_ints]
    · simp only [overL, overL_h0_0, overL_h0_1, overL_h0_2, allTold', dutiesTold, factsA, factsP, factsR, AV.facts, RW.facts, inK, and_true, Q.holds', E.i, E.s, E.n, D.nat, E.den, BO.den, UO.den, TO.den, D.toInt_int, D.toList_list, D.ints_ofInts, i64min, i64max, u8min, u8max, u16min, u16max, u32min, u32max, u64min, u64max, i32min, i32max, Om.sub, selI, ints_app, ints_cut, ints_upd, ints_rep, ints_splice, len_ints]
      omega
    · simp only [overL_h0_0, overL_h0_1, overL_h0_2, allTold', dutiesTold, factsA, factsP, factsR, AV.facts, RW.facts, inK, and_true, Q.holds', E.i, E.s, E.n, D.nat, E.den, BO.den, UO.den, TO.den, D.toInt_int, D.toList_list, D.ints_ofInts, i64min, i64max, u8min, u8max, u16min, u16max, u32min, u32max, u64min, u64max, i32min, i32max, Om.sub, selI, ints_app, ints_cut, ints_upd, ints_rep, ints_splice, len_ints]
      omega

def overV : CSpec := overC 5 .u8
def overV_t0 : List (Q × Bool) := [((.fit .i64 (.var 0)), true),
  ((.le (.int 0) (.var 0)), true),
  ((.le (.var 0) (.int 9223372036854775807)), true)]
def overV_d0 : List Duty := []
theorem overV_y0 : endC overV [] 1000 (callC Try.prog (tellA overV_t0) [⟨14, [4, 1, 0, 1, 1, 1], moreL⟩, ⟨14, [4, 1, 0, 1, 1, 1], moreLO⟩, ⟨13, [4, 1, 4, 0, 1, 5, 4, 1, 0, 1, 1], bitL⟩, ⟨13, [4, 1, 4, 0, 1, 5, 4, 1, 0, 1, 1], bitLO⟩, ⟨13, [4, 1, 0, 1, 1], refL⟩, ⟨13, [4, 1, 0, 1, 1], refLO⟩, ⟨17, [4, 1, 1], overL⟩] [(25, tableC), (14, moreC), (14, moreCO), (13, refC), (13, refCO)] [] 3000 40 17 overV) = some overV_d0 := by kernel_rfl
theorem overV_holds : CHolds Try.prog 17 (overC 5 .u8) F := by
  refine cholds_of sound (tableCons moreL_holds (tableCons moreLO_holds (tableCons bitL_holds (tableCons bitLO_holds (tableCons refL_holds (tableCons refLO_holds (tableCons overL_holds (tableNil _ _)))))))) (specsCons tableC_holds (specsCons moreC_holds (specsCons moreCO_holds (specsCons refC_holds (specsCons refCO_holds (specsNil _ _)))))) (oversNil _ _) (fuel := 3000) (depth := 40) (by kernel_rfl) fun d hp hR hA => ?_
  have hp := allTold'_iff.2 hp
  simp only [overC, allTold', dutiesTold, factsA, factsP, factsR, AV.facts, RW.facts, inK, and_true, Q.holds', E.i, E.s, E.n, D.nat, E.den, BO.den, UO.den, TO.den, D.toInt_int, D.toList_list, D.ints_ofInts, i64min, i64max, u8min, u8max, u16min, u16max, u32min, u32max, u64min, u64max, i32min, i32max, Om.sub, selI, ints_app, ints_cut, ints_upd, ints_rep, ints_splice, len_ints] at hp hR hA
  refine ⟨tellA overV_t0, _, _, _, tellA_ok (allTold'_iff.1 ?_), overV_y0, dutiesTold_ok ?_⟩
  · simp only [overV_t0, allTold', dutiesTold, factsA, factsP, factsR, AV.facts, RW.facts, inK, and_true, Q.holds', E.i, E.s, E.n, D.nat, E.den, BO.den, UO.den, TO.den, D.toInt_int, D.toList_list, D.ints_ofInts, i64min, i64max, u8min, u8max, u16min, u16max, u32min, u32max, u64min, u64max, i32min, i32max, Om.sub, selI, ints_app, ints_cut, ints_upd, ints_rep, ints_splice, len_ints]
    omega
  · simp only [overV_d0, allTold', dutiesTold, factsA, factsP, factsR, AV.facts, RW.facts, inK, and_true, Q.holds', E.i, E.s, E.n, D.nat, E.den, BO.den, UO.den, TO.den, D.toInt_int, D.toList_list, D.ints_ofInts, i64min, i64max, u8min, u8max, u16min, u16max, u32min, u32max, u64min, u64max, i32min, i32max, Om.sub, selI, ints_app, ints_cut, ints_upd, ints_rep, ints_splice, len_ints]

def lentC : CSpec := { args := [.sslice 3 (.var 1) (.var 2) (.var 3) false], next := 2, rows := [(3, .eseq ⟨.u8, .var 4, .var 5⟩)], pre := [(.le (.bi .add (.var 1) (.var 2)) (.var 4), true), (.le (.var 2) (.int 1000000), true)], res := .sslice 5 (.int 0) (.var 2) (.bi .add (.var 2) (.int 3)) false, frows := [(5, .seq ⟨5, .u8, .bi .add (.var 2) (.int 3), .fn 6 (argsE [.var 5, .var 1, .bi .add (.var 1) (.var 2)]), false, false⟩)], same := [] }
def lentC_t0 : List (Q × Bool) := [((.fit .i64 (.var 2)), true),
  ((.fit .i64 (.bi .add (.var 2) (.int 3))), true),
  ((.le (.int 0) (.bi .add (.var 2) (.int 3))), true),
  ((.le (.bi .add (.var 2) (.int 3)) (.int 281474976710656)), true),
  ((.le (.bi .add (.var 2) (.int 3)) (.int 9223372036854775807)), true),
  ((.le (.bi .add (.var 1) (.var 2)) (.var 4)), true),
  ((.le (.var 2) (.bi .add (.var 2) (.int 3))), true),
  ((.le (.bi .add (.var 2) (.int 3)) (.var 2)), false),
  ((.fit .i64 (.bi .add (.bi (.iop .rem .i64) (.var 2) (.int 90)) (.int 160))), true),
  ((.le (.int 0) (.var 2)), true),
  ((.fit .i64 (.bi .add (.var 2) (.int 1))), true),
  ((.le (.bi .add (.var 2) (.int 3)) (.bi .add (.var 2) (.int 1))), false),
  ((.fit .i64 (.bi .add (.bi (.iop .rem .i64) (.bi .add (.var 2) (.int 1)) (.int 90)) (.int 160))), true),
  ((.le (.int 0) (.bi .add (.var 2) (.int 1))), true),
  ((.fit .i64 (.bi .add (.var 2) (.int 2))), true),
  ((.le (.bi .add (.var 2) (.int 3)) (.bi .add (.var 2) (.int 2))), false),
  ((.fit .i64 (.bi .add (.bi (.iop .rem .i64) (.bi .add (.var 2) (.int 2)) (.int 90)) (.int 160))), true),
  ((.le (.int 0) (.bi .add (.var 2) (.int 2))), true)]
def lentC_d0 : List Duty := [(false, (.tr .upd (.tr .upd (.tr .upd (.tr .splice (.bi .rep (.bi .add (.var 2) (.int 3)) (.int 0)) (.int 0) (.tr .cut (.var 5) (.var 1) (.bi .add (.var 1) (.var 2)))) (.var 2) (.un (.wrap .u8) (.bi .add (.bi (.iop .rem .i64) (.var 2) (.int 90)) (.int 160)))) (.bi .add (.var 2) (.int 1)) (.un (.wrap .u8) (.bi .add (.bi (.iop .rem .i64) (.bi .add (.var 2) (.int 1)) (.int 90)) (.int 160)))) (.bi .add (.var 2) (.int 2)) (.un (.wrap .u8) (.bi .add (.bi (.iop .rem .i64) (.bi .add (.var 2) (.int 2)) (.int 90)) (.int 160)))), (.fn 6 (.bi .pair (.var 5) (.bi .pair (.var 1) (.bi .pair (.bi .add (.var 1) (.var 2)) (.int 0))))))]
theorem lentC_y0 : endC lentC [(5, 5)] 1000 (callC Try.prog (tellA lentC_t0) [⟨14, [4, 1, 0, 1, 1, 1], moreL⟩, ⟨14, [4, 1, 0, 1, 1, 1], moreLO⟩, ⟨13, [4, 1, 4, 0, 1, 5, 4, 1, 0, 1, 1], bitL⟩, ⟨13, [4, 1, 4, 0, 1, 5, 4, 1, 0, 1, 1], bitLO⟩, ⟨13, [4, 1, 0, 1, 1], refL⟩, ⟨13, [4, 1, 0, 1, 1], refLO⟩, ⟨17, [4, 1, 1], overL⟩] [(25, tableC), (14, moreC), (14, moreCO), (13, refC), (13, refCO)] [(17, 5, .u8)] 3000 40 10 lentC) = some lentC_d0 := by kernel_rfl
theorem lentC_holds : CHolds Try.prog 10 lentC F := by
  refine cholds_of sound (tableCons moreL_holds (tableCons moreLO_holds (tableCons bitL_holds (tableCons bitLO_holds (tableCons refL_holds (tableCons refLO_holds (tableCons overL_holds (tableNil _ _)))))))) (specsCons tableC_holds (specsCons moreC_holds (specsCons moreCO_holds (specsCons refC_holds (specsCons refCO_holds (specsNil _ _)))))) (oversCons overV_holds (oversNil _ _)) (fuel := 3000) (depth := 40) (by kernel_rfl) fun d hp hR hA => ?_
  have hp := allTold'_iff.2 hp
  simp only [lentC, allTold', dutiesTold, factsA, factsP, factsR, AV.facts, RW.facts, inK, and_true, Q.holds', E.i, E.s, E.n, D.nat, E.den, BO.den, UO.den, TO.den, D.toInt_int, D.toList_list, D.ints_ofInts, i64min, i64max, u8min, u8max, u16min, u16max, u32min, u32max, u64min, u64max, i32min, i32max, Om.sub, selI, ints_app, ints_cut, ints_upd, ints_rep, ints_splice, len_ints] at hp hR hA
  refine ⟨tellA lentC_t0, _, _, _, tellA_ok (allTold'_iff.1 ?_), lentC_y0, dutiesTold_ok ?_⟩
  · simp only [lentC_t0, allTold', dutiesTold, factsA, factsP, factsR, AV.facts, RW.facts, inK, and_true, Q.holds', E.i, E.s, E.n, D.nat, E.den, BO.den, UO.den, TO.den, D.toInt_int, D.toList_list, D.ints_ofInts, i64min, i64max, u8min, u8max, u16min, u16max, u32min, u32max, u64min, u64max, i32min, i32max, Om.sub, selI, ints_app, ints_cut, ints_upd, ints_rep, ints_splice, len_ints]
    rw [rem_emod _ (by omega), rem_emod _ (by omega), rem_emod _ (by omega)]
    omega
  · simp only [lentC_d0, F6, ints_list, List.map_set, List.map_append, List.map_drop, List.map_take, List.map_replicate, List.length_drop, map_ints, allTold', dutiesTold, factsA, factsP, factsR, AV.facts, RW.facts, inK, and_true, Q.holds', E.i, E.s, E.n, D.nat, E.den, BO.den, UO.den, TO.den, D.toInt_int, D.toList_list, D.ints_ofInts, i64min, i64max, u8min, u8max, u16min, u16max, u32min, u32max, u64min, u64max, i32min, i32max, Om.sub, selI, ints_app, ints_cut, ints_upd, ints_rep, ints_splice, len_ints]
    rw [rem_emod _ (by omega), rem_emod _ (by omega), rem_emod _ (by omega)]
    obtain ⟨n, hn⟩ := Int.eq_ofNat_of_zero_le hA.1
    rw [hn] at hp hA ⊢
    have hl := prt_length (x := (d 5).ints) (o := (d 1).toInt) (t := (d 1).toInt + n) (by omega) (by omega) (by omega)
    have e1 : (List.drop (d 1).toInt.toNat (List.take ((d 1).toInt + n).toNat (d 5).ints)) = prt (d 5).ints (d 1).toInt ((d 1).toInt + n) := rfl
    have e2 : (List.take ((d 1).toInt + n).toNat (d 5).toList).length - (d 1).toInt.toNat = (prt (d 5).ints (d 1).toInt ((d 1).toInt + n)).length := by
      rw [← e1]; simp [D.ints]
    have h3 := lent_set (List.replicate (n + 3) 0) (prt (d 5).ints (d 1).toInt ((d 1).toInt + n)) n (by omega)
    rw [show ((n : Int) + 3).toNat = n + 3 by omega, show ((n : Int) + 2).toNat = n + 2 by omega, show ((n : Int) + 1).toNat = n + 1 by omega, show ((n : Int)).toNat = n by omega, show Int.toNat 0 = 0 from rfl, e1, e2, h3]
    unfold lentI markI
    rw [wrap_fit (by simp only [u8min, u8max]; omega), wrap_fit (by simp only [u8min, u8max]; omega), wrap_fit (by simp only [u8min, u8max]; omega)]
    rw [show ((prt (d 5).ints (d 1).toInt ((d 1).toInt + n)).length : Int) = n by omega]
    simp only [Int.add_comm]

def awakeC : CSpec := { args := [], next := 0, rows := [], pre := [], res := .bool true, frows := [], same := [] }
def awakeC_t0 : List (Q × Bool) := []
def awakeC_d0 : List Duty := []
theorem awakeC_y0 : endC awakeC [] 1000 (callC Try.prog (tellA awakeC_t0) [] [(25, tableC)] [] 3000 40 9 awakeC) = some awakeC_d0 := by kernel_rfl
theorem awakeC_holds : CHolds Try.prog 9 awakeC F := by
  refine cholds_of sound (tableNil _ _) (specsCons tableC_holds (specsNil _ _)) (oversNil _ _) (fuel := 3000) (depth := 40) (by kernel_rfl) fun d hp hR hA => ?_
  refine ⟨tellA awakeC_t0, _, _, _, tellA_ok (allTold'_iff.1 ?_), awakeC_y0, dutiesTold_ok ?_⟩
  · trivial
  · trivial

def knownC : CSpec := { args := [], next := 0, rows := [], pre := [], res := .bool true, frows := [], same := [] }
def knownC_t0 : List (Q × Bool) := []
def knownC_d0 : List Duty := []
theorem knownC_y0 : endC knownC [] 1000 (callC Try.prog (tellA knownC_t0) [] [(25, tableC), (9, awakeC)] [] 3000 40 5 knownC) = some knownC_d0 := by kernel_rfl
theorem knownC_holds : CHolds Try.prog 5 knownC F := by
  refine cholds_of sound (tableNil _ _) (specsCons tableC_holds (specsCons awakeC_holds (specsNil _ _))) (oversNil _ _) (fuel := 3000) (depth := 40) (by kernel_rfl) fun d hp hR hA => ?_
  refine ⟨tellA knownC_t0, _, _, _, tellA_ok (allTold'_iff.1 ?_), knownC_y0, dutiesTold_ok ?_⟩
  · trivial
  · trivial

def pick1C : CSpec := { args := [.sint .i64 (.var 0), .int .i64 1], next := 0, rows := [], pre := [], res := .int .i64 0, frows := [], same := [] }
def pick1C_t0 : List (Q × Bool) := [((.le (.int 0) (.bi (.iop .rem .i64) (.var 0) (.int 1))), true)]
def pick1C_d0 : List Duty := [(true, (.bi (.iop .rem .i64) (.var 0) (.int 1)), (.int 0))]
theorem pick1C_y0 : endC pick1C [] 1000 (callC Try.prog (tellA pick1C_t0) [] [] [] 3000 40 21 pick1C) = some pick1C_d0 := by kernel_rfl
theorem pick1C_holds : CHolds Try.prog 21 pick1C F := by
  refine cholds_of sound (tableNil _ _) (specsNil _ _) (oversNil _ _) (fuel := 3000) (depth := 40) (by kernel_rfl) fun d hp hR hA => ?_
  have hp := allTold'_iff.2 hp
  simp only [pick1C, allTold', dutiesTold, factsA, factsP, factsR, AV.facts, RW.facts, inK, and_true, Q.holds', E.i, E.s, E.n, D.nat, E.den, BO.den, UO.den, TO.den, D.toInt_int, D.toList_list, D.ints_ofInts, i64min, i64max, u8min, u8max, u16min, u16max, u32min, u32max, u64min, u64max, i32min, i32max, Om.sub, selI, ints_app, ints_cut, ints_upd, ints_rep, ints_splice, len_ints] at hp hR hA
  refine ⟨tellA pick1C_t0, _, _, _, tellA_ok (allTold'_iff.1 ?_), pick1C_y0, dutiesTold_ok ?_⟩
  · simp only [pick1C_t0, allTold', dutiesTold, factsA, factsP, factsR, AV.facts, RW.facts, inK, and_true, Q.holds', E.i, E.s, E.n, D.nat, E.den, BO.den, UO.den, TO.den, D.toInt_int, D.toList_list, D.ints_ofInts, i64min, i64max, u8min, u8max, u16min, u16max, u32min, u32max, u64min, u64max, i32min, i32max, Om.sub, selI, ints_app, ints_cut, ints_upd, ints_rep, ints_splice, len_ints]
    have e1 : iopI .rem .i64 (d 0).toInt 1 = 0 := Int.tmod_one _
    omega
  · simp only [pick1C_d0, allTold', dutiesTold, factsA, factsP, factsR, AV.facts, RW.facts, inK, and_true, Q.holds', E.i, E.s, E.n, D.nat, E.den, BO.den, UO.den, TO.den, D.toInt_int, D.toList_list, D.ints_ofInts, i64min, i64max, u8min, u8max, u16min, u16max, u32min, u32max, u64min, u64max, i32min, i32max, Om.sub, selI, ints_app, ints_cut, ints_upd, ints_rep, ints_splice, len_ints]
    have e1 : iopI .rem .i64 (d 0).toInt 1 = 0 := Int.tmod_one _
    omega

def pickC : CSpec := { args := [.sint .i64 (.var 0), .sint .i64 (.var 1)], next := 0, rows := [], pre := [(.le (.int 1) (.var 1), true)], res := .sint .i64 (.fn 7 (argsE [.var 0, .var 1])), frows := [], same := [] }
def pickC_t0 : List (Q × Bool) := [((.le (.int 1) (.var 1)), true),
  ((.eq (.var 1) (.int 0)), false),
  ((.le (.int 0) (.bi (.iop .rem .i64) (.var 0) (.var 1))), true)]
def pickC_d0 : List Duty := [(true, (.bi (.iop .rem .i64) (.var 0) (.var 1)), (.fn 7 (.bi .pair (.var 0) (.bi .pair (.var 1) (.int 0)))))]
theorem pickC_y0 : endC pickC [] 1000 (callC Try.prog (tellA pickC_t0) [] [] [] 3000 40 21 pickC) = some pickC_d0 := by kernel_rfl
def pickC_t1 : List (Q × Bool) := [((.le (.int 1) (.var 1)), true),
  ((.eq (.var 1) (.int 0)), false),
  ((.le (.int 0) (.bi (.iop .rem .i64) (.var 0) (.var 1))), false),
  ((.fit .i64 (.bi .add (.bi (.iop .rem .i64) (.var 0) (.var 1)) (.var 1))), true)]
def pickC_d1 : List Duty := [(true, (.bi .add (.bi (.iop .rem .i64) (.var 0) (.var 1)) (.var 1)), (.fn 7 (.bi .pair (.var 0) (.bi .pair (.var 1) (.int 0)))))]
theorem pickC_y1 : endC pickC [] 1000 (callC Try.prog (tellA pickC_t1) [] [] [] 3000 40 21 pickC) = some pickC_d1 := by kernel_rfl
theorem pickC_holds : CHolds Try.prog 21 pickC F := by
  refine cholds_of sound (tableNil _ _) (specsNil _ _) (oversNil _ _) (fuel := 3000) (depth := 40) (by kernel_rfl) fun d hp hR hA => ?_
  have hp := allTold'_iff.2 hp
  simp only [pickC, allTold', dutiesTold, factsA, factsP, factsR, AV.facts, RW.facts, inK, and_true, Q.holds', E.i, E.s, E.n, D.nat, E.den, BO.den, UO.den, TO.den, D.toInt_int, D.toList_list, D.ints_ofInts, i64min, i64max, u8min, u8max, u16min, u16max, u32min, u32max, u64min, u64max, i32min, i32max, Om.sub, selI, ints_app, ints_cut, ints_upd, ints_rep, ints_splice, len_ints] at hp hR hA
  have e1 := emod_in (x := (d 0).toInt) hp
  have e2 := tmod_or .i64 (x := (d 0).toInt) hp
  by_cases h : 0 ≤ iopI .rem .i64 (d 0).toInt (d 1).toInt
  · refine ⟨tellA pickC_t0, _, _, _, tellA_ok (allTold'_iff.1 ?_), pickC_y0, dutiesTold_ok ?_⟩
    · simp only [pickC_t0, allTold', dutiesTold, factsA, factsP, factsR, AV.facts, RW.facts, inK, and_true, Q.holds', E.i, E.s, E.n, D.nat, E.den, BO.den, UO.den, TO.den, D.toInt_int, D.toList_list, D.ints_ofInts, i64min, i64max, u8min, u8max, u16min, u16max, u32min, u32max, u64min, u64max, i32min, i32max, Om.sub, selI, ints_app, ints_cut, ints_upd, ints_rep, ints_splice, len_ints]
      omega
    · simp only [pickC_d0, F7, allTold', dutiesTold, factsA, factsP, factsR, AV.facts, RW.facts, inK, and_true, Q.holds', E.i, E.s, E.n, D.nat, E.den, BO.den, UO.den, TO.den, D.toInt_int, D.toList_list, D.ints_ofInts, i64min, i64max, u8min, u8max, u16min, u16max, u32min, u32max, u64min, u64max, i32min, i32max, Om.sub, selI, ints_app, ints_cut, ints_upd, ints_rep, ints_splice, len_ints]
      omega
  · refine ⟨tellA pickC_t1, _, _, _, tellA_ok (allTold'_iff.1 ?_), pickC_y1, dutiesTold_ok ?_⟩
    · simp only [pickC_t1, allTold', dutiesTold, factsA, factsP, factsR, AV.facts, RW.facts, inK, and_true, Q.holds', E.i, E.s, E.n, D.nat, E.den, BO.den, UO.den, TO.den, D.toInt_int, D.toList_list, D.ints_ofInts, i64min, i64max, u8min, u8max, u16min, u16max, u32min, u32max, u64min, u64max, i32min, i32max, Om.sub, selI, ints_app, ints_cut, ints_upd, ints_rep, ints_splice, len_ints]
      omega
    · simp only [pickC_d1, F7, allTold', dutiesTold, factsA, factsP, factsR, AV.facts, RW.facts, inK, and_true, Q.holds', E.i, E.s, E.n, D.nat, E.den, BO.den, UO.den, TO.den, D.toInt_int, D.toList_list, D.ints_ofInts, i64min, i64max, u8min, u8max, u16min, u16max, u32min, u32max, u64min, u64max, i32min, i32max, Om.sub, selI, ints_app, ints_cut, ints_upd, ints_rep, ints_splice, len_ints]
      omega

def putC : CSpec := { args := [.sslice 3 (.var 1) (.var 2) (.var 3) false], next := 2, rows := [(3, .eseq ⟨.u8, .var 4, .var 5⟩)], pre := [(.le (.bi .add (.var 1) (.var 2)) (.var 4), true), (.le (.var 2) (.int 1000000), true)], res := .sslice 5 (.int 0) (.bi .add (.var 2) (.int 4)) (.bi .add (.var 2) (.int 4)) true, frows := [(5, .seq ⟨5, .u8, .bi .add (.var 2) (.int 4), .fn 8 (argsE [.var 5, .var 1, .bi .add (.var 1) (.var 2)]), true, false⟩)], same := [] }
def putC_t0 : List (Q × Bool) := [((.le (.bi .add (.var 1) (.var 2)) (.var 4)), true),
  ((.le (.var 2) (.int 1000000)), true),
  ((.fit .i64 (.var 2)), true),
  ((.le (.int 0) (.var 2)), true),
  ((.fit .i64 (.bi .add (.var 2) (.int 4))), true),
  ((.le (.int 0) (.bi .add (.var 2) (.int 4))), true),
  ((.le (.bi .add (.var 2) (.int 4)) (.int 0)), false),
  ((.le (.bi .mul (.bi .add (.var 2) (.int 4)) (.int 2)) (.int 281474976710656)), true),
  ((.le (.bi .mul (.var 2) (.int 2)) (.int 281474976710656)), true)]
def putC_d0 : List Duty := [(false, (.bi .app (.bi .app (.tr .cut (.bi .rep (.bi .add (.var 2) (.int 4)) (.int 0)) (.int 0) (.int 0)) (.tr .cut (.var 5) (.var 1) (.bi .add (.var 1) (.var 2)))) (.bi .app (.un .one (.un (.wrap .u8) (.fn 2 (.bi .pair (.int 0) (.bi .pair (.var 5) (.bi .pair (.var 1) (.bi .pair (.bi .add (.var 1) (.var 2)) (.int 0)))))))) (.bi .app (.un .one (.un (.wrap .u8) (.bi (.iop .shr .u32) (.fn 2 (.bi .pair (.int 0) (.bi .pair (.var 5) (.bi .pair (.var 1) (.bi .pair (.bi .add (.var 1) (.var 2)) (.int 0)))))) (.int 8)))) (.bi .app (.un .one (.un (.wrap .u8) (.bi (.iop .shr .u32) (.fn 2 (.bi .pair (.int 0) (.bi .pair (.var 5) (.bi .pair (.var 1) (.bi .pair (.bi .add (.var 1) (.var 2)) (.int 0)))))) (.int 16)))) (.bi .app (.un .one (.un (.wrap .u8) (.bi (.iop .shr .u32) (.fn 2 (.bi .pair (.int 0) (.bi .pair (.var 5) (.bi .pair (.var 1) (.bi .pair (.bi .add (.var 1) (.var 2)) (.int 0)))))) (.int 24)))) (.lits [])))))), (.fn 8 (.bi .pair (.var 5) (.bi .pair (.var 1) (.bi .pair (.bi .add (.var 1) (.var 2)) (.int 0))))))]
theorem putC_y0 : endC putC [(5, 15)] 1000 (callC Try.prog (tellA putC_t0) [⟨14, [4, 1, 0, 1, 1, 1], moreL⟩, ⟨14, [4, 1, 0, 1, 1, 1], moreLO⟩, ⟨13, [4, 1, 4, 0, 1, 5, 4, 1, 0, 1, 1], bitL⟩, ⟨13, [4, 1, 4, 0, 1, 5, 4, 1, 0, 1, 1], bitLO⟩, ⟨13, [4, 1, 0, 1, 1], refL⟩, ⟨13, [4, 1, 0, 1, 1], refLO⟩, ⟨17, [4, 1, 1], overL⟩] [(25, tableC), (14, moreC), (14, moreCO), (13, refC), (13, refCO), (10, lentC), (9, awakeC), (5, knownC), (21, pick1C), (21, pickC)] [(17, 5, .u8)] 3000 40 11 putC) = some putC_d0 := by kernel_rfl
theorem putC_holds : CHolds Try.prog 11 putC F := by
  refine cholds_of sound (tableCons moreL_holds (tableCons moreLO_holds (tableCons bitL_holds (tableCons bitLO_holds (tableCons refL_holds (tableCons refLO_holds (tableCons overL_holds (tableNil _ _)))))))) (specsCons tableC_holds (specsCons moreC_holds (specsCons moreCO_holds (specsCons refC_holds (specsCons refCO_holds (specsCons lentC_holds (specsCons awakeC_holds (specsCons knownC_holds (specsCons pick1C_holds (specsCons pickC_holds (specsNil _ _))))))))))) (oversCons overV_holds (oversNil _ _)) (fuel := 3000) (depth := 40) (by kernel_rfl) fun d hp hR hA => ?_
  have hp := allTold'_iff.2 hp
  simp only [putC, allTold', dutiesTold, factsA, factsP, factsR, AV.facts, RW.facts, inK, and_true, Q.holds', E.i, E.s, E.n, D.nat, E.den, BO.den, UO.den, TO.den, D.toInt_int, D.toList_list, D.ints_ofInts, i64min, i64max, u8min, u8max, u16min, u16max, u32min, u32max, u64min, u64max, i32min, i32max, Om.sub, selI, ints_app, ints_cut, ints_upd, ints_rep, ints_splice, len_ints] at hp hR hA
  refine ⟨tellA putC_t0, _, _, _, tellA_ok (allTold'_iff.1 ?_), putC_y0, dutiesTold_ok ?_⟩
  · simp only [putC_t0, allTold', dutiesTold, factsA, factsP, factsR, AV.facts, RW.facts, inK, and_true, Q.holds', E.i, E.s, E.n, D.nat, E.den, BO.den, UO.den, TO.den, D.toInt_int, D.toList_list, D.ints_ofInts, i64min, i64max, u8min, u8max, u16min, u16max, u32min, u32max, u64min, u64max, i32min, i32max, Om.sub, selI, ints_app, ints_cut, ints_upd, ints_rep, ints_splice, len_ints]
    omega
  · simp only [putC_d0, F8, F2, ints_list, List.map_append, List.map_drop, List.map_take, List.map_replicate, List.map_cons, List.map_nil, map_ints, allTold', dutiesTold, factsA, factsP, factsR, AV.facts, RW.facts, inK, and_true, Q.holds', E.i, E.s, E.n, D.nat, E.den, BO.den, UO.den, TO.den, D.toInt_int, D.toList_list, D.ints_ofInts, i64min, i64max, u8min, u8max, u16min, u16max, u32min, u32max, u64min, u64max, i32min, i32max, Om.sub, selI, ints_app, ints_cut, ints_upd, ints_rep, ints_splice, len_ints]
    simp [putI, le4, sumI, prt]

def rputC : CSpec := { args := [.sslice 3 (.var 1) (.var 2) (.var 3) false], next := 2, rows := [(3, .eseq ⟨.u8, .var 4, .var 5⟩)], pre := [(.le (.bi .add (.var 1) (.var 2)) (.var 4), true), (.le (.var 2) (.int 1000000), true)], res := .sslice 5 (.int 0) (.bi .add (.var 2) (.int 4)) (.bi .add (.var 2) (.int 4)) true, frows := [(5, .seq ⟨5, .u8, .bi .add (.var 2) (.int 4), .fn 9 (argsE [.var 5, .var 1, .bi .add (.var 1) (.var 2)]), true, false⟩)], same := [] }
def rputC_t0 : List (Q × Bool) := [((.le (.bi .add (.var 1) (.var 2)) (.var 4)), true),
  ((.le (.var 2) (.int 1000000)), true),
  ((.le (.bi .mul (.var 2) (.int 2)) (.int 281474976710656)), true),
  ((.le (.bi .mul (.bi .add (.var 2) (.int 4)) (.int 2)) (.int 281474976710656)), true)]
def rputC_d0 : List Duty := [(false, (.bi .app (.tr .cut (.var 5) (.var 1) (.bi .add (.var 1) (.var 2))) (.bi .app (.un .one (.un (.wrap .u8) (.fn 5 (.bi .pair (.var 5) (.bi .pair (.var 1) (.bi .pair (.bi .add (.var 1) (.var 2)) (.int 0))))))) (.bi .app (.un .one (.un (.wrap .u8) (.bi (.iop .shr .u32) (.fn 5 (.bi .pair (.var 5) (.bi .pair (.var 1) (.bi .pair (.bi .add (.var 1) (.var 2)) (.int 0))))) (.int 8)))) (.bi .app (.un .one (.un (.wrap .u8) (.bi (.iop .shr .u32) (.fn 5 (.bi .pair (.var 5) (.bi .pair (.var 1) (.bi .pair (.bi .add (.var 1) (.var 2)) (.int 0))))) (.int 16)))) (.bi .app (.un .one (.un (.wrap .u8) (.bi (.iop .shr .u32) (.fn 5 (.bi .pair (.var 5) (.bi .pair (.var 1) (.bi .pair (.bi .add (.var 1) (.var 2)) (.int 0))))) (.int 24)))) (.lits [])))))), (.fn 9 (.bi .pair (.var 5) (.bi .pair (.var 1) (.bi .pair (.bi .add (.var 1) (.var 2)) (.int 0))))))]
theorem rputC_y0 : endC rputC [(5, 11)] 1000 (callC Try.prog (tellA rputC_t0) [⟨14, [4, 1, 0, 1, 1, 1], moreL⟩, ⟨14, [4, 1, 0, 1, 1, 1], moreLO⟩, ⟨13, [4, 1, 4, 0, 1, 5, 4, 1, 0, 1, 1], bitL⟩, ⟨13, [4, 1, 4, 0, 1, 5, 4, 1, 0, 1, 1], bitLO⟩, ⟨13, [4, 1, 0, 1, 1], refL⟩, ⟨13, [4, 1, 0, 1, 1], refLO⟩, ⟨17, [4, 1, 1], overL⟩] [(25, tableC), (14, moreC), (14, moreCO), (13, refC), (13, refCO), (10, lentC), (9, awakeC), (5, knownC), (21, pick1C), (21, pickC), (11, putC)] [(17, 5, .u8)] 3000 40 16 rputC) = some rputC_d0 := by kernel_rfl
theorem rputC_holds : CHolds Try.prog 16 rputC F := by
  refine cholds_of sound (tableCons moreL_holds (tableCons moreLO_holds (tableCons bitL_holds (tableCons bitLO_holds (tableCons refL_holds (tableCons refLO_holds (tableCons overL_holds (tableNil _ _)))))))) (specsCons tableC_holds (specsCons moreC_holds (specsCons moreCO_holds (specsCons refC_holds (specsCons refCO_holds (specsCons lentC_holds (specsCons awakeC_holds (specsCons knownC_holds (specsCons pick1C_holds (specsCons pickC_holds (specsCons putC_holds (specsNil _ _)))))))))))) (oversCons overV_holds (oversNil _ _)) (fuel := 3000) (depth := 40) (by kernel_rfl) fun d hp hR hA => ?_
  have hp := allTold'_iff.2 hp
  simp only [rputC, allTold', dutiesTold, factsA, factsP, factsR, AV.facts, RW.facts, inK, and_true, Q.holds', E.i, E.s, E.n, D.nat, E.den, BO.den, UO.den, TO.den, D.toInt_int, D.toList_list, D.ints_ofInts, i64min, i64max, u8min, u8max, u16min, u16max, u32min, u32max, u64min, u64max, i32min, i32max, Om.sub, selI, ints_app, ints_cut, ints_upd, ints_rep, ints_splice, len_ints] at hp hR hA
  refine ⟨tellA rputC_t0, _, _, _, tellA_ok (allTold'_iff.1 ?_), rputC_y0, dutiesTold_ok ?_⟩
  · simp only [rputC_t0, allTold', dutiesTold, factsA, factsP, factsR, AV.facts, RW.facts, inK, and_true, Q.holds', E.i, E.s, E.n, D.nat, E.den, BO.den, UO.den, TO.den, D.toInt_int, D.toList_list, D.ints_ofInts, i64min, i64max, u8min, u8max, u16min, u16max, u32min, u32max, u64min, u64max, i32min, i32max, Om.sub, selI, ints_app, ints_cut, ints_upd, ints_rep, ints_splice, len_ints]
    omega
  · simp only [rputC_d0, F9, F5, ints_list, List.map_append, List.map_drop, List.map_take, List.map_replicate, List.map_cons, List.map_nil, map_ints, allTold', dutiesTold, factsA, factsP, factsR, AV.facts, RW.facts, inK, and_true, Q.holds', E.i, E.s, E.n, D.nat, E.den, BO.den, UO.den, TO.den, D.toInt_int, D.toList_list, D.ints_ofInts, i64min, i64max, u8min, u8max, u16min, u16max, u32min, u32max, u64min, u64max, i32min, i32max, Om.sub, selI, ints_app, ints_cut, ints_upd, ints_rep, ints_splice, len_ints]
    simp [rputI, le4, rsumI, prt]

def keptC : CSpec := { args := [.sslice 5 (.int 0) (.var 2) (.bi .add (.var 2) (.int 3)) false, .sslice 3 (.var 1) (.var 2) (.var 3) false], next := 3, rows := [(3, .eseq ⟨.u8, .var 4, .var 5⟩), (5, .eseq ⟨.u8, .bi .add (.var 2) (.int 3), .fn 6 (argsE [.var 5, .var 1, .bi .add (.var 1) (.var 2)])⟩)], pre := [(.le (.bi .add (.var 1) (.var 2)) (.var 4), true), (.le (.var 2) (.int 1000000), true)], res := .bool true, frows := [], same := [] }
def keptC_t0 : List (Q × Bool) := [((.fit .i64 (.var 2)), true),
  ((.fit .i64 (.bi .add (.var 2) (.int 3))), true),
  ((.le (.int 0) (.bi .add (.var 2) (.int 3))), true),
  ((.le (.bi .add (.var 1) (.var 2)) (.var 4)), true),
  ((.le (.var 2) (.int 1000000)), true)]
def keptC_d0 : List Duty := []
theorem keptC_y0 : endC keptC [] 1000 (callC Try.prog (tellA keptC_t0) [⟨14, [4, 1, 0, 1, 1, 1], moreL⟩, ⟨14, [4, 1, 0, 1, 1, 1], moreLO⟩, ⟨13, [4, 1, 4, 0, 1, 5, 4, 1, 0, 1, 1], bitL⟩, ⟨13, [4, 1, 4, 0, 1, 5, 4, 1, 0, 1, 1], bitLO⟩, ⟨13, [4, 1, 0, 1, 1], refL⟩, ⟨13, [4, 1, 0, 1, 1], refLO⟩, ⟨17, [4, 1, 1], overL⟩] [(25, tableC), (14, moreC), (14, moreCO), (13, refC), (13, refCO), (10, lentC), (9, awakeC), (5, knownC), (21, pick1C), (21, pickC), (11, putC), (16, rputC)] [(17, 5, .u8)] 3000 40 18 keptC) = some keptC_d0 := by kernel_rfl
theorem keptC_holds : CHolds Try.prog 18 keptC F := by
  refine cholds_of sound (tableCons moreL_holds (tableCons moreLO_holds (tableCons bitL_holds (tableCons bitLO_holds (tableCons refL_holds (tableCons refLO_holds (tableCons overL_holds (tableNil _ _)))))))) (specsCons tableC_holds (specsCons moreC_holds (specsCons moreCO_holds (specsCons refC_holds (specsCons refCO_holds (specsCons lentC_holds (specsCons awakeC_holds (specsCons knownC_holds (specsCons pick1C_holds (specsCons pickC_holds (specsCons putC_holds (specsCons rputC_holds (specsNil _ _))))))))))))) (oversCons overV_holds (oversNil _ _)) (fuel := 3000) (depth := 40) (by kernel_rfl) fun d hp hR hA => ?_
  have hp := allTold'_iff.2 hp
  simp only [keptC, allTold', dutiesTold, factsA, factsP, factsR, AV.facts, RW.facts, inK, and_true, Q.holds', E.i, E.s, E.n, D.nat, E.den, BO.den, UO.den, TO.den, D.toInt_int, D.toList_list, D.ints_ofInts, i64min, i64max, u8min, u8max, u16min, u16max, u32min, u32max, u64min, u64max, i32min, i32max, Om.sub, selI, ints_app, ints_cut, ints_upd, ints_rep, ints_splice, len_ints] at hp hR hA
  refine ⟨tellA keptC_t0, _, _, _, tellA_ok (allTold'_iff.1 ?_), keptC_y0, dutiesTold_ok ?_⟩
  · simp only [keptC_t0, allTold', dutiesTold, factsA, factsP, factsR, AV.facts, RW.facts, inK, and_true, Q.holds', E.i, E.s, E.n, D.nat, E.den, BO.den, UO.den, TO.den, D.toInt_int, D.toList_list, D.ints_ofInts, i64min, i64max, u8min, u8max, u16min, u16max, u32min, u32max, u64min, u64max, i32min, i32max, Om.sub, selI, ints_app, ints_cut, ints_upd, ints_rep, ints_splice, len_ints]
    omega
  · simp only [keptC_d0, allTold', dutiesTold, factsA, factsP, factsR, AV.facts, RW.facts, inK, and_true, Q.holds', E.i, E.s, E.n, D.nat, E.den, BO.den, UO.den, TO.den, D.toInt_int, D.toList_list, D.ints_ofInts, i64min, i64max, u8min, u8max, u16min, u16max, u32min, u32max, u64min, u64max, i32min, i32max, Om.sub, selI, ints_app, ints_cut, ints_upd, ints_rep, ints_splice, len_ints]

def flipL : LSpec := { n := 103, next := 1, pat := [(11, .sint .i64 (.var 0)), (1, .sint .i64 (.var 1)), (2, .sint .u32 (.var 2)), (8, .sslice 1 (.int 0) (.var 3) (.var 3) true)], rows := [(1, .seq ⟨5, .u8, .var 3, .var 4, true, false⟩)], pre := [(.le (.int 0) (.var 0), true), (.le (.var 0) (.int 32), true), (.le (.int 0) (.var 1), true), (.le (.bi .add (.var 1) (.int 32)) (.bi .mul (.int 8) (.var 3)), true), (.le (.var 3) (.int 1000000), true)], x := 0, fin := [(8, .sslice 1 (.int 0) (.var 3) (.var 3) true)], frows := [(1, .seq ⟨5, .u8, .var 3, .fn 10 (argsE [.var 4, .var 1, .var 2, .var 0]), true, false⟩)], same := [1], chg := [1, 2, 8, 11, 60, 61, 62, 63, 64, 65, 66, 67, 68, 69, 70, 71, 72, 73, 74, 75, 76, 77, 78, 79, 80, 81, 82, 83, 84, 85, 86, 87] }
def flipL_t0 : List (Q × Bool) := [((.le (.int 32) (.var 0)), false),
  ((.le (.int 0) (.var 0)), true),
  ((.eq (.bi (.iop .rem .u32) (.bi (.iop .shr .u32) (.var 2) (.var 0)) (.int 2)) (.int 1)), false),
  ((.fit .i64 (.bi .add (.var 0) (.int 1))), true)]
def flipL_d0 : List Duty := [(false, (.fn 10 (.bi .pair (.var 4) (.bi .pair (.var 1) (.bi .pair (.var 2) (.bi .pair (.bi .add (.var 0) (.int 1)) (.int 0)))))), (.fn 10 (.bi .pair (.var 4) (.bi .pair (.var 1) (.bi .pair (.var 2) (.bi .pair (.var 0) (.int 0)))))))]
def flipL_h0 : List (Nat × E) := [(4, (.var 4)), (3, (.var 3)), (2, (.var 2)), (1, (.var 1)), (0, (.bi .add (.var 0) (.int 1)))]
theorem flipL_h0_0 : lookE flipL_h0 0 = (.bi .add (.var 0) (.int 1)) := rfl
theorem flipL_h0_1 : lookE flipL_h0 1 = (.var 1) := rfl
theorem flipL_h0_2 : lookE flipL_h0 2 = (.var 2) := rfl
theorem flipL_h0_3 : lookE flipL_h0 3 = (.var 3) := rfl
theorem flipL_h0_4 : lookE flipL_h0 4 = (.var 4) := rfl
theorem flipL_y0 : nextD flipL flipL_h0 [(1, 1)] (roundC Try.prog [] [] [] 3000 40 6 [4, 1, 0, 1, 1, 1, 1, 1, 1, 1, 1] (tellA flipL_t0) flipL) = some flipL_d0 := by kernel_rfl
def flipL_t1 : List (Q × Bool) := [((.le (.int 32) (.var 0)), false),
  ((.le (.int 0) (.var 0)), true),
  ((.eq (.bi (.iop .rem .u32) (.bi (.iop .shr .u32) (.var 2) (.var 0)) (.int 2)) (.int 1)), true),
  ((.fit .i64 (.bi .add (.var 1) (.var 0))), true),
  ((.le (.int 0) (.bi (.iop .quo .i64) (.bi .add (.var 1) (.var 0)) (.int 8))), true),
  ((.le (.var 3) (.bi (.iop .quo .i64) (.bi .add (.var 1) (.var 0)) (.int 8))), false),
  ((.le (.int 0) (.bi (.iop .rem .i64) (.bi .add (.var 1) (.var 0)) (.int 8))), true),
  ((.fit .i64 (.bi .add (.var 0) (.int 1))), true)]
def flipL_d1 : List Duty := [(false, (.fn 10 (.bi .pair (.tr .upd (.var 4) (.bi (.iop .quo .i64) (.bi .add (.var 1) (.var 0)) (.int 8)) (.bi (.iop .xor .u8) (.bi .sel (.var 4) (.bi (.iop .quo .i64) (.bi .add (.var 1) (.var 0)) (.int 8))) (.bi (.iop .shl .u8) (.int 1) (.bi (.iop .rem .i64) (.bi .add (.var 1) (.var 0)) (.int 8))))) (.bi .pair (.var 1) (.bi .pair (.var 2) (.bi .pair (.bi .add (.var 0) (.int 1)) (.int 0)))))), (.fn 10 (.bi .pair (.var 4) (.bi .pair (.var 1) (.bi .pair (.var 2) (.bi .pair (.var 0) (.int 0)))))))]
def flipL_h1 : List (Nat × E) := [(4, (.tr .upd (.var 4) (.bi (.iop .quo .i64) (.bi .add (.var 1) (.var 0)) (.int 8)) (.bi (.iop .xor .u8) (.bi .sel (.var 4) (.bi (.iop .quo .i64) (.bi .add (.var 1) (.var 0)) (.int 8))) (.bi (.iop .shl .u8) (.int 1) (.bi (.iop .rem .i64) (.bi .add (.var 1) (.var 0)) (.int 8)))))), (3, (.var 3)), (2, (.var 2)), (1, (.var 1)), (0, (.bi .add (.var 0) (.int 1)))]
theorem flipL_h1_0 : lookE flipL_h1 0 = (.bi .add (.var 0) (.int 1)) := rfl
theorem flipL_h1_1 : lookE flipL_h1 1 = (.var 1) := rfl
theorem flipL_h1_2 : lookE flipL_h1 2 = (.var 2) := rfl
theorem flipL_h1_3 : lookE flipL_h1 3 = (.var 3) := rfl
theorem flipL_h1_4 : lookE flipL_h1 4 = (.tr .upd (.var 4) (.bi (.iop .quo .i64) (.bi .add (.var 1) (.var 0)) (.int 8)) (.bi (.iop .xor .u8) (.bi .sel (.var 4) (.bi (.iop .quo .i64) (.bi .add (.var 1) (.var 0)) (.int 8))) (.bi (.iop .shl .u8) (.int 1) (.bi (.iop .rem .i64) (.bi .add (.var 1) (.var 0)) (.int 8))))) := rfl
theorem flipL_y1 : nextD flipL flipL_h1 [(1, 1)] (roundC Try.prog [] [] [] 3000 40 6 [4, 1, 0, 1, 1, 1, 1, 1, 1, 1, 1] (tellA flipL_t1) flipL) = some flipL_d1 := by kernel_rfl
def flipL_t2 : List (Q × Bool) := [((.le (.int 32) (.var 0)), true)]
def flipL_d2 : List Duty := [(false, (.var 4), (.fn 10 (.bi .pair (.var 4) (.bi .pair (.var 1) (.bi .pair (.var 2) (.bi .pair (.var 0) (.int 0)))))))]
theorem flipL_y2 : endD flipL [(1, 1)] 1000 (roundC Try.prog [] [] [] 3000 40 6 [4, 1, 0, 1, 1, 1, 1, 1, 1, 1, 1] (tellA flipL_t2) flipL) = some flipL_d2 := by kernel_rfl
theorem flipL_holds : LHolds Try.prog (loopAt Try.prog 6 [4, 1, 0, 1, 1, 1, 1, 1, 1, 1, 1]) flipL F := by
  refine loop_roundsC sound (tableNil _ _) (specsNil _ _) (oversNil _ _) (fuel := 3000) (depth := 40) (by kernel_rfl) (by kernel_rfl) (by kernel_rfl) (fun d => (32 - (d 0).toInt).toNat) fun d hp hR hA => ?_
  have hp := allTold'_iff.2 hp
  simp only [flipL, allTold', dutiesTold, factsA, factsP, factsR, AV.facts, RW.facts, inK, and_true, Q.holds', E.i, E.s, E.n, D.nat, E.den, BO.den, UO.den, TO.den, D.toInt_int, D.toList_list, D.ints_ofInts, i64min, i64max, u8min, u8max, u16min, u16max, u32min, u32max, u64min, u64max, i32min, i32max, Om.sub, selI, ints_app, ints_cut, ints_upd, ints_rep, ints_splice, len_ints] at hp hR hA
  by_cases h : 32 ≤ (d 0).toInt
  · refine ⟨tellA flipL_t2, tellA_ok (allTold'_iff.1 ?_), .inl ⟨_, _, _, flipL_y2, dutiesTold_ok ?_⟩⟩
    · simp only [flipL_t2, allTold', dutiesTold, factsA, factsP, factsR, AV.facts, RW.facts, inK, and_true, Q.holds', E.i, E.s, E.n, D.nat, E.den, BO.den, UO.den, TO.den, D.toInt_int, D.toList_list, D.ints_ofInts, i64min, i64max, u8min, u8max, u16min, u16max, u32min, u32max, u64min, u64max, i32min, i32max, Om.sub, selI, ints_app, ints_cut, ints_upd, ints_rep, ints_splice, len_ints]
      omega
    · simp only [flipL_d2, F10, allTold', dutiesTold, factsA, factsP, factsR, AV.facts, RW.facts, inK, and_true, Q.holds', E.i, E.s, E.n, D.nat, E.den, BO.den, UO.den, TO.den, D.toInt_int, D.toList_list, D.ints_ofInts, i64min, i64max, u8min, u8max, u16min, u16max, u32min, u32max, u64min, u64max, i32min, i32max, Om.sub, selI, ints_app, ints_cut, ints_upd, ints_rep, ints_splice, len_ints]
      rw [show (32 - (d 0).toInt).toNat = 0 by omega]
      rfl
  · by_cases g : iopI .rem .u32 (iopI .shr .u32 (d 2).toInt (d 0).toInt) 2 = 1
    · refine ⟨tellA flipL_t1, tellA_ok (allTold'_iff.1 ?_), .inr ⟨flipL_h1, _, _, flipL_y1, dutiesTold_ok ?_, allTold'_iff.1 ?_, ?_⟩⟩
      · simp only [flipL_t1, allTold', dutiesTold, factsA, factsP, factsR, AV.facts, RW.facts, inK, and_true, Q.holds', E.i, E.s, E.n, D.nat, E.den, BO.den, UO.den, TO.den, D.toInt_int, D.toList_list, D.ints_ofInts, i64min, i64max, u8min, u8max, u16min, u16max, u32min, u32max, u64min, u64max, i32min, i32max, Om.sub, selI, ints_app, ints_cut, ints_upd, ints_rep, ints_splice, len_ints]
        rw [quo_ediv (by omega) (by omega) (by omega), rem_emod .i64 (by omega)]
        omega
      · simp only [flipL_d1, F10, allTold', dutiesTold, factsA, factsP, factsR, AV.facts, RW.facts, inK, and_true, Q.holds', E.i, E.s, E.n, D.nat, E.den, BO.den, UO.den, TO.den, D.toInt_int, D.toList_list, D.ints_ofInts, i64min, i64max, u8min, u8max, u16min, u16max, u32min, u32max, u64min, u64max, i32min, i32max, Om.sub, selI, ints_app, ints_cut, ints_upd, ints_rep, ints_splice, len_ints]
        rw [flip_step (d 1).toInt (d 2).toInt (d 4).ints (d 0).toInt (by omega), if_pos g]
        rfl
      · simp only [flipL, flipL_h1_0, flipL_h1_1, flipL_h1_2, flipL_h1_3, flipL_h1_4, allTold', dutiesTold, factsA, factsP, factsR, AV.facts, RW.facts, inK, and_true, Q.holds', E.i, E.s, E.n, D.nat, E.den, BO.den, UO.den, TO.den, D.toInt_int, D.toList_list, D.ints_ofInts, i64min, i64max, u8min, u8max, u16min, u16max, u32min, u32max, u64min, u64max, i32min, i32max, Om.sub, selI, ints_app, ints_cut, ints_upd, ints_rep, ints_splice, len_ints]
        omega
      · simp only [flipL_h1_0, flipL_h1_1, flipL_h1_2, flipL_h1_3, flipL_h1_4, allTold', dutiesTold, factsA, factsP, factsR, AV.facts, RW.facts, inK, and_true, Q.holds', E.i, E.s, E.n, D.nat, E.den, BO.den, UO.den, TO.den, D.toInt_int, D.toList_list, D.ints_ofInts, i64min, i64max, u8min, u8max, u16min, u16max, u32min, u32max, u64min, u64max, i32min, i32max, Om.sub, selI, ints_app, ints_cut, ints_upd, ints_rep, ints_splice, len_ints]
        omega
    · refine ⟨tellA flipL_t0, tellA_ok (allTold'_iff.1 ?_), .inr ⟨flipL_h0, _, _, flipL_y0, dutiesTold_ok ?_, allTold'_iff.1 ?_, ?_⟩⟩
      · simp only [flipL_t0, allTold', dutiesTold, factsA, factsP, factsR, AV.facts, RW.facts, inK, and_true, Q.holds', E.i, E.s, E.n, D.nat, E.den, BO.den, UO.den, TO.den, D.toInt_int, D.toList_list, D.ints_ofInts, i64min, i64max, u8min, u8max, u16min, u16max, u32min, u32max, u64min, u64max, i32min, i32max, Om.sub, selI, ints_app, ints_cut, ints_upd, ints_rep, ints_splice, len_ints]
        omega
      · simp only [flipL_d0, F10, allTold', dutiesTold, factsA, factsP, factsR, AV.facts, RW.facts, inK, and_true, Q.holds', E.i, E.s, E.n, D.nat, E.den, BO.den, UO.den, TO.den, D.toInt_int, D.toList_list, D.ints_ofInts, i64min, i64max, u8min, u8max, u16min, u16max, u32min, u32max, u64min, u64max, i32min, i32max, Om.sub, selI, ints_app, ints_cut, ints_upd, ints_rep, ints_splice, len_ints]
        rw [flip_step (d 1).toInt (d 2).toInt (d 4).ints (d 0).toInt (by omega), if_neg g]
      · simp only [flipL, flipL_h0_0, flipL_h0_1, flipL_h0_2, flipL_h0_3, flipL_h0_4, allTold', dutiesTold, factsA, factsP, factsR, AV.facts, RW.facts, inK, and_true, Q.holds', E.i, E.s, E.n, D.nat, E.den, BO.den, UO.den, TO.den, D.toInt_int, D.toList_list, D.ints_ofInts, i64min, i64max, u8min, u8max, u16min, u16max, u32min, u32max, u64min, u64max, i32min, i32max, Om.sub, selI, ints_app, ints_cut, ints_upd, ints_rep, ints_splice, len_ints]
        omega
      · simp only [flipL_h0_0, flipL_h0_1, flipL_h0_2, flipL_h0_3, flipL_h0_4, allTold', dutiesTold, factsA, factsP, factsR, AV.facts, RW.facts, inK, and_true, Q.holds', E.i, E.s, E.n, D.nat, E.den, BO.den, UO.den, TO.den, D.toInt_int, D.toList_list, D.ints_ofInts, i64min, i64max, u8min, u8max, u16min, u16max, u32min, u32max, u64min, u64max, i32min, i32max, Om.sub, selI, ints_app, ints_cut, ints_upd, ints_rep, ints_splice, len_ints]
        omega

def pk0C : CSpec := { args := [.sint .i64 (.var 0), .int .i64 4], next := 0, rows := [], pre := [(.eq (.fn 7 (argsE [.var 0, .int 4])) (.int 0), true)], res := .int .i64 0, frows := [], same := [] }
def pk0C_t0 : List (Q × Bool) := [((.le (.int 0) (.bi (.iop .rem .i64) (.var 0) (.int 4))), true)]
def pk0C_d0 : List Duty := [(true, (.bi (.iop .rem .i64) (.var 0) (.int 4)), (.int 0))]
theorem pk0C_y0 : endC pk0C [] 1000 (callC Try.prog (tellA pk0C_t0) [] [] [] 3000 40 21 pk0C) = some pk0C_d0 := by kernel_rfl
theorem pk0C_holds : CHolds Try.prog 21 pk0C F := by
  refine cholds_of sound (tableNil _ _) (specsNil _ _) (oversNil _ _) (fuel := 3000) (depth := 40) (by kernel_rfl) fun d hp hR hA => ?_
  have hp := allTold'_iff.2 hp
  simp only [pk0C, allTold', dutiesTold, factsA, factsP, factsR, AV.facts, RW.facts, inK, and_true, Q.holds', E.i, E.s, E.n, D.nat, E.den, BO.den, UO.den, TO.den, D.toInt_int, D.toList_list, D.ints_ofInts, i64min, i64max, u8min, u8max, u16min, u16max, u32min, u32max, u64min, u64max, i32min, i32max, Om.sub, selI, ints_app, ints_cut, ints_upd, ints_rep, ints_splice, len_ints] at hp hR hA
  rw [show F 7 (E.den ⟨fun _ => .bool false, d, F⟩ (argsE [.var 0, .int 4])) = .int ((d 0).toInt % 4) from rfl] at hp
  simp only [D.toInt_int] at hp
  have e2 := tmod_or .i64 (x := (d 0).toInt) (n := 4) (by omega)
  have e3 : iopI .rem .i64 (d 0).toInt 4 = 0 := by
    show (d 0).toInt.tmod 4 = 0
    rw [Int.tmod_eq_emod, if_pos (Or.inr (by omega))]
    omega
  refine ⟨tellA pk0C_t0, _, _, _, tellA_ok (allTold'_iff.1 ?_), pk0C_y0, dutiesTold_ok ?_⟩
  · simp only [pk0C_t0, allTold', dutiesTold, factsA, factsP, factsR, AV.facts, RW.facts, inK, and_true, Q.holds', E.i, E.s, E.n, D.nat, E.den, BO.den, UO.den, TO.den, D.toInt_int, D.toList_list, D.ints_ofInts, i64min, i64max, u8min, u8max, u16min, u16max, u32min, u32max, u64min, u64max, i32min, i32max, Om.sub, selI, ints_app, ints_cut, ints_upd, ints_rep, ints_splice, len_ints]
    omega
  · simp only [pk0C_d0, allTold', dutiesTold, factsA, factsP, factsR, AV.facts, RW.facts, inK, and_true, Q.holds', E.i, E.s, E.n, D.nat, E.den, BO.den, UO.den, TO.den, D.toInt_int, D.toList_list, D.ints_ofInts, i64min, i64max, u8min, u8max, u16min, u16max, u32min, u32max, u64min, u64max, i32min, i32max, Om.sub, selI, ints_app, ints_cut, ints_upd, ints_rep, ints_splice, len_ints]
    omega

def pk1C : CSpec := { args := [.sint .i64 (.var 0), .int .i64 4], next := 0, rows := [], pre := [(.eq (.fn 7 (argsE [.var 0, .int 4])) (.int 1), true)], res := .int .i64 1, frows := [], same := [] }
def pk1C_t0 : List (Q × Bool) := [((.le (.int 0) (.bi (.iop .rem .i64) (.var 0) (.int 4))), true)]
def pk1C_d0 : List Duty := [(true, (.bi (.iop .rem .i64) (.var 0) (.int 4)), (.int 1))]
theorem pk1C_y0 : endC pk1C [] 1000 (callC Try.prog (tellA pk1C_t0) [] [] [] 3000 40 21 pk1C) = some pk1C_d0 := by kernel_rfl
def pk1C_t1 : List (Q × Bool) := [((.le (.int 0) (.bi (.iop .rem .i64) (.var 0) (.int 4))), false),
  ((.fit .i64 (.bi .add (.bi (.iop .rem .i64) (.var 0) (.int 4)) (.int 4))), true)]
def pk1C_d1 : List Duty := [(true, (.bi .add (.bi (.iop .rem .i64) (.var 0) (.int 4)) (.int 4)), (.int 1))]
theorem pk1C_y1 : endC pk1C [] 1000 (callC Try.prog (tellA pk1C_t1) [] [] [] 3000 40 21 pk1C) = some pk1C_d1 := by kernel_rfl
theorem pk1C_holds : CHolds Try.prog 21 pk1C F := by
  refine cholds_of sound (tableNil _ _) (specsNil _ _) (oversNil _ _) (fuel := 3000) (depth := 40) (by kernel_rfl) fun d hp hR hA => ?_
  have hp := allTold'_iff.2 hp
  simp only [pk1C, allTold', dutiesTold, factsA, factsP, factsR, AV.facts, RW.facts, inK, and_true, Q.holds', E.i, E.s, E.n, D.nat, E.den, BO.den, UO.den, TO.den, D.toInt_int, D.toList_list, D.ints_ofInts, i64min, i64max, u8min, u8max, u16min, u16max, u32min, u32max, u64min, u64max, i32min, i32max, Om.sub, selI, ints_app, ints_cut, ints_upd, ints_rep, ints_splice, len_ints] at hp hR hA
  rw [show F 7 (E.den ⟨fun _ => .bool false, d, F⟩ (argsE [.var 0, .int 4])) = .int ((d 0).toInt % 4) from rfl] at hp
  simp only [D.toInt_int] at hp
  have e2 := tmod_or .i64 (x := (d 0).toInt) (n := 4) (by omega)
  by_cases h : 0 ≤ iopI .rem .i64 (d 0).toInt 4
  · refine ⟨tellA pk1C_t0, _, _, _, tellA_ok (allTold'_iff.1 ?_), pk1C_y0, dutiesTold_ok ?_⟩
    · simp only [pk1C_t0, allTold', dutiesTold, factsA, factsP, factsR, AV.facts, RW.facts, inK, and_true, Q.holds', E.i, E.s, E.n, D.nat, E.den, BO.den, UO.den, TO.den, D.toInt_int, D.toList_list, D.ints_ofInts, i64min, i64max, u8min, u8max, u16min, u16max, u32min, u32max, u64min, u64max, i32min, i32max, Om.sub, selI, ints_app, ints_cut, ints_upd, ints_rep, ints_splice, len_ints]
      omega
    · simp only [pk1C_d0, allTold', dutiesTold, factsA, factsP, factsR, AV.facts, RW.facts, inK, and_true, Q.holds', E.i, E.s, E.n, D.nat, E.den, BO.den, UO.den, TO.den, D.toInt_int, D.toList_list, D.ints_ofInts, i64min, i64max, u8min, u8max, u16min, u16max, u32min, u32max, u64min, u64max, i32min, i32max, Om.sub, selI, ints_app, ints_cut, ints_upd, ints_rep, ints_splice, len_ints]
      omega
  · refine ⟨tellA pk1C_t1, _, _, _, tellA_ok (allTold'_iff.1 ?_), pk1C_y1, dutiesTold_ok ?_⟩
    · simp only [pk1C_t1, allTold', dutiesTold, factsA, factsP, factsR, AV.facts, RW.facts, inK, and_true, Q.holds', E.i, E.s, E.n, D.nat, E.den, BO.den, UO.den, TO.den, D.toInt_int, D.toList_list, D.ints_ofInts, i64min, i64max, u8min, u8max, u16min, u16max, u32min, u32max, u64min, u64max, i32min, i32max, Om.sub, selI, ints_app, ints_cut, ints_upd, ints_rep, ints_splice, len_ints]
      omega
    · simp only [pk1C_d1, allTold', dutiesTold, factsA, factsP, factsR, AV.facts, RW.facts, inK, and_true, Q.holds', E.i, E.s, E.n, D.nat, E.den, BO.den, UO.den, TO.den, D.toInt_int, D.toList_list, D.ints_ofInts, i64min, i64max, u8min, u8max, u16min, u16max, u32min, u32max, u64min, u64max, i32min, i32max, Om.sub, selI, ints_app, ints_cut, ints_upd, ints_rep, ints_splice, len_ints]
      omega

def pk2C : CSpec := { args := [.sint .i64 (.var 0), .int .i64 4], next := 0, rows := [], pre := [(.eq (.fn 7 (argsE [.var 0, .int 4])) (.int 2), true)], res := .int .i64 2, frows := [], same := [] }
def pk2C_t0 : List (Q × Bool) := [((.le (.int 0) (.bi (.iop .rem .i64) (.var 0) (.int 4))), true)]
def pk2C_d0 : List Duty := [(true, (.bi (.iop .rem .i64) (.var 0) (.int 4)), (.int 2))]
theorem pk2C_y0 : endC pk2C [] 1000 (callC Try.prog (tellA pk2C_t0) [] [] [] 3000 40 21 pk2C) = some pk2C_d0 := by kernel_rfl
def pk2C_t1 : List (Q × Bool) := [((.le (.int 0) (.bi (.iop .rem .i64) (.var 0) (.int 4))), false),
  ((.fit .i64 (.bi .add (.bi (.iop .rem .i64) (.var 0) (.int 4)) (.int 4))), true)]
def pk2C_d1 : List Duty := [(true, (.bi .add (.bi (.iop .rem .i64) (.var 0) (.int 4)) (.int 4)), (.int 2))]
theorem pk2C_y1 : endC pk2C [] 1000 (callC Try.prog (tellA pk2C_t1) [] [] [] 3000 40 21 pk2C) = some pk2C_d1 := by kernel_rfl
theorem pk2C_holds : CHolds Try.prog 21 pk2C F := by
  refine cholds_of sound (tableNil _ _) (specsNil _ _) (oversNil _ _) (fuel := 3000) (depth := 40) (by kernel_rfl) fun d hp hR hA => ?_
  have hp := allTold'_iff.2 hp
  simp only [pk2C, allTold', dutiesTold, factsA, factsP, factsR, AV.facts, RW.facts, inK, and_true, Q.holds', E.i, E.s, E.n, D.nat, E.den, BO.den, UO.den, TO.den, D.toInt_int, D.toList_list, D.ints_ofInts, i64min, i64max, u8min, u8max, u16min, u16max, u32min, u32max, u64min, u64max, i32min, i32max, Om.sub, selI, ints_app, ints_cut, ints_upd, ints_rep, ints_splice, len_ints] at hp hR hA
  rw [show F 7 (E.den ⟨fun _ => .bool false, d, F⟩ (argsE [.var 0, .int 4])) = .int ((d 0).toInt % 4) from rfl] at hp
  simp only [D.toInt_int] at hp
  have e2 := tmod_or .i64 (x := (d 0).toInt) (n := 4) (by omega)
  by_cases h : 0 ≤ iopI .rem .i64 (d 0).toInt 4
  · refine ⟨tellA pk2C_t0, _, _, _, tellA_ok (allTold'_iff.1 ?_), pk2C_y0, dutiesTold_ok ?_⟩
    · simp only [pk2C_t0, allTold', dutiesTold, factsA, factsP, factsR, AV.facts, RW.facts, inK, and_true, Q.holds', E.i, E.s, E.n, D.nat, E.den, BO.den, UO.den, TO.den, D.toInt_int, D.toList_list, D.ints_ofInts, i64min, i64max, u8min, u8max, u16min, u16max, u32min, u32max, u64min, u64max, i32min, i32max, Om.sub, selI, ints_app, ints_cut, ints_upd, ints_rep, ints_splice, len_ints]
      omega
    · simp only [pk2C_d0, allTold', dutiesTold, factsA, factsP, factsR, AV.facts, RW.facts, inK, and_true, Q.holds', E.i, E.s, E.n, D.nat, E.den, BO.den, UO.den, TO.den, D.toInt_int, D.toList_list, D.ints_ofInts, i64min, i64max, u8min, u8max, u16min, u16max, u32min, u32max, u64min, u64max, i32min, i32max, Om.sub, selI, ints_app, ints_cut, ints_upd, ints_rep, ints_splice, len_ints]
      omega
  · refine ⟨tellA pk2C_t1, _, _, _, tellA_ok (allTold'_iff.1 ?_), pk2C_y1, dutiesTold_ok ?_⟩
    · simp only [pk2C_t1, allTold', dutiesTold, factsA, factsP, factsR, AV.facts, RW.facts, inK, and_true, Q.holds', E.i, E.s, E.n, D.nat, E.den, BO.den, UO.den, TO.den, D.toInt_int, D.toList_list, D.ints_ofInts, i64min, i64max, u8min, u8max, u16min, u16max, u32min, u32max, u64min, u64max, i32min, i32max, Om.sub, selI, ints_app, ints_cut, ints_upd, ints_rep, ints_splice, len_ints]
      omega
    · simp only [pk2C_d1, allTold', dutiesTold, factsA, factsP, factsR, AV.facts, RW.facts, inK, and_true, Q.holds', E.i, E.s, E.n, D.nat, E.den, BO.den, UO.den, TO.den, D.toInt_int, D.toList_list, D.ints_ofInts, i64min, i64max, u8min, u8max, u16min, u16max, u32min, u32max, u64min, u64max, i32min, i32max, Om.sub, selI, ints_app, ints_cut, ints_upd, ints_rep, ints_splice, len_ints]
      omega

def pk3C : CSpec := { args := [.sint .i64 (.var 0), .int .i64 4], next := 0, rows := [], pre := [(.eq (.fn 7 (argsE [.var 0, .int 4])) (.int 3), true)], res := .int .i64 3, frows := [], same := [] }
def pk3C_t0 : List (Q × Bool) := [((.le (.int 0) (.bi (.iop .rem .i64) (.var 0) (.int 4))), true)]
def pk3C_d0 : List Duty := [(true, (.bi (.iop .rem .i64) (.var 0) (.int 4)), (.int 3))]
theorem pk3C_y0 : endC pk3C [] 1000 (callC Try.prog (tellA pk3C_t0) [] [] [] 3000 40 21 pk3C) = some pk3C_d0 := by kernel_rfl
def pk3C_t1 : List (Q × Bool) := [((.le (.int 0) (.bi (.iop .rem .i64) (.var 0) (.int 4))), false),
  ((.fit .i64 (.bi .add (.bi (.iop .rem .i64) (.var 0) (.int 4)) (.int 4))), true)]
def pk3C_d1 : List Duty := [(true, (.bi .add (.bi (.iop .rem .i64) (.var 0) (.int 4)) (.int 4)), (.int 3))]
theorem pk3C_y1 : endC pk3C [] 1000 (callC Try.prog (tellA pk3C_t1) [] [] [] 3000 40 21 pk3C) = some pk3C_d1 := by kernel_rfl
theorem pk3C_holds : CHolds Try.prog 21 pk3C F := by
  refine cholds_of sound (tableNil _ _) (specsNil _ _) (oversNil _ _) (fuel := 3000) (depth := 40) (by kernel_rfl) fun d hp hR hA => ?_
  have hp := allTold'_iff.2 hp
  simp only [pk3C, allTold', dutiesTold, factsA, factsP, factsR, AV.facts, RW.facts, inK, and_true, Q.holds', E.i, E.s, E.n, D.nat, E.den, BO.den, UO.den, TO.den, D.toInt_int, D.toList_list, D.ints_ofInts, i64min, i64max, u8min, u8max, u16min, u16max, u32min, u32max, u64min, u64max, i32min, i32max, Om.sub, selI, ints_app, ints_cut, ints_upd, ints_rep, ints_splice, len_ints] at hp hR hA
  rw [show F 7 (E.den ⟨fun _ => .bool false, d, F⟩ (argsE [.var 0, .int 4])) = .int ((d 0).toInt % 4) from rfl] at hp
  simp only [D.toInt_int] at hp
  have e2 := tmod_or .i64 (x := (d 0).toInt) (n := 4) (by omega)
  by_cases h : 0 ≤ iopI .rem .i64 (d 0).toInt 4
  · refine ⟨tellA pk3C_t0, _, _, _, tellA_ok (allTold'_iff.1 ?_), pk3C_y0, dutiesTold_ok ?_⟩
    · simp only [pk3C_t0, allTold', dutiesTold, factsA, factsP, factsR, AV.facts, RW.facts, inK, and_true, Q.holds', E.i, E.s, E.n, D.nat, E.den, BO.den, UO.den, TO.den, D.toInt_int, D.toList_list, D.ints_ofInts, i64min, i64max, u8min, u8max, u16min, u16max, u32min, u32max, u64min, u64max, i32min, i32max, Om.sub, selI, ints_app, ints_cut, ints_upd, ints_rep, ints_splice, len_ints]
      omega
    · simp only [pk3C_d0, allTold', dutiesTold, factsA, factsP, factsR, AV.facts, RW.facts, inK, and_true, Q.holds', E.i, E.s, E.n, D.nat, E.den, BO.den, UO.den, TO.den, D.toInt_int, D.toList_list, D.ints_ofInts, i64min, i64max, u8min, u8max, u16min, u16max, u32min, u32max, u64min, u64max, i32min, i32max, Om.sub, selI, ints_app, ints_cut, ints_upd, ints_rep, ints_splice, len_ints]
      omega
  · refine ⟨tellA pk3C_t1, _, _, _, tellA_ok (allTold'_iff.1 ?_), pk3C_y1, dutiesTold_ok ?_⟩
    · simp only [pk3C_t1, allTold', dutiesTold, factsA, factsP, factsR, AV.facts, RW.facts, inK, and_true, Q.holds', E.i, E.s, E.n, D.nat, E.den, BO.den, UO.den, TO.den, D.toInt_int, D.toList_list, D.ints_ofInts, i64min, i64max, u8min, u8max, u16min, u16max, u32min, u32max, u64min, u64max, i32min, i32max, Om.sub, selI, ints_app, ints_cut, ints_upd, ints_rep, ints_splice, len_ints]
      omega
    · simp only [pk3C_d1, allTold', dutiesTold, factsA, factsP, factsR, AV.facts, RW.facts, inK, and_true, Q.holds', E.i, E.s, E.n, D.nat, E.den, BO.den, UO.den, TO.den, D.toInt_int, D.toList_list, D.ints_ofInts, i64min, i64max, u8min, u8max, u16min, u16max, u32min, u32max, u64min, u64max, i32min, i32max, Om.sub, selI, ints_app, ints_cut, ints_upd, ints_rep, ints_splice, len_ints]
      omega

def tab : List LEntry := [⟨14, [4, 1, 0, 1, 1, 1], moreL⟩, ⟨14, [4, 1, 0, 1, 1, 1], moreLO⟩, ⟨13, [4, 1, 4, 0, 1, 5, 4, 1, 0, 1, 1], bitL⟩, ⟨13, [4, 1, 4, 0, 1, 5, 4, 1, 0, 1, 1], bitLO⟩, ⟨13, [4, 1, 0, 1, 1], refL⟩, ⟨13, [4, 1, 0, 1, 1], refLO⟩, ⟨17, [4, 1, 1], overL⟩, ⟨6, [4, 1, 0, 1, 1, 1, 1, 1, 1, 1, 1], flipL⟩]
def specs : List (FuncId × CSpec) := [(25, tableC), (14, moreC), (14, moreCO), (13, refC), (13, refCO), (10, lentC), (9, awakeC), (5, knownC), (21, pick1C), (21, pickC), (11, putC), (16, rputC), (18, keptC), (21, pk0C), (21, pk1C), (21, pk2C), (21, pk3C)]
def overs : Overs := [(17, 5, .u8)]
theorem tab_ok : TableOK Try.prog tab F := tableCons moreL_holds (tableCons moreLO_holds (tableCons bitL_holds (tableCons bitLO_holds (tableCons refL_holds (tableCons refLO_holds (tableCons overL_holds (tableCons flipL_holds (tableNil _ _))))))))
theorem specs_ok : SpecsOK Try.prog specs F := specsCons tableC_holds (specsCons moreC_holds (specsCons moreCO_holds (specsCons refC_holds (specsCons refCO_holds (specsCons lentC_holds (specsCons awakeC_holds (specsCons knownC_holds (specsCons pick1C_holds (specsCons pickC_holds (specsCons putC_holds (specsCons rputC_holds (specsCons keptC_holds (specsCons pk0C_holds (specsCons pk1C_holds (specsCons pk2C_holds (specsCons pk3C_holds (specsNil _ _)))))))))))))))))
theorem overs_ok : OversOK Try.prog overs F := oversCons overV_holds (oversNil _ _)
def tab0 : List LEntry := []
def specs0 : List (FuncId × CSpec) := [(25, tableC), (9, awakeC), (5, knownC)]
def overs0 : Overs := [(17, 5, .u8)]
theorem tab0_ok : TableOK Try.prog tab0 F := tableNil _ _
theorem specs0_ok : SpecsOK Try.prog specs0 F := specsCons tableC_holds (specsCons awakeC_holds (specsCons knownC_holds (specsNil _ _)))
theorem overs0_ok : OversOK Try.prog overs0 F := oversCons overV_holds (oversNil _ _)
def tabM : List LEntry := [⟨14, [4, 1, 0, 1, 1, 1], moreL⟩, ⟨14, [4, 1, 0, 1, 1, 1], moreLO⟩, ⟨13, [4, 1, 4, 0, 1, 5, 4, 1, 0, 1, 1], bitL⟩, ⟨13, [4, 1, 4, 0, 1, 5, 4, 1, 0, 1, 1], bitLO⟩, ⟨13, [4, 1, 0, 1, 1], refL⟩, ⟨13, [4, 1, 0, 1, 1], refLO⟩, ⟨17, [4, 1, 1], overL⟩, ⟨6, [4, 1, 0, 1, 1, 1, 1, 1, 1, 1, 1], flipL⟩]
def specsM : List (FuncId × CSpec) := [(25, tableC), (14, moreC), (14, moreCO), (13, refC), (13, refCO), (10, lentC), (9, awakeC), (5, knownC), (21, pick1C), (21, pickC), (11, putC), (16, rputC), (18, keptC)]
def oversM : Overs := [(17, 5, .u8)]
theorem tabM_ok : TableOK Try.prog tabM F := tableCons moreL_holds (tableCons moreLO_holds (tableCons bitL_holds (tableCons bitLO_holds (tableCons refL_holds (tableCons refLO_holds (tableCons overL_holds (tableCons flipL_holds (tableNil _ _))))))))
theorem specsM_ok : SpecsOK Try.prog specsM F := specsCons tableC_holds (specsCons moreC_holds (specsCons moreCO_holds (specsCons refC_holds (specsCons refCO_holds (specsCons lentC_holds (specsCons awakeC_holds (specsCons knownC_holds (specsCons pick1C_holds (specsCons pickC_holds (specsCons putC_holds (specsCons rputC_holds (specsCons keptC_holds (specsNil _ _)))))))))))))
theorem oversM_ok : OversOK Try.prog oversM F := oversCons overV_holds (oversNil _ _)
def tabP : List LEntry := [⟨14, [4, 1, 0, 1, 1, 1], moreL⟩, ⟨14, [4, 1, 0, 1, 1, 1], moreLO⟩, ⟨13, [4, 1, 4, 0, 1, 5, 4, 1, 0, 1, 1], bitL⟩, ⟨13, [4, 1, 4, 0, 1, 5, 4, 1, 0, 1, 1], bitLO⟩, ⟨13, [4, 1, 0, 1, 1], refL⟩, ⟨13, [4, 1, 0, 1, 1], refLO⟩, ⟨17, [4, 1, 1], overL⟩, ⟨6, [4, 1, 0, 1, 1, 1, 1, 1, 1, 1, 1], flipL⟩]
def specsP : List (FuncId × CSpec) := [(25, tableC), (14, moreC), (14, moreCO), (13, refC), (13, refCO), (10, lentC), (9, awakeC), (5, knownC), (11, putC), (16, rputC), (18, keptC), (21, pk0C), (21, pk1C), (21, pk2C), (21, pk3C)]
def oversP : Overs := [(17, 5, .u8)]
theorem tabP_ok : TableOK Try.prog tabP F := tableCons moreL_holds (tableCons moreLO_holds (tableCons bitL_holds (tableCons bitLO_holds (tableCons refL_holds (tableCons refLO_holds (tableCons overL_holds (tableCons flipL_holds (tableNil _ _))))))))
theorem specsP_ok : SpecsOK Try.prog specsP F := specsCons tableC_holds (specsCons moreC_holds (specsCons moreCO_holds (specsCons refC_holds (specsCons refCO_holds (specsCons lentC_holds (specsCons awakeC_holds (specsCons knownC_holds (specsCons putC_holds (specsCons rputC_holds (specsCons keptC_holds (specsCons pk0C_holds (specsCons pk1C_holds (specsCons pk2C_holds (specsCons pk3C_holds (specsNil _ _)))))))))))))))
theorem oversP_ok : OversOK Try.prog oversP F := oversCons overV_holds (oversNil _ _)
end Go.Proofs.Ytdkkibhebfliiaa.Ga
