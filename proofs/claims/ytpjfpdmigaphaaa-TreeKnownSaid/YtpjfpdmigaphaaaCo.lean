/-
  What the texts of this seat share: the program is one that the evaluator serves; what the package variables hold that the program lays; some calls, gone through one by one. No condition.
-/
import Derived.Test.YtpjfpdmigaphaaaSyn
import Derived.Test.YtpjfpdmigaphaaaRows
import Derived.LaidMore
import Derived.Stop.Joined
set_option linter.unusedSimpArgs false
set_option linter.unusedVariables false
namespace Go.Proofs.Ytpjfpdmigaphaaa.Co
open Go.ChangeShapes Go.WideShapes Go.ChangeAt Go.RowKit Go.Ev

theorem own : ownKnob Try.prog.godebug = none := by kernel_rfl
theorem laid : laidOutB Try.prog = true := by kernel_rfl
theorem sound : Sound Try.prog where
  mixed := by kernel_rfl
  names f fn c hf hb := by
    have hall : Try.prog.funcs.all (fun fn => fn.body.isNone || !(fn.name == "runtime.NumGoroutine")) = true := by kernel_rfl
    have := Array.all_eq_true_iff_forall_mem.1 hall fn (Array.mem_of_getElem? hf)
    simpa [hb] using this

def g0 : List (Nat × List AV) := []
abbrev laidL : List (String × DataW Unit) := []

theorem globs0 (Ω : Om) (W : World) : GlobsR Ω W g0 := fun p hp => by simp [g0] at hp

def m0 : Memo := ⟨63, [.str ⟨#[97]⟩], .agg [.int .i64 0, .int .i64 0]⟩
theorem y0 : memoYes Try.prog [] g0 8000 80 m0 = true := by kernel_rfl

def m1 : Memo := ⟨36, [.str ⟨#[97]⟩], .tuple [.str ⟨#[]⟩, .bool false]⟩
theorem y1 : memoYes Try.prog [] g0 8000 80 m1 = true := by kernel_rfl

def m2 : Memo := ⟨63, [.str ⟨#[97, 47, 98]⟩], .agg [.int .i64 0, .int .i64 0]⟩
theorem y2 : memoYes Try.prog [] g0 8000 80 m2 = true := by kernel_rfl

def m3 : Memo := ⟨37, [.str ⟨#[97]⟩, .str ⟨#[97, 47, 98]⟩], .int .i64 (-1)⟩
theorem y3 : memoYes Try.prog [] g0 8000 80 m3 = true := by kernel_rfl

def m4 : Memo := ⟨36, [.str ⟨#[97, 47, 98]⟩], .tuple [.str ⟨#[97]⟩, .bool true]⟩
theorem y4 : memoYes Try.prog [] g0 8000 80 m4 = true := by kernel_rfl

def m5 : Memo := ⟨37, [.str ⟨#[97]⟩, .str ⟨#[97]⟩], .int .i64 0⟩
theorem y5 : memoYes Try.prog [] g0 8000 80 m5 = true := by kernel_rfl

def m6 : Memo := ⟨63, [.str ⟨#[99]⟩], .agg [.int .i64 0, .int .i64 0]⟩
theorem y6 : memoYes Try.prog [] g0 8000 80 m6 = true := by kernel_rfl

def m7 : Memo := ⟨37, [.str ⟨#[97, 47, 98]⟩, .str ⟨#[99]⟩], .int .i64 (-1)⟩
theorem y7 : memoYes Try.prog [] g0 8000 80 m7 = true := by kernel_rfl

def m8 : Memo := ⟨36, [.str ⟨#[99]⟩], .tuple [.str ⟨#[]⟩, .bool false]⟩
theorem y8 : memoYes Try.prog [] g0 8000 80 m8 = true := by kernel_rfl

def m9 : Memo := ⟨37, [.str ⟨#[97, 47, 98]⟩, .str ⟨#[98]⟩], .int .i64 (-1)⟩
theorem y9 : memoYes Try.prog [] g0 8000 80 m9 = true := by kernel_rfl

def m10 : Memo := ⟨37, [.str ⟨#[99]⟩, .str ⟨#[98]⟩], .int .i64 1⟩
theorem y10 : memoYes Try.prog [] g0 8000 80 m10 = true := by kernel_rfl

def m11 : Memo := ⟨37, [.str ⟨#[97, 47, 98]⟩, .str ⟨#[97]⟩], .int .i64 1⟩
theorem y11 : memoYes Try.prog [] g0 8000 80 m11 = true := by kernel_rfl

def m12 : Memo := ⟨63, [.str ⟨#[100]⟩], .agg [.int .i64 0, .int .i64 0]⟩
theorem y12 : memoYes Try.prog [] g0 8000 80 m12 = true := by kernel_rfl

def m13 : Memo := ⟨37, [.str ⟨#[97, 47, 98]⟩, .str ⟨#[100]⟩], .int .i64 (-1)⟩
theorem y13 : memoYes Try.prog [] g0 8000 80 m13 = true := by kernel_rfl

def m14 : Memo := ⟨36, [.str ⟨#[100]⟩], .tuple [.str ⟨#[]⟩, .bool false]⟩
theorem y14 : memoYes Try.prog [] g0 8000 80 m14 = true := by kernel_rfl

def m15 : Memo := ⟨37, [.str ⟨#[97, 47, 98]⟩, .str ⟨#[97, 47, 98]⟩], .int .i64 0⟩
theorem y15 : memoYes Try.prog [] g0 8000 80 m15 = true := by kernel_rfl

def m16 : Memo := ⟨37, [.str ⟨#[99]⟩, .str ⟨#[100]⟩], .int .i64 (-1)⟩
theorem y16 : memoYes Try.prog [] g0 8000 80 m16 = true := by kernel_rfl

def m17 : Memo := ⟨37, [.str ⟨#[99]⟩, .str ⟨#[97]⟩], .int .i64 1⟩
theorem y17 : memoYes Try.prog [] g0 8000 80 m17 = true := by kernel_rfl

def m18 : Memo := ⟨38, [.str ⟨#[97, 47, 98]⟩, .str ⟨#[97]⟩], .bool true⟩
theorem y18 : memoYes Try.prog [] g0 8000 80 m18 = true := by kernel_rfl

def m19 : Memo := ⟨38, [.str ⟨#[99]⟩, .str ⟨#[97]⟩], .bool false⟩
theorem y19 : memoYes Try.prog [] g0 8000 80 m19 = true := by kernel_rfl

def memos : List Memo := [m19, m18, m17, m16, m15, m14, m13, m12, m11, m10, m9, m8, m7, m6, m5, m4, m3, m2, m1, m0]
theorem memos_ok {Ω : Om} {W : World} (h : GlobsR Ω W g0) : CallOK Try.prog Ω ⟨W, fun _ => true⟩ (memoCall memos) :=
  memo_ok sound h (memo_ok sound h (memo_ok sound h (memo_ok sound h (memo_ok sound h (memo_ok sound h (memo_ok sound h (memo_ok sound h (memo_ok sound h (memo_ok sound h (memo_ok sound h (memo_ok sound h (memo_ok sound h (memo_ok sound h (memo_ok sound h (memo_ok sound h (memo_ok sound h (memo_ok sound h (memo_ok sound h (memo_ok sound h (memoNil_ok _ _ _) m0 _ _ (fun _ _ _ => memoNil_ok _ _ _) y0) m1 _ _ (fun _ _ _ => memoNil_ok _ _ _) y1) m2 _ _ (fun _ _ _ => memoNil_ok _ _ _) y2) m3 _ _ (fun _ _ _ => memoNil_ok _ _ _) y3) m4 _ _ (fun _ _ _ => memoNil_ok _ _ _) y4) m5 _ _ (fun _ _ _ => memoNil_ok _ _ _) y5) m6 _ _ (fun _ _ _ => memoNil_ok _ _ _) y6) m7 _ _ (fun _ _ _ => memoNil_ok _ _ _) y7) m8 _ _ (fun _ _ _ => memoNil_ok _ _ _) y8) m9 _ _ (fun _ _ _ => memoNil_ok _ _ _) y9) m10 _ _ (fun _ _ _ => memoNil_ok _ _ _) y10) m11 _ _ (fun _ _ _ => memoNil_ok _ _ _) y11) m12 _ _ (fun _ _ _ => memoNil_ok _ _ _) y12) m13 _ _ (fun _ _ _ => memoNil_ok _ _ _) y13) m14 _ _ (fun _ _ _ => memoNil_ok _ _ _) y14) m15 _ _ (fun _ _ _ => memoNil_ok _ _ _) y15) m16 _ _ (fun _ _ _ => memoNil_ok _ _ _) y16) m17 _ _ (fun _ _ _ => memoNil_ok _ _ _) y17) m18 _ _ (fun _ _ _ => memoNil_ok _ _ _) y18) m19 _ _ (fun _ _ _ => memoNil_ok _ _ _) y19
end Go.Proofs.Ytpjfpdmigaphaaa.Co
