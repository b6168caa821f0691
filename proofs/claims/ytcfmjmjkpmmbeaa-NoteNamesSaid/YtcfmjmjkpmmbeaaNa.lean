/-
  Contracts of this seat: what loops and calls leave, for all inputs. No condition.
-/
import Derived.Test.YtcfmjmjkpmmbeaaSycp
import Derived.Test.YtcfmjmjkpmmbeaaCo
set_option linter.unusedSimpArgs false
set_option linter.unusedVariables false
namespace Go.Proofs.Ytcfmjmjkpmmbeaa.Na
open Go.RowKit Go.Ev Go.Proofs.Ytcfmjmjkpmmbeaa.Co


def F : Nat → D → D := fun _ x => x

def name1C : CSpec := ⟨[.int .i64 1], 0, [], [], .str (strOf [98, 101, 103, 105, 110]), [], []⟩
set_option maxRecDepth 100000 in
theorem name1C_y : endC name1C [] 1000 (callW Try.prog F noAsk [] [] [] 8000 80 27 name1C) = some [] := by kernel_rfl
theorem name1C_holds : CHolds Try.prog 27 name1C F := choldsW_of sound (tableNil _ _) (specsNil _ _) (oversNil _ _) (by kernel_rfl) fun d _ _ _ => ⟨noAsk, [], 1000, [], noAsk_ok _, name1C_y, fun p hp => by cases hp⟩

def name2C : CSpec := ⟨[.int .i64 2], 0, [], [], .str (strOf [112, 97, 114, 116]), [], []⟩
set_option maxRecDepth 100000 in
theorem name2C_y : endC name2C [] 1000 (callW Try.prog F noAsk [] [] [] 8000 80 27 name2C) = some [] := by kernel_rfl
theorem name2C_holds : CHolds Try.prog 27 name2C F := choldsW_of sound (tableNil _ _) (specsNil _ _) (oversNil _ _) (by kernel_rfl) fun d _ _ _ => ⟨noAsk, [], 1000, [], noAsk_ok _, name2C_y, fun p hp => by cases hp⟩

def name3C : CSpec := ⟨[.int .i64 3], 0, [], [], .str (strOf [113, 117, 101, 114, 121]), [], []⟩
set_option maxRecDepth 100000 in
theorem name3C_y : endC name3C [] 1000 (callW Try.prog F noAsk [] [] [] 8000 80 27 name3C) = some [] := by kernel_rfl
theorem name3C_holds : CHolds Try.prog 27 name3C F := choldsW_of sound (tableNil _ _) (specsNil _ _) (oversNil _ _) (by kernel_rfl) fun d _ _ _ => ⟨noAsk, [], 1000, [], noAsk_ok _, name3C_y, fun p hp => by cases hp⟩

def name4C : CSpec := ⟨[.int .i64 4], 0, [], [], .str (strOf [103, 105, 118, 101]), [], []⟩
set_option maxRecDepth 100000 in
theorem name4C_y : endC name4C [] 1000 (callW Try.prog F noAsk [] [] [] 8000 80 27 name4C) = some [] := by kernel_rfl
theorem name4C_holds : CHolds Try.prog 27 name4C F := choldsW_of sound (tableNil _ _) (specsNil _ _) (oversNil _ _) (by kernel_rfl) fun d _ _ _ => ⟨noAsk, [], 1000, [], noAsk_ok _, name4C_y, fun p hp => by cases hp⟩

def name5C : CSpec := ⟨[.int .i64 5], 0, [], [], .str (strOf [99, 111, 109, 109, 105, 116]), [], []⟩
set_option maxRecDepth 100000 in
theorem name5C_y : endC name5C [] 1000 (callW Try.prog F noAsk [] [] [] 8000 80 27 name5C) = some [] := by kernel_rfl
theorem name5C_holds : CHolds Try.prog 27 name5C F := choldsW_of sound (tableNil _ _) (specsNil _ _) (oversNil _ _) (by kernel_rfl) fun d _ _ _ => ⟨noAsk, [], 1000, [], noAsk_ok _, name5C_y, fun p hp => by cases hp⟩

def name6C : CSpec := ⟨[.int .i64 6], 0, [], [], .str (strOf [97, 98, 111, 114, 116]), [], []⟩
set_option maxRecDepth 100000 in
theorem name6C_y : endC name6C [] 1000 (callW Try.prog F noAsk [] [] [] 8000 80 27 name6C) = some [] := by kernel_rfl
theorem name6C_holds : CHolds Try.prog 27 name6C F := choldsW_of sound (tableNil _ _) (specsNil _ _) (oversNil _ _) (by kernel_rfl) fun d _ _ _ => ⟨noAsk, [], 1000, [], noAsk_ok _, name6C_y, fun p hp => by cases hp⟩

def name7C : CSpec := ⟨[.int .i64 7], 0, [], [], .str (strOf [108, 105, 115, 116]), [], []⟩
set_option maxRecDepth 100000 in
theorem name7C_y : endC name7C [] 1000 (callW Try.prog F noAsk [] [] [] 8000 80 27 name7C) = some [] := by kernel_rfl
theorem name7C_holds : CHolds Try.prog 27 name7C F := choldsW_of sound (tableNil _ _) (specsNil _ _) (oversNil _ _) (by kernel_rfl) fun d _ _ _ => ⟨noAsk, [], 1000, [], noAsk_ok _, name7C_y, fun p hp => by cases hp⟩

def name8C : CSpec := ⟨[.int .i64 8], 0, [], [], .str (strOf [114, 101, 115, 116, 111, 114, 101]), [], []⟩
set_option maxRecDepth 100000 in
theorem name8C_y : endC name8C [] 1000 (callW Try.prog F noAsk [] [] [] 8000 80 27 name8C) = some [] := by kernel_rfl
theorem name8C_holds : CHolds Try.prog 27 name8C F := choldsW_of sound (tableNil _ _) (specsNil _ _) (oversNil _ _) (by kernel_rfl) fun d _ _ _ => ⟨noAsk, [], 1000, [], noAsk_ok _, name8C_y, fun p hp => by cases hp⟩

def name9C : CSpec := ⟨[.int .i64 9], 0, [], [], .str (strOf [109, 111, 114, 101]), [], []⟩
set_option maxRecDepth 100000 in
theorem name9C_y : endC name9C [] 1000 (callW Try.prog F noAsk [] [] [] 8000 80 27 name9C) = some [] := by kernel_rfl
theorem name9C_holds : CHolds Try.prog 27 name9C F := choldsW_of sound (tableNil _ _) (specsNil _ _) (oversNil _ _) (by kernel_rfl) fun d _ _ _ => ⟨noAsk, [], 1000, [], noAsk_ok _, name9C_y, fun p hp => by cases hp⟩

def name10C : CSpec := ⟨[.int .i64 10], 0, [], [], .str (strOf [102, 101, 116, 99, 104]), [], []⟩
set_option maxRecDepth 100000 in
theorem name10C_y : endC name10C [] 1000 (callW Try.prog F noAsk [] [] [] 8000 80 27 name10C) = some [] := by kernel_rfl
theorem name10C_holds : CHolds Try.prog 27 name10C F := choldsW_of sound (tableNil _ _) (specsNil _ _) (oversNil _ _) (by kernel_rfl) fun d _ _ _ => ⟨noAsk, [], 1000, [], noAsk_ok _, name10C_y, fun p hp => by cases hp⟩

def name11C : CSpec := ⟨[.int .i64 11], 0, [], [], .str (strOf [118, 101, 114, 105, 102, 121]), [], []⟩
set_option maxRecDepth 100000 in
theorem name11C_y : endC name11C [] 1000 (callW Try.prog F noAsk [] [] [] 8000 80 27 name11C) = some [] := by kernel_rfl
theorem name11C_holds : CHolds Try.prog 27 name11C F := choldsW_of sound (tableNil _ _) (specsNil _ _) (oversNil _ _) (by kernel_rfl) fun d _ _ _ => ⟨noAsk, [], 1000, [], noAsk_ok _, name11C_y, fun p hp => by cases hp⟩

def name12C : CSpec := ⟨[.int .i64 12], 0, [], [], .str (strOf [102, 111, 114, 103, 101, 116]), [], []⟩
set_option maxRecDepth 100000 in
theorem name12C_y : endC name12C [] 1000 (callW Try.prog F noAsk [] [] [] 8000 80 27 name12C) = some [] := by kernel_rfl
theorem name12C_holds : CHolds Try.prog 27 name12C F := choldsW_of sound (tableNil _ _) (specsNil _ _) (oversNil _ _) (by kernel_rfl) fun d _ _ _ => ⟨noAsk, [], 1000, [], noAsk_ok _, name12C_y, fun p hp => by cases hp⟩

def name13C : CSpec := ⟨[.int .i64 13], 0, [], [], .str (strOf [112, 114, 117, 110, 101]), [], []⟩
set_option maxRecDepth 100000 in
theorem name13C_y : endC name13C [] 1000 (callW Try.prog F noAsk [] [] [] 8000 80 27 name13C) = some [] := by kernel_rfl
theorem name13C_holds : CHolds Try.prog 27 name13C F := choldsW_of sound (tableNil _ _) (specsNil _ _) (oversNil _ _) (by kernel_rfl) fun d _ _ _ => ⟨noAsk, [], 1000, [], noAsk_ok _, name13C_y, fun p hp => by cases hp⟩

def name14C : CSpec := ⟨[.int .i64 14], 0, [], [], .str (strOf [117, 115, 97, 103, 101]), [], []⟩
set_option maxRecDepth 100000 in
theorem name14C_y : endC name14C [] 1000 (callW Try.prog F noAsk [] [] [] 8000 80 27 name14C) = some [] := by kernel_rfl
theorem name14C_holds : CHolds Try.prog 27 name14C F := choldsW_of sound (tableNil _ _) (specsNil _ _) (oversNil _ _) (by kernel_rfl) fun d _ _ _ => ⟨noAsk, [], 1000, [], noAsk_ok _, name14C_y, fun p hp => by cases hp⟩

def name15C : CSpec := ⟨[.int .i64 15], 0, [], [], .str (strOf [112, 105, 110, 103]), [], []⟩
set_option maxRecDepth 100000 in
theorem name15C_y : endC name15C [] 1000 (callW Try.prog F noAsk [] [] [] 8000 80 27 name15C) = some [] := by kernel_rfl
theorem name15C_holds : CHolds Try.prog 27 name15C F := choldsW_of sound (tableNil _ _) (specsNil _ _) (oversNil _ _) (by kernel_rfl) fun d _ _ _ => ⟨noAsk, [], 1000, [], noAsk_ok _, name15C_y, fun p hp => by cases hp⟩

def name16C : CSpec := ⟨[.int .i64 16], 0, [], [], .str (strOf [114, 101, 97, 100, 121]), [], []⟩
set_option maxRecDepth 100000 in
theorem name16C_y : endC name16C [] 1000 (callW Try.prog F noAsk [] [] [] 8000 80 27 name16C) = some [] := by kernel_rfl
theorem name16C_holds : CHolds Try.prog 27 name16C F := choldsW_of sound (tableNil _ _) (specsNil _ _) (oversNil _ _) (by kernel_rfl) fun d _ _ _ => ⟨noAsk, [], 1000, [], noAsk_ok _, name16C_y, fun p hp => by cases hp⟩

def name17C : CSpec := ⟨[.int .i64 17], 0, [], [], .str (strOf [104, 97, 118, 101]), [], []⟩
set_option maxRecDepth 100000 in
theorem name17C_y : endC name17C [] 1000 (callW Try.prog F noAsk [] [] [] 8000 80 27 name17C) = some [] := by kernel_rfl
theorem name17C_holds : CHolds Try.prog 27 name17C F := choldsW_of sound (tableNil _ _) (specsNil _ _) (oversNil _ _) (by kernel_rfl) fun d _ _ _ => ⟨noAsk, [], 1000, [], noAsk_ok _, name17C_y, fun p hp => by cases hp⟩

def name18C : CSpec := ⟨[.int .i64 18], 0, [], [], .str (strOf [116, 111, 111, 107]), [], []⟩
set_option maxRecDepth 100000 in
theorem name18C_y : endC name18C [] 1000 (callW Try.prog F noAsk [] [] [] 8000 80 27 name18C) = some [] := by kernel_rfl
theorem name18C_holds : CHolds Try.prog 27 name18C F := choldsW_of sound (tableNil _ _) (specsNil _ _) (oversNil _ _) (by kernel_rfl) fun d _ _ _ => ⟨noAsk, [], 1000, [], noAsk_ok _, name18C_y, fun p hp => by cases hp⟩

def name19C : CSpec := ⟨[.int .i64 19], 0, [], [], .str (strOf [100, 111, 110, 101]), [], []⟩
set_option maxRecDepth 100000 in
theorem name19C_y : endC name19C [] 1000 (callW Try.prog F noAsk [] [] [] 8000 80 27 name19C) = some [] := by kernel_rfl
theorem name19C_holds : CHolds Try.prog 27 name19C F := choldsW_of sound (tableNil _ _) (specsNil _ _) (oversNil _ _) (by kernel_rfl) fun d _ _ _ => ⟨noAsk, [], 1000, [], noAsk_ok _, name19C_y, fun p hp => by cases hp⟩

def name20C : CSpec := ⟨[.int .i64 20], 0, [], [], .str (strOf [102, 97, 105, 108]), [], []⟩
set_option maxRecDepth 100000 in
theorem name20C_y : endC name20C [] 1000 (callW Try.prog F noAsk [] [] [] 8000 80 27 name20C) = some [] := by kernel_rfl
theorem name20C_holds : CHolds Try.prog 27 name20C F := choldsW_of sound (tableNil _ _) (specsNil _ _) (oversNil _ _) (by kernel_rfl) fun d _ _ _ => ⟨noAsk, [], 1000, [], noAsk_ok _, name20C_y, fun p hp => by cases hp⟩

def name21C : CSpec := ⟨[.int .i64 21], 0, [], [], .str (strOf [115, 110, 97, 112, 115]), [], []⟩
set_option maxRecDepth 100000 in
theorem name21C_y : endC name21C [] 1000 (callW Try.prog F noAsk [] [] [] 8000 80 27 name21C) = some [] := by kernel_rfl
theorem name21C_holds : CHolds Try.prog 27 name21C F := choldsW_of sound (tableNil _ _) (specsNil _ _) (oversNil _ _) (by kernel_rfl) fun d _ _ _ => ⟨noAsk, [], 1000, [], noAsk_ok _, name21C_y, fun p hp => by cases hp⟩

def name22C : CSpec := ⟨[.int .i64 22], 0, [], [], .str (strOf [112, 105, 101, 99, 101]), [], []⟩
set_option maxRecDepth 100000 in
theorem name22C_y : endC name22C [] 1000 (callW Try.prog F noAsk [] [] [] 8000 80 27 name22C) = some [] := by kernel_rfl
theorem name22C_holds : CHolds Try.prog 27 name22C F := choldsW_of sound (tableNil _ _) (specsNil _ _) (oversNil _ _) (by kernel_rfl) fun d _ _ _ => ⟨noAsk, [], 1000, [], noAsk_ok _, name22C_y, fun p hp => by cases hp⟩

def name23C : CSpec := ⟨[.int .i64 23], 0, [], [], .str (strOf [99, 104, 117, 110, 107]), [], []⟩
set_option maxRecDepth 100000 in
theorem name23C_y : endC name23C [] 1000 (callW Try.prog F noAsk [] [] [] 8000 80 27 name23C) = some [] := by kernel_rfl
theorem name23C_holds : CHolds Try.prog 27 name23C F := choldsW_of sound (tableNil _ _) (specsNil _ _) (oversNil _ _) (by kernel_rfl) fun d _ _ _ => ⟨noAsk, [], 1000, [], noAsk_ok _, name23C_y, fun p hp => by cases hp⟩

def name24C : CSpec := ⟨[.int .i64 24], 0, [], [], .str (strOf [99, 111, 117, 110, 116]), [], []⟩
set_option maxRecDepth 100000 in
theorem name24C_y : endC name24C [] 1000 (callW Try.prog F noAsk [] [] [] 8000 80 27 name24C) = some [] := by kernel_rfl
theorem name24C_holds : CHolds Try.prog 27 name24C F := choldsW_of sound (tableNil _ _) (specsNil _ _) (oversNil _ _) (by kernel_rfl) fun d _ _ _ => ⟨noAsk, [], 1000, [], noAsk_ok _, name24C_y, fun p hp => by cases hp⟩

def awakeC : CSpec := ⟨[], 0, [], [], .bool true, [], []⟩
set_option maxRecDepth 100000 in
theorem awakeC_y : endC awakeC [] 1000 (callW Try.prog F noAsk [] [] [] 8000 80 20 awakeC) = some [] := by kernel_rfl
theorem awakeC_holds : CHolds Try.prog 20 awakeC F := choldsW_of sound (tableNil _ _) (specsNil _ _) (oversNil _ _) (by kernel_rfl) fun d _ _ _ => ⟨noAsk, [], 1000, [], noAsk_ok _, awakeC_y, fun p hp => by cases hp⟩

def tab : List LEntry := []
def specs : List (FuncId × CSpec) := [(27, name1C), (27, name2C), (27, name3C), (27, name4C), (27, name5C), (27, name6C), (27, name7C), (27, name8C), (27, name9C), (27, name10C), (27, name11C), (27, name12C), (27, name13C), (27, name14C), (27, name15C), (27, name16C), (27, name17C), (27, name18C), (27, name19C), (27, name20C), (27, name21C), (27, name22C), (27, name23C), (27, name24C), (20, awakeC)]
def overs : Overs := []
theorem tab_ok : TableOK Try.prog tab F := tableNil _ _
theorem specs_ok : SpecsOK Try.prog specs F := specsCons name1C_holds (specsCons name2C_holds (specsCons name3C_holds (specsCons name4C_holds (specsCons name5C_holds (specsCons name6C_holds (specsCons name7C_holds (specsCons name8C_holds (specsCons name9C_holds (specsCons name10C_holds (specsCons name11C_holds (specsCons name12C_holds (specsCons name13C_holds (specsCons name14C_holds (specsCons name15C_holds (specsCons name16C_holds (specsCons name17C_holds (specsCons name18C_holds (specsCons name19C_holds (specsCons name20C_holds (specsCons name21C_holds (specsCons name22C_holds (specsCons name23C_holds (specsCons name24C_holds (specsCons awakeC_holds (specsNil _ _)))))))))))))))))))))))))
theorem overs_ok : OversOK Try.prog overs F := oversNil _ _
end Go.Proofs.Ytcfmjmjkpmmbeaa.Na
