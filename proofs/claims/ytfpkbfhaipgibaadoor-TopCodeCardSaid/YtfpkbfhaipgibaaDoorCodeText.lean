/- keyholdref.CodeText, walked. -/
import Derived.Test.YtfpkbfhaipgibaaDoorTextWalk
import Derived.Deep.QuietTactic
import Derived.BigQuiet
namespace Go.Proofs.YtfpkbfhaipgibaaDoor.Txt
open Go.RowKit Go.Proofs.YtfpkbfhaipgibaaDoor.Mem Go.Proofs.YtfpkbfhaipgibaaDoor.Isa

def textB (zs : List (Int × Int × Int × Int)) : ByteArray := ⟨(textL zs).toArray⟩
theorem textB_size (zs : List (Int × Int × Int × Int)) : (textB zs).size = (textL zs).length := by
  unfold textB
  rfl
theorem ba_ext {a b : ByteArray} (h : a.data.toList = b.data.toList) : a = b := by
  apply ByteArray.ext
  exact Array.toList_inj.1 h
theorem app_list (a b : ByteArray) : (a ++ b).data.toList = a.data.toList ++ b.data.toList := by
  rw [ByteArray.data_append, Array.toList_append]
theorem textB_list (zs : List (Int × Int × Int × Int)) : (textB zs).data.toList = textL zs := rfl
theorem textB_snoc (zs : List (Int × Int × Int × Int)) (k : Nat) (h : k < zs.length) (o a c i : Int) (hq : zs[k] = (o, a, c, i)) :
    textB (zs.take (k + 1)) = textB (zs.take k) ++ lineB o a c i ++ ⟨#[10]⟩ := by
  apply ba_ext
  rw [app_list, app_list, textB_list, textB_list, textL_snoc zs k h, hq, List.append_assoc]
  rfl
theorem assoc3 (a b c : ByteArray) : a ++ (b ++ c) = a ++ b ++ c := by
  apply ba_ext
  simp only [app_list, List.append_assoc]
end Go.Proofs.YtfpkbfhaipgibaaDoor.Txt
