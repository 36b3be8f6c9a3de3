/- parts.alike's one region draws its order and only reads: the Bool that its walk wants. -/
import Derived.Test.YtacpjedncjpmpaaGreatDoorGLex
namespace Go.Proofs.YtacpjedncjpmpaaGreatDoor.Wd
theorem al_n : (regF Tryz.f27 1).size = 97 := by kernel_rfl
theorem al_s : Region.noSelect (regF Tryz.f27 1) = true := by kernel_rfl
theorem al_0 : (List.range' 0 14).all (lexAt (regF Tryz.f27 1)) = true := by kernel_rfl
theorem al_14 : (List.range' 14 14).all (lexAt (regF Tryz.f27 1)) = true := by kernel_rfl
theorem al_28 : (List.range' 28 14).all (lexAt (regF Tryz.f27 1)) = true := by kernel_rfl
theorem al_42 : (List.range' 42 14).all (lexAt (regF Tryz.f27 1)) = true := by kernel_rfl
theorem al_56 : (List.range' 56 14).all (lexAt (regF Tryz.f27 1)) = true := by kernel_rfl
theorem al_70 : (List.range' 70 14).all (lexAt (regF Tryz.f27 1)) = true := by kernel_rfl
theorem al_84 : (List.range' 84 13).all (lexAt (regF Tryz.f27 1)) = true := by kernel_rfl
theorem al_lex : Region.lexB .any (regF Tryz.f27 1) = true := lexB_of al_s fun k hk => by
 rw [al_n] at hk
 by_cases h0 : k < 14
 ·exact all_at al_0 k (by omega) (by omega)
 by_cases h14 : k < 28
 ·exact all_at al_14 k (by omega) (by omega)
 by_cases h28 : k < 42
 ·exact all_at al_28 k (by omega) (by omega)
 by_cases h42 : k < 56
 ·exact all_at al_42 k (by omega) (by omega)
 by_cases h56 : k < 70
 ·exact all_at al_56 k (by omega) (by omega)
 by_cases h70 : k < 84
 ·exact all_at al_70 k (by omega) (by omega)
 exact all_at al_84 k (by omega) (by omega)
end Go.Proofs.YtacpjedncjpmpaaGreatDoor.Wd
