/- What the program's functions of package prod answer, over numbers at hand: the condition ProdTold, paid by their contracts. -/
import Derived.Test.YtjakmpphfjhbaaaProdE
import Derived.Test.YtjakmpphfjhbaaaPAll
import Derived.Test.YtjakmpphfjhbaaaPPow
import Derived.Test.YtjakmpphfjhbaaaPShift
namespace Go.Proofs.Ytjakmpphfjhbaaa
open Go Go.RowKit

theorem prodTold : ProdTold where
  mul := fun _ W e x y h hx hy bx by' => by
    obtain ⟨a1, a2, a3, _⟩ := h.2 x hx
    obtain ⟨b1, b2, b3, _⟩ := h.2 y hy
    exact (pMul_any W _ _ _ _ _ _ _ _ a1 b1 a2 a3 b2 b3 (by omega) (by omega)).mono fun _ _ hg => back_of_gives h hg (Nat.le_trans (mul_len a1.1 b1.1) (by omega))
  by_ := fun _ W e x M h hx bx hM => by
    obtain ⟨a1, a2, a3, _⟩ := h.2 x hx
    exact (pBy_any W _ _ _ _ _ a1 a2 a3 (by omega) hM).mono fun _ _ hg => back_of_gives h hg (Nat.le_trans (mul_len (m := 1) a1.1 (by rw [Nat.pow_one, Bw_eq]; exact hM)) (by omega))
  all := fun _ W e A c l h hR hnc hcb hl hb hs => (pAll_any W A c l hR hnc hcb (by omega) hb).mono fun _ _ hg => back_of_gives h hg (by have := hs l.length; rw [prodAt_all] at this; omega)
  bits := fun _ W e x h hx bx => by
    obtain ⟨a1, a2, a3, _⟩ := h.2 x hx
    exact (pBits_any W _ _ _ _ _ a1 a2 a3 (by omega)).mono fun _ _ ⟨he, hw⟩ => ⟨he, hw ▸ h⟩
  pow := fun _ W e x k h hx bx hk => by
    obtain ⟨a1, a2, a3, _⟩ := h.2 x hx
    exact (pPow_any W _ _ _ _ _ a1 a2 a3 (by omega) hk).mono fun _ _ hg => back_of_gives h hg (by
      have h1 := pow_len a1.1 (min k.toNat 256)
      have h2 : x.n * min k.toNat 256 ≤ 1000 * 256 := Nat.mul_le_mul bx (by omega)
      omega)
  up := fun _ W e x k h hx bx hk => by
    obtain ⟨a1, a2, a3, _⟩ := h.2 x hx
    exact (pUp_any W _ _ _ _ _ a1 a2 a3 (by omega) hk).mono fun _ _ hg => back_of_gives h hg (by have := up_len a1.1 (min k.toNat 65536); omega)
  down := fun _ W e x k h hx bx hk => by
    obtain ⟨a1, a2, a3, _⟩ := h.2 x hx
    exact (pDown_any W _ _ _ _ _ a1 a2 a3 (by omega) hk).mono fun _ _ hg => back_of_gives h hg (by have := lenL_mono (Nat.div_le_self x.N (2 ^ min k.toNat 65536)); have := lenL_le.2 a1.1; omega)
end Go.Proofs.Ytjakmpphfjhbaaa
