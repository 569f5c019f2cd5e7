import Derived.Test.YtjahbjjekednfabDoorD4
import Derived.Test.YtjahbjjekednfabDoorD6
import Derived.Test.YtjahbjjekednfabDoorT1
import Derived.Test.YtjahbjjekednfabDoorT2
import Derived.Test.YtjahbjjekednfabDoorT3
import Derived.Test.YtjahbjjekednfabDoorT4
namespace Go.Proofs.YtjahbjjekednfabDoor
open Go.RowKit

theorem chk_all {d : Nat} (h : d ≤ 2000) : chk d = true := by
 by_cases h1 : d < 800
 ·exact chkAll_at _ _ d tab1 (by omega) (by omega)
 by_cases h2 : d < 1300
 ·exact chkAll_at _ _ d tab2 (by omega) (by omega)
 by_cases h3 : d < 1700
 ·exact chkAll_at _ _ d tab3 (by omega) (by omega)
 exact chkAll_at _ _ d tab4 (by omega) (by omega)
theorem PellAt.uni {d : Int} {J J' : Nat} (h : PellAt d J) (h' : PellAt d J') : J = J' := by
 rcases Nat.lt_trichotomy J J' with e | e | e
 ·exact absurd h.yes (h'.no J h.pos e)
 ·exact e
 ·exact absurd h'.yes (h.no J' h'.pos e)
theorem pell_both {n : Nat} (hn : n ≤ 2000) (hs : ∀ m, m * m ≠ n) : ∃ J x y, PellAt n J ∧ (cv 0 1 n J).lp = (x : Nat) ∧ (cv 0 1 n J).lq = (y : Nat) ∧ crun n 300 (m0 n 50 1) 1 (((m0 n 50 1 : Nat) : Int) * ((m0 n 50 1 : Nat) : Int) - (n : Int)) = some (x, y) := by
 obtain ⟨m, x, y, h0, h1, h2, h3⟩ := chk_runs (chk_all hn) hn hs
 obtain ⟨J, k1, k2, k3⟩ := pell_link h0 h1 hn h2
 exact ⟨J, x, y, k1, k2, k3, h3⟩
set_option maxHeartbeats 800000 in
theorem nump_any (n : Int) (w : World) : Calls Tryd.prog 19 #[.int .i64 n] w (RetV w (.int .i64 n)) := by
 go_enter Tryd.func19, Tryd.ntmps19
 go_wp2_with fail
 go_ret
 exact ⟨rfl, Below.refl _ _⟩
/-- The reference tells what the program tells. -/
theorem rpell_any (d : Int) (s1 s2 : ByteArray) (er : Int) (w : World) (h0 : -9223372036854775808 ≤ d) (h1 : d ≤ 9223372036854775807) (ho : OutP d s1 s2 er) : Calls Tryd.prog 18 #[.int .i64 d] w (RetV w (.tuple #[.string s1, .string s2, .int .i64 er])) := by
 rcases ho with ⟨rfl, rfl, rfl, h⟩ | ⟨rfl, h2, h3, hs, J, hJ, rfl, rfl⟩
 ·by_cases hb : d < 2 ∨ 2000 < d
  ·exact rpell_bad d w h0 h1 hb
  ·obtain ⟨n, rfl⟩ : ∃ n : Nat, d = n := ⟨d.toNat, by omega⟩
   rcases h with h | h | ⟨m, hm⟩
   ·omega
   ·omega
   ·exact rpell_sq n m w (by omega) (by omega) (by omega)
 ·obtain ⟨n, rfl⟩ : ∃ n : Nat, d = n := ⟨d.toNat, by omega⟩
  have hs' : ∀ m, m * m ≠ n := fun m hm => hs m (by rw [hm])
  obtain ⟨J', x, y, k1, k2, k3, k4⟩ := pell_both (n := n) (by omega) hs'
  obtain rfl := hJ.uni k1
  obtain ⟨f1, f2⟩ := pellAt_fit (d := n) (by omega) hJ
  rw [k2] at f1
  rw [k3] at f2
  rw [k2, k3]
  exact rpell_ok n x y w (by omega) (by omega) hs' ⟨f1.mono (by decide), f2.mono (by decide)⟩ k4

set_option maxHeartbeats 1600000 in
set_option maxRecDepth 100000 in
/-- surdlaw.Pells. -/
theorem pells_any (d : Int) (w : World) (h0 : -9223372036854775808 ≤ d) (h1 : d ≤ 9223372036854775807) (ht : Tens w) : Calls Tryd.prog 5 #[.int .i64 d] w (RetV w (.bool true)) := by
 have H1 := fun W (hT : Tens W) => spell_any d W hT (fun n _ hn hs => by
  obtain ⟨J, _, _, k1, _⟩ := pell_both (n := n) hn hs
  exact ⟨J, k1⟩)
 have H2 := Hid.mk (fun (s1 s2 : ByteArray) (er : Int) (ho : OutP d s1 s2 er) (W : World) => rpell_any d s1 s2 er W h0 h1 ho)
 have H3 := fun (n : Int) (W : World) => nump_any n W
 clear h0 h1
 go_enter Tryd.func5, Tryd.ntmps5
 go_wp2_with fail
 refine (H1 _ ht).mono ?_
 rintro e w1 ⟨s1, s2, er, rfl, HO1, hk1⟩
 have H4 := H2.out s1 s2 er HO1.out
 have e1 : (s1.toList == s1.toList) = true := by simp
 have e2 : (s2.toList == s2.toList) = true := by simp
 have e3 : (er == er) = true := by simp
 clear HO1 H2
 go_wp2_with fail
 refine (H4 _).mono ?_
 rintro e w2 ⟨rfl, hk2⟩
 go_wp2_with fail
 refine (H3 er _).mono ?_
 rintro e w3 ⟨rfl, hk3⟩
 go_wp2_with fail
 go_ret
 exact ⟨rfl, (hk1.trans' hk2).trans' hk3⟩

end Go.Proofs.YtjahbjjekednfabDoor
