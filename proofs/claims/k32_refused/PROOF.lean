import PyProof.Rows.All
import Wide.All
import OpenK.AllK
import Wide.FinOn
import HandS.ForMost
import HandS.ForExc
import HandS.Wide
import HandS.Gcd
import HandS.Evl
import HandS.Walk
import HandS.More
import HandS.FStr
import HandS.IsInst
import HandS.RaiseMore
import HandS.Style
import HandS.ExcValue
import HandS.ExcIs
import HandS.Lambda
import HandS.EndTab
import HandS.EndOwn
import PyProof.TypeEq
import PyProof.ReprLen
import PySem.Challenge.RW_laterless_k32_numbers_refused
set_option Elab.async false
set_option linter.all false
set_option maxRecDepth 100000
set_option maxHeartbeats 4000000
namespace My
open PySem PySem.Spec PyProof.Rows L2
/-! ### the text by places -/
def topS (i : Nat) : Stmt := PySem.Challenge.pw_laterless_k32_numbers_refused.main.body.getD i (.Pass ⟨0, 0, 0, 0⟩)
abbrev sSpread : Stmt := topS 26
abbrev sOpen : Stmt := topS 27
abbrev sTake : Stmt := topS 28
abbrev sPick : Stmt := topS 29
theorem scSpread : FnScope ["cell", "at", "primes", "one", "two", "three"] ["cell", "at"] (defScope sSpread) := ⟨rfl, rfl, rfl, by decide +kernel, rfl, by decide +kernel, by decide +kernel⟩
theorem scOpen : FnScope ["script", "cells", "nth", "cell"] ["script"] (defScope sOpen) := ⟨rfl, rfl, rfl, by decide +kernel, rfl, by decide +kernel, by decide +kernel⟩
theorem scTake : FnScope ["pen", "many", "at", "cell", "found"] ["pen", "many"] (defScope sTake) := ⟨rfl, rfl, rfl, by decide +kernel, rfl, by decide +kernel, by decide +kernel⟩
theorem scPick : FnScope ["pen", "some"] ["pen", "some"] (defScope sPick) := ⟨rfl, rfl, rfl, by decide +kernel, rfl, by decide +kernel, by decide +kernel⟩
/-! ### heaps -/
theorem same_upd {H : Hp} {p : Addr} {o : HO} (h : H p = none) : Same H (upd H p o) := fun b x e => by
  rw [upd_ne (ne_of_none e h)]
  exact e
/-- all tracked things but the one at p stand as they stood -/
def But (p : Addr) (H H' : Hp) : Prop := ∀ b o, b ≠ p → H b = some o → H' b = some o
theorem But.of {p : Addr} {H H' : Hp} (s : Same H H') : But p H H' := fun b o _ e => s b o e
theorem But.trans {p : Addr} {H H1 H2 : Hp} (a : But p H H1) (b : But p H1 H2) : But p H H2 := fun c o n e => b c o n (a c o n e)
theorem but_upd {H : Hp} {p : Addr} {o : HO} : But p H (upd H p o) := fun b x n e => by
  rw [upd_ne n]
  exact e
/-- a pen stands at p: a list of the list of cells (at c), the number of cells read so far, at most n, and what is left of the last one -/
structure Pen (H : Hp) (p : Addr) (n : Nat) : Prop where
  ex : ∃ (c : Addr) (cs : List Int) (a r : Int), H p = some (.lst [.ref c, .int a, .int r]) ∧ H c = some (.lst (cs.map V.int)) ∧ c ≠ p ∧ cs.length ≤ 12 ∧ 0 ≤ a ∧ a ≤ (n : Int) ∧ 0 ≤ r
theorem Pen.same {H H' : Hp} {p : Addr} {n : Nat} (h : Pen H p n) (s : Same H H') : Pen H' p n := by
  obtain ⟨c, cs, a, r, h1, h2, h3⟩ := h.ex
  exact ⟨c, cs, a, r, s _ _ h1, s _ _ h2, h3⟩
theorem Pen.mono {H : Hp} {p : Addr} {n m : Nat} (h : Pen H p n) (l : n ≤ m) : Pen H p m := by
  obtain ⟨c, cs, a, r, h1, h2, h3, h4, h5, h6, h7⟩ := h.ex
  exact ⟨c, cs, a, r, h1, h2, h3, h4, h5, by omega, h7⟩
theorem Pen.ls {H : Hp} {p : Addr} {n : Nat} (h : Pen H p n) : ∃ xs, H p = some (.lst xs) := by
  obtain ⟨c, cs, a, r, h1, _⟩ := h.ex
  exact ⟨_, h1⟩
/-! ### the promises -/
def spSpread : Sp := fun vs H Q _ => ∃ (c a : Int), vs = [.int c, .int a] ∧ 0 ≤ a ∧ a < 1048576 ∧ ∀ H' r, Same H H' → 0 ≤ r → Q (.int r) H'
def spOpen (K : PySem.W.Frag) : Sp := fun vs H Q _ => ∃ (a : Addr) (ns : List Int), vs = [.ref a] ∧ SqL K H a (ns.map V.int) ∧ ns.length ≤ 63 ∧ ∀ H' p, Same H H' → H p = none → Pen H' p 0 → Q (.ref p) H'
def spTake : Sp := fun vs H Q _ => ∃ (p : Addr) (many : Int) (n : Nat), vs = [.ref p, .int many] ∧ Pen H p n ∧ n < 1048000 ∧ 0 < many ∧ many.natAbs.log2 < 9000 ∧ ∀ H' k, But p H H' → Pen H' p (n + 1) → 0 ≤ k → k < many → Q (.int k) H'
def spPick (K : PySem.W.Frag) : Sp := fun vs H Q _ => ∃ (p s : Addr) (xs : List V) (n : Nat), vs = [.ref p, .ref s] ∧ Pen H p n ∧ n < 1048000 ∧ SqL K H s xs ∧ s ≠ p ∧ 0 < xs.length ∧ xs.length ≤ 1000 ∧ ∀ (H' : Hp) (k : Nat) (v : V), But p H H' → Pen H' p (n + 1) → xs[(k : Nat)]? = some (v : V) → Q v H'
def primesV : List V := ([.int 2147483629, .int 2147483587, .int 2147483579, .int 2147483563, .int 2147483549, .int 2147483543, .int 2147483497, .int 2147483489] : List V) ++ [.int 2147483477, .int 2147483423, .int 2147483399, .int 2147483353, .int 2147483323]
theorem prime_at {k : Int} (h0 : 0 ≤ k) (h1 : k < 13) : ∃ m : Int, atI primesV k = some (.int m) ∧ 0 < m ∧ m < 2147483648 := by
  have h : k = 0 ∨ k = 1 ∨ k = 2 ∨ k = 3 ∨ k = 4 ∨ k = 5 ∨ k = 6 ∨ k = 7 ∨ k = 8 ∨ k = 9 ∨ k = 10 ∨ k = 11 ∨ k = 12 := by omega
  rcases h with rfl | rfl | rfl | rfl | rfl | rfl | rfl | rfl | rfl | rfl | rfl | rfl | rfl <;> exact ⟨_, rfl, by decide, by decide⟩
theorem ixN_of {n : Nat} {i : Int} (h0 : 0 ≤ i) (h1 : i < (n : Int)) : ixN n i = some i.toNat := by
  unfold ixN
  rw [if_pos h0, if_pos h1]
theorem atI_int {cs : List Int} {i : Int} (h0 : 0 ≤ i) (h1 : i < (cs.length : Int)) : ∃ z : Int, atI (cs.map V.int) i = some (.int z) := by
  have h2 : i.toNat < cs.length := by omega
  refine ⟨cs[i.toNat], ?_⟩
  unfold atI
  rw [List.length_map, ixN_of h0 h1]
  show (cs.map V.int)[i.toNat]? = _
  rw [List.getElem?_map, List.getElem?_eq_getElem h2]
  rfl
theorem cut_ints (ns : List Int) (lo hi : Option Int) : cutV (ns.map V.int) lo hi = ((ns.drop (HT.sIx ns.length 0 lo)).take (HT.sIx ns.length ns.length hi - HT.sIx ns.length 0 lo)).map V.int := by
  unfold cutV
  rw [List.length_map, List.map_take, List.map_drop]
theorem cut_len (ns : List Int) (lo hi : Option Int) : ((ns.drop (HT.sIx ns.length 0 lo)).take (HT.sIx ns.length ns.length hi - HT.sIx ns.length 0 lo)).length = min (HT.sIx ns.length ns.length hi - HT.sIx ns.length 0 lo) (ns.length - HT.sIx ns.length 0 lo) := by
  rw [List.length_take, List.length_drop]
theorem int_of {ds : List Int} {i : Nat} {y : V} (h : (ds.map V.int)[i]? = some y) : i < ds.length ∧ ∃ d : Int, y = .int d := by
  rw [List.getElem?_map] at h
  cases e : ds[i]? with
  | none =>
    rw [e] at h
    cases h
  | some d =>
    rw [e] at h
    exact ⟨(List.getElem?_eq_some_iff.mp e).1, d, (Option.some.inj h).symm⟩
theorem mul_bd {x y m : Int} (h0 : 0 ≤ x) (h1 : x ≤ m) (h2 : 0 ≤ y) : 0 ≤ x * y ∧ x * y ≤ m * y := ⟨Int.mul_nonneg h0 h2, Int.mul_le_mul_of_nonneg_right h1 h2⟩
/-- what the top has left of the pen's defs and the built-ins that they call -/
structure PenTxt (K : PySem.W.Frag) (mg : Str → Option Value) (f1 f2 f3 f4 : Addr) (d1 d2 d3 d4 : FuncData) : Prop where
  int : mg "int" = none
  list : mg "list" = none
  len : mg "len" = none
  enumerate : mg "enumerate" = none
  FSpread : Fun K "_law_spread" "_law_spread" sSpread f1 d1
  bSpread : Binds K d1 ["cell", "at"] []
  gSpread : mg "_law_spread" = some (.ref f1)
  FOpen : Fun K "_law_open" "_law_open" sOpen f2 d2
  bOpen : Binds K d2 ["script"] []
  gOpen : mg "_law_open" = some (.ref f2)
  FTake : Fun K "_law_take" "_law_take" sTake f3 d3
  bTake : Binds K d3 ["pen", "many"] []
  gTake : mg "_law_take" = some (.ref f3)
  FPick : Fun K "_law_x_pick" "_law_x_pick" sPick f4 d4
  bPick : Binds K d4 ["pen", "some"] []
  gPick : mg "_law_x_pick" = some (.ref f4)
section
variable {P : Program} {w : World} {K : PySem.W.Frag} {mg : Str → Option Value} {base : Heap} {f1 f2 f3 f4 : Addr} {d1 d2 d3 d4 : FuncData}
theorem ok_spread (T : PenTxt K mg f1 f2 f3 f4 d1 d2 d3 d4) {k : Nat} : FnOk P w K mg base CX0 (k + 1) f1 d1 ["cell", "at"] spSpread := by
  have F := T.FSpread
  refine F.ok scSpread (fun vs H Q E h => ?_) (fun cdv A outer s H vs Q E hr h => ?_)
  · obtain ⟨c, a, rfl, _⟩ := h
    rfl
  · obtain ⟨c, a, rfl, a0, a1, q⟩ := h
    refine ⟨_, (pss_cons (ps_if (pt_cmpR op_ge (pv 0) (pe_op op_pow pe_int pe_int) (nomark _)) (pss_one (ps_ret (pv 0))) pss_nil)
 (pss_cons (ps_set (i := 2) scSpread.nd rfl (.inl rfl) (pe_lst (pa_cons pe_int (pa_cons pe_int (pa_cons pe_int (pa_cons pe_int (pa_cons pe_int (pa_cons pe_int (pa_cons pe_int (pa_cons pe_int pa_nil))))))))))
 (Evl.pss_cut (ps_set (i := 2) scSpread.nd rfl (.inl rfl) (pe_op op_cat (pv 2) (pe_lst (pa_cons pe_int (pa_cons pe_int (pa_cons pe_int (pa_cons pe_int (pa_cons pe_int pa_nil))))))))
 (Evl.pss_cut (ps_set (i := 3) scSpread.nd rfl (.inl rfl) (pe_op op_mul (pe_op op_mod (pe_callTy call_int1 (by rfl) T.int (by decide +kernel) (pa_cons (pv 0) pa_nil)) pe_int) (pe_op op_add (pe_op op_mul pe_int (pv 1)) pe_int)))
 (Evl.pss_cut (ps_set (i := 3) scSpread.nd rfl (.inl rfl) (pe_op op_mod (pe_callTy call_int1 (by rfl) T.int (by decide +kernel) (pa_cons (pe_op op_pow (pe_op op_add (pe_op op_add (pv 3) (pe_op op_mul (pv 1) pe_int)) pe_int) pe_int) pa_nil)) (pe_ix ix_list (pv 2) (pe_op op_mod (pe_callTy call_int1 (by rfl) T.int (by decide +kernel) (pa_cons (pv 1) pa_nil)) pe_int) (fun _ _ => rfl))))
 (Evl.pss_cut (ps_set (i := 4) scSpread.nd rfl (.inl rfl) (pe_op op_mod (pe_callTy call_int1 (by rfl) T.int (by decide +kernel) (pa_cons (pe_op op_pow (pe_op op_add (pe_op op_add (pe_op op_mul (pv 3) (pe_op op_add (pv 1) pe_int)) (pe_op op_mod (pe_callTy call_int1 (by rfl) T.int (by decide +kernel) (pa_cons (pv 0) pa_nil)) pe_int)) pe_int) pe_int) pa_nil)) (pe_ix ix_list (pv 2) (pe_op op_mod (pe_callTy call_int1 (by rfl) T.int (by decide +kernel) (pa_cons (pe_op op_add (pv 1) pe_int) pa_nil)) pe_int) (fun _ _ => rfl))))
 (Evl.pss_cut (ps_set (i := 5) scSpread.nd rfl (.inl rfl) (pe_op op_mod (pe_callTy call_int1 (by rfl) T.int (by decide +kernel) (pa_cons (pe_op op_pow (pe_op op_add (pe_op op_add (pv 4) (pe_op op_mod (pe_callTy call_int1 (by rfl) T.int (by decide +kernel) (pa_cons (pv 3) pa_nil)) pe_int)) (pv 1)) pe_int) pa_nil)) (pe_ix ix_list (pv 2) (pe_op op_mod (pe_callTy call_int1 (by rfl) T.int (by decide +kernel) (pa_cons (pe_op op_add (pv 1) pe_int) pa_nil)) pe_int) (fun _ _ => rfl))))
 (pss_one (ps_ret (pe_op op_add (pe_op op_mul (pe_op op_add (pe_op op_mul (pv 3) pe_int) (pv 4)) pe_int) (pv 5))))))))))), ?_⟩
    refine ⟨.int c, rfl, 10, 18, rfl, rfl, ⟨by decide, by decide, by decide⟩, c, _, rfl, rfl, _, rfl, ite2 (fun e => ?_) (fun e => ?_)⟩
    · have e' := of_decide_eq_true e
      exact ⟨_, rfl, q H c (Same.refl H) (Int.le_trans (by decide) e')⟩
    · refine ⟨(by show 8 ≤ sizeLine; decide), fun p hp => ?_⟩
      refine ⟨fun σ H' => ∃ l, σ = [some (.int c), some (.int a), some (.ref l), none, none, none] ∧ Same H H' ∧ SqL K H' l primesV, ?_, ?_⟩
      · refine ⟨_, rfl, (by show 5 ≤ sizeLine; decide), fun p2 hp2 => ?_⟩
        have n12 : p ≠ p2 := ne_of_none upd_same hp2
        exact ⟨p, p2, _, _, rfl, rfl, (by rw [upd_ne n12]; exact upd_same), upd_same, (by show 13 ≤ sizeLine; decide), fun l hl => ⟨l, rfl, ((same_upd hp).trans (same_upd hp2)).trans (same_upd hl), SqL.of upd_same⟩⟩
      rintro σ H3 ⟨l, rfl, s3, hS⟩
      -- one
      refine ⟨fun σ H' => ∃ one : Int, σ = [some (.int c), some (.int a), some (.ref l), some (.int one), none, none] ∧ H' = H3 ∧ 0 ≤ one ∧ one ≤ 1000000006 * (2 * a + 69069), ?_, ?_⟩
      · have c1 := Int.emod_nonneg c (show (1000000007 : Int) ≠ 0 by decide)
        have c2 := Int.emod_lt_of_pos c (show (0 : Int) < 1000000007 by decide)
        obtain ⟨o1, o2⟩ := mul_bd c1 (show c % 1000000007 ≤ 1000000006 by omega) (show 0 ≤ 2 * a + 69069 by omega)
        exact ⟨_, rfl, .inl ⟨_, rfl, _, _, rfl, rfl, (by show (0 : Int) < 1000000007; decide), _, rfl, _, _, rfl, rfl, .inl ⟨by decide, by decide⟩, _, _, rfl, rfl, _, _, rfl, rfl, .inl ⟨(by omega), (by omega)⟩, _, rfl, rfl, o1, o2⟩⟩
      rintro σ H3 ⟨one, rfl, rfl, o1, o2⟩
      refine ⟨fun σ H' => ∃ one : Int, σ = [some (.int c), some (.int a), some (.ref l), some (.int one), none, none] ∧ H' = H3 ∧ 0 ≤ one ∧ one < 2147483648, ?_, ?_⟩
      · obtain ⟨m, hm, m0, m1⟩ := prime_at (Int.emod_nonneg a (show (13 : Int) ≠ 0 by decide)) (Int.emod_lt_of_pos a (show (0 : Int) < 13 by decide))
        have u1 := Int.emod_nonneg ((one + a * 40503 + 977) ^ (3 : Int).toNat) (show m ≠ 0 by omega)
        have u2 := Int.emod_lt_of_pos ((one + a * 40503 + 977) ^ (3 : Int).toNat) m0
        refine ⟨_, rfl, _, rfl, _, _, rfl, rfl, .inl ⟨(by omega), (by omega)⟩, _, _, rfl, rfl, _, _, rfl, rfl, _, _, rfl, rfl, ⟨by decide, by decide, (by omega)⟩, .inl ⟨_, rfl, ?_⟩⟩
        exact ⟨_, rfl, _, rfl, .inl ⟨_, rfl, _, _, rfl, rfl, (by show (0 : Int) < 13; decide), l, _, _, _, rfl, rfl, hS, hm, _, _, rfl, rfl, m0, _, rfl, rfl, u1, Int.lt_trans u2 m1⟩⟩
      rintro σ H3 ⟨one, rfl, rfl, p1, p2⟩
      -- two
      refine ⟨fun σ H' => ∃ two : Int, σ = [some (.int c), some (.int a), some (.ref l), some (.int one), some (.int two), none] ∧ H' = H3 ∧ 0 ≤ two ∧ two < 2147483648, ?_, ?_⟩
      · have d1 := Int.emod_nonneg c (show (65537 : Int) ≠ 0 by decide)
        have d2 := Int.emod_lt_of_pos c (show (0 : Int) < 65537 by decide)
        obtain ⟨o1, o2⟩ := mul_bd p1 (show one ≤ 2147483647 by omega) (show 0 ≤ a + 3 by omega)
        obtain ⟨m, hm, m0, m1⟩ := prime_at (Int.emod_nonneg (a + 5) (show (13 : Int) ≠ 0 by decide)) (Int.emod_lt_of_pos (a + 5) (show (0 : Int) < 13 by decide))
        have u1 := Int.emod_nonneg ((one * (a + 3) + c % 65537 + 5) ^ (5 : Int).toNat) (show m ≠ 0 by omega)
        have u2 := Int.emod_lt_of_pos ((one * (a + 3) + c % 65537 + 5) ^ (5 : Int).toNat) m0
        refine ⟨_, rfl, _, rfl, _, _, rfl, rfl, _, _, rfl, rfl, .inl ⟨(by omega), (by omega)⟩, _, rfl, .inl ⟨_, rfl, _, _, rfl, rfl, (by show (0 : Int) < 65537; decide), _, _, rfl, rfl, _, _, rfl, rfl, _, _, rfl, rfl, ⟨by decide, by decide, (by omega)⟩, .inl ⟨_, rfl, ?_⟩⟩⟩
        exact ⟨_, rfl, _, rfl, _, _, rfl, rfl, .inl ⟨_, rfl, _, _, rfl, rfl, (by show (0 : Int) < 13; decide), l, _, _, _, rfl, rfl, hS, hm, _, _, rfl, rfl, m0, _, rfl, rfl, u1, Int.lt_trans u2 m1⟩⟩
      rintro σ H3 ⟨two, rfl, rfl, q1, q2⟩
      -- three
      refine ⟨fun σ H' => ∃ three : Int, σ = [some (.int c), some (.int a), some (.ref l), some (.int one), some (.int two), some (.int three)] ∧ H' = H3 ∧ 0 ≤ three, ?_, ?_⟩
      · have e1 := Int.emod_nonneg one (show (1009 : Int) ≠ 0 by decide)
        have e2 := Int.emod_lt_of_pos one (show (0 : Int) < 1009 by decide)
        obtain ⟨m, hm, m0, m1⟩ := prime_at (Int.emod_nonneg (a + 7) (show (13 : Int) ≠ 0 by decide)) (Int.emod_lt_of_pos (a + 7) (show (0 : Int) < 13 by decide))
        have u1 := Int.emod_nonneg ((two + one % 1009 + a) ^ (3 : Int).toNat) (show m ≠ 0 by omega)
        refine ⟨_, rfl, _, rfl, .inl ⟨_, rfl, _, _, rfl, rfl, (by show (0 : Int) < 1009; decide), _, _, rfl, rfl, _, rfl, _, _, rfl, rfl, _, _, rfl, rfl, ⟨by decide, by decide, (by omega)⟩, .inl ⟨_, rfl, ?_⟩⟩⟩
        exact ⟨_, rfl, _, rfl, _, _, rfl, rfl, .inl ⟨_, rfl, _, _, rfl, rfl, (by show (0 : Int) < 13; decide), l, _, _, _, rfl, rfl, hS, hm, _, _, rfl, rfl, m0, _, rfl, rfl, u1⟩⟩
      rintro σ H3 ⟨three, rfl, rfl, r1⟩
      exact ⟨_, rfl, _, _, rfl, rfl, .inr ⟨by decide, by decide⟩, _, rfl, _, _, rfl, rfl, _, _, rfl, rfl, .inr ⟨by decide, by decide⟩, _, rfl, _, _, rfl, rfl, q H3 _ s3 (by omega)⟩
theorem ok_open (T : PenTxt K mg f1 f2 f3 f4 d1 d2 d3 d4) {k : Nat} : FnOk P w K mg base CX0 (k + 1) f2 d2 ["script"] (spOpen K) := by
  have F := T.FOpen
  refine F.ok scOpen (fun vs H Q E h => ?_) (fun cdv A outer s H vs Q E hr h => ?_)
  · obtain ⟨c, a, rfl, _⟩ := h
    rfl
  · obtain ⟨a, ns, rfl, hS, hl, q⟩ := h
    refine ⟨_, (Evl.pss_cut (ps_set (i := 1) scOpen.nd rfl (.inl rfl) (pe_callTy call_list_of (by rfl) T.list (by decide +kernel) (pa_cons (pe_slice sl_list (pv 0) po_none (po_some pe_int)) pa_nil)))
 (pss_cons (ps_for PassesOwn.never rfl (pi_enum (by rfl) T.enumerate (pa_cons (pe_slice sl_list (pv 0) (po_some pe_int) (po_some pe_int)) pa_nil)) (pg_tup rfl (pgs_cons (pg_name (i := 2) scOpen.nd rfl (.inl rfl)) (pgs_cons (pg_name (i := 3) scOpen.nd rfl (.inl rfl)) pgs_nil)))
 (pss_one (ps_asg (pe_op op_add (pe_ix ix_list (pv 1) (pe_op op_mod (pe_callTy call_int1 (by rfl) T.int (by decide +kernel) (pa_cons (pv 2) pa_nil)) pe_int) (fun _ _ => rfl)) (pv 3)) (pg_sub (pv 1) (pe_op op_mod (pe_callTy call_int1 (by rfl) T.int (by decide +kernel) (pa_cons (pv 2) pa_nil)) pe_int) set_list))))
 (pss_one (ps_ret (pe_lst (pa_cons (pv 1) (pa_cons pe_int (pa_cons pe_int pa_nil)))))))), ?_⟩
    -- cells
    refine ⟨fun σ H' => ∃ (c : Addr) (cs : List Int), σ = [some (.ref a), some (.ref c), none, none] ∧ Same H H' ∧ H c = none ∧ H' c = some (.lst (cs.map V.int)) ∧ cs.length = min 12 ns.length, ?_, ?_⟩
    · refine ⟨.ref a, rfl, 12, rfl, a, ns.map V.int, rfl, hS, fun c nc => ⟨c, _, rfl, .inl (SqL.of upd_same), fun l hl => ⟨l, (ns.drop (HT.sIx ns.length 0 none)).take (HT.sIx ns.length ns.length (some 12) - HT.sIx ns.length 0 none), rfl, (same_upd nc).trans (same_upd hl), (same_upd nc).free hl, ?_, ?_⟩⟩⟩
      · rw [upd_same, cut_ints]
      · rw [cut_len]
        rw [HT.sIx_none, show HT.sIx ns.length ns.length (some 12) = min 12 ns.length from HT.sIx_nat ns.length ns.length 12]
        omega
    rintro σ H1 ⟨c, cs, rfl, s1, nc, hC, lC⟩
    have hS1 : SqL K H1 a (ns.map V.int) := s1.seq hS
    refine ⟨.ref a, rfl, 12, rfl, 63, rfl, a, ns.map V.int, rfl, hS1, fun d nd => ⟨d, _, rfl, SqL.of upd_same, ?_⟩⟩
    have s2 : Same H1 (upd H1 d (.lst (cutV (ns.map V.int) (some 12) (some 63)))) := same_upd nd
    rw [cut_ints] at s2 ⊢
    have l2 := cut_len ns (some 12) (some 63)
    rw [show HT.sIx ns.length 0 (some 12) = min 12 ns.length from HT.sIx_nat ns.length 0 12] at l2 s2 ⊢
    have hd : (upd H1 d (.lst ((List.take (HT.sIx ns.length ns.length (some 63) - min 12 ns.length) (List.drop (min 12 ns.length) ns)).map V.int))) d = some (.lst ((List.take (HT.sIx ns.length ns.length (some 63) - min 12 ns.length) (List.drop (min 12 ns.length) ns)).map V.int)) := upd_same
    generalize (List.take (HT.sIx ns.length ns.length (some 63) - min 12 ns.length) (List.drop (min 12 ns.length) ns)) = ds at s2 l2 hd ⊢
    have ncd : c ≠ d := ne_of_none hC nd
    refine for_it (walk_enum (K := K) (a := d) (xs := ds.map V.int)) (fun i σ H' => ∃ (v2 v3 : Option V) (cs : List Int), σ = [some (.ref a), some (.ref c), v2, v3] ∧ Same H H' ∧ H' c = some (.lst (cs.map V.int)) ∧ cs.length = min 12 ns.length ∧ H' d = some (.lst (ds.map V.int)))
      ⟨none, none, cs, rfl, s1.trans s2, s2 _ _ hC, lC, hd⟩ ?_ ?_ ?_
    · rintro i σ H' _ ⟨_, _, _, _, _, _, _, h⟩
      exact SqL.of h
    · rintro i x σ H' H'' hi ⟨v2, v3, cs, rfl, s3, hC, lC, hD⟩ ⟨T, x1, y, rfl, nT, rfl, ex, ey⟩
      obtain rfl : V.int (i : Nat) = x1 := Option.some.inj ex
      obtain ⟨hi2, z, rfl⟩ := int_of ey
      have c12 : cs.length = 12 := by omega
      have sT : Same H' (upd H' T (.tup [.int (i : Nat), .int z])) := same_upd nT
      have hC' := sT _ _ hC
      have m0 := Int.emod_nonneg ((i : Nat) : Int) (show (12 : Int) ≠ 0 by decide)
      have m1 := Int.emod_lt_of_pos ((i : Nat) : Int) (show (0 : Int) < 12 by decide)
      obtain ⟨u, hu⟩ := atI_int (cs := cs) m0 (by omega)
      refine ⟨T, _, rfl, SqT.of upd_same, rfl, _, _, rfl, _, _, rfl, rfl, ?_⟩
      refine ⟨_, rfl, _, rfl, .inl ⟨_, rfl, _, _, rfl, rfl, (by show (0 : Int) < 12; decide), c, _, _, _, rfl, rfl, SqL.of hC', hu, _, rfl, _, _, rfl, rfl, _, rfl, _, rfl, .inl ⟨_, rfl, _, _, rfl, rfl, (by show (0 : Int) < 12; decide), c, _, _, _, rfl, rfl, hC', ixN_of m0 (by rw [List.length_map]; omega), ?_⟩⟩⟩
      refine ⟨_, _, cs.set ((i : Int) % 12).toNat (u + z), rfl, fun b o e => ?_, ?_, by rw [List.length_set]; exact lC, ?_⟩
      · have nb : b ≠ c := fun q => by
          rw [q, nc] at e
          cases e
        rw [upd_ne nb]
        exact sT _ _ (s3 _ _ e)
      · rw [upd_same, List.map_set]
      · rw [upd_ne ncd.symm]
        exact sT _ _ hD
    · rintro σ H' ⟨v2, v3, cs, rfl, s3, hC, lC, hD⟩
      refine ⟨_, rfl, (by show 3 ≤ sizeLine; decide), fun p hp => q _ p (s3.trans (same_upd hp)) (s3.free hp) ⟨c, cs, 0, 0, upd_same, ?_, ne_of_none hC hp, by omega, by decide, by decide, by decide⟩⟩
      exact same_upd hp _ _ hC
theorem ok_take (T : PenTxt K mg f1 f2 f3 f4 d1 d2 d3 d4) {k : Nat} : FnOk P w K mg base CX0 (k + 2) f3 d3 ["pen", "many"] spTake := by
  have F := T.FTake
  have GS : FnOk P w K mg base CX0 (k + 1) f1 d1 ["cell", "at"] spSpread := ok_spread T
  refine F.ok scTake (fun vs H Q E h => ?_) (fun cdv A outer s H vs Q E hr h => ?_)
  · obtain ⟨c, a, n, rfl, _⟩ := h
    rfl
  · obtain ⟨p, many, n, rfl, hP, hn, m0, m1, q⟩ := h
    refine ⟨_, (Evl.pss_cut (ps_if (pt_cmpR op_lt (pe_ix ix_list (pv 0) pe_int (fun _ _ => rfl)) (pv 1) (nomark _)) (pss_cons (ps_set (i := 2) scTake.nd rfl (.inl rfl) (pe_ix ix_list (pv 0) pe_int (fun _ _ => rfl)))
 (pss_cons (ps_set (i := 3) scTake.nd rfl (.inl rfl) pe_int)
 (Evl.pss_cut (ps_if (pt_cmpR op_lt (pv 2) (pe_callB call_len_seq (by rfl) T.len PySem.boot_len (pa_cons (pe_ix ix_list (pv 0) pe_int (fun _ _ => rfl)) pa_nil)) (nomark _)) (pss_one (ps_set (i := 3) scTake.nd rfl (.inl rfl) (pe_ix ix_list (pe_ix ix_list (pv 0) pe_int (fun _ _ => rfl)) (pv 2) (fun _ _ => rfl)))) (pss_one (ps_if (pt_cmpR op_gt (pe_callB call_len_seq (by rfl) T.len PySem.boot_len (pa_cons (pe_ix ix_list (pv 0) pe_int (fun _ _ => rfl)) pa_nil)) pe_int (nomark _)) (pss_one (ps_set (i := 3) scTake.nd rfl (.inl rfl) (pe_op op_mod (pe_callTy call_int1 (by rfl) T.int (by decide +kernel) (pa_cons (pe_ix ix_list (pe_ix ix_list (pv 0) pe_int (fun _ _ => rfl)) (pe_op op_mod (pe_callTy call_int1 (by rfl) T.int (by decide +kernel) (pa_cons (pe_op op_add (pe_op op_mul (pv 2) pe_int) pe_int) pa_nil)) (pe_callB call_len_seq (by rfl) T.len PySem.boot_len (pa_cons (pe_ix ix_list (pv 0) pe_int (fun _ _ => rfl)) pa_nil))) (fun _ _ => rfl)) pa_nil)) (pe_op op_add (pe_op op_pow pe_int pe_int) (pv 2))))) pss_nil)))
 (pss_cons (ps_asg (pe_op op_add (pv 2) pe_int) (pg_sub (pv 0) pe_int set_list))
 (pss_one (ps_asg (pe_call GS hr (by rfl) T.gSpread T.FSpread.kp T.bSpread .nil pass0 (pa_cons (pv 3) (pa_cons (pv 2) pa_nil))) (pg_sub (pv 0) pe_int set_list))))))) pss_nil)
 (pss_cons (ps_set (i := 4) scTake.nd rfl (.inl rfl) (pe_op op_mod (pe_callTy call_int1 (by rfl) T.int (by decide +kernel) (pa_cons (pe_ix ix_list (pv 0) pe_int (fun _ _ => rfl)) pa_nil)) (pv 1)))
 (pss_cons (ps_asg (pe_op op_fdivW (pe_ix ix_list (pv 0) pe_int (fun _ _ => rfl)) (pv 1)) (pg_sub (pv 0) pe_int set_list))
 (pss_one (ps_ret (pv 4)))))), ?_⟩
    obtain ⟨c, cs, a, r, hp, hc, ncp, lc, a0, a1, r0⟩ := hP.ex
    refine ⟨fun σ H' => ∃ v2 v3, σ = [some (.ref p), some (.int many), v2, v3, none] ∧ But p H H' ∧ Pen H' p (n + 1), ?_, ?_⟩
    · refine ⟨_, rfl, p, _, 2, .int r, rfl, rfl, SqL.of hp, atI_nat (j := 2) rfl, _, rfl, _, _, rfl, rfl, _, rfl, ite2 (fun _ => ?_) (fun _ => ?_)⟩
      · refine ⟨_, rfl, p, _, 1, .int a, rfl, rfl, SqL.of hp, atI_nat (j := 1) rfl, ?_⟩
        refine ⟨fun σ H' => ∃ z : Int, σ = [some (.ref p), some (.int many), some (.int a), some (.int z), none] ∧ H' = H, ?_, ?_⟩
        · refine ⟨_, rfl, _, rfl, p, _, 0, .ref c, rfl, rfl, SqL.of hp, atI_nat (j := 0) rfl, c, _, rfl, .inl (SqL.of hc), _, _, rfl, rfl, _, rfl, ite2 (fun e => ?_) (fun e => ?_)⟩
          · have e' := of_decide_eq_true e
            rw [List.length_map] at e'
            obtain ⟨z, hz⟩ := atI_int (cs := cs) a0 e'
            exact ⟨_, rfl, p, _, 0, .ref c, rfl, rfl, SqL.of hp, atI_nat (j := 0) rfl, _, rfl, c, _, _, _, rfl, rfl, SqL.of hc, hz, z, rfl, rfl⟩
          · refine ⟨_, rfl, p, _, 0, .ref c, rfl, rfl, SqL.of hp, atI_nat (j := 0) rfl, c, _, rfl, .inl (SqL.of hc), _, _, rfl, rfl, _, rfl, ite2 (fun e => ?_) (fun e => ?_)⟩
            · have e' := of_decide_eq_true e
              rw [List.length_map] at e'
              have k0 := Int.emod_nonneg (a * 5 + 3) (show (cs.length : Int) ≠ 0 by omega)
              have k1 := Int.emod_lt_of_pos (a * 5 + 3) e'
              obtain ⟨z, hz⟩ := atI_int (cs := cs) k0 k1
              have el : (List.map V.int cs).length = cs.length := List.length_map ..
              refine ⟨_, rfl, p, _, 0, .ref c, rfl, rfl, SqL.of hp, atI_nat (j := 0) rfl, _, rfl, _, _, rfl, rfl, .inr ⟨by decide, by decide⟩, _, _, rfl, rfl, .inl ⟨_, rfl, _, rfl, p, _, 0, .ref c, rfl, rfl, SqL.of hp, atI_nat (j := 0) rfl, c, _, rfl, .inl (SqL.of hc), _, _, rfl, rfl, (by rw [el]; exact e'), c, _, _, _, rfl, rfl, SqL.of hc, (by rw [el]; exact hz), .inl ⟨_, rfl, _, _, rfl, rfl, ⟨by decide, by decide, by decide⟩, _, rfl, _, _, rfl, rfl, _, _, rfl, rfl, ?_, _, rfl, rfl⟩⟩⟩
              have : (10 : Int) ^ (17 : Int).toNat = 100000000000000000 := by decide
              show 0 < (10 : Int) ^ (17 : Int).toNat + a
              omega
            · exact ⟨0, rfl, rfl⟩
        rintro σ H ⟨z, rfl, rfl⟩
        refine ⟨_, rfl, _, _, rfl, rfl, _, rfl, p, _, 1, 1, rfl, rfl, hp, rfl, ?_⟩
        refine ⟨_, rfl, _, rfl, z, a, rfl, a0, by omega, fun H2 r2 s2 r20 => ?_⟩
        have hp2 := s2 _ _ upd_same
        refine ⟨_, rfl, p, _, 2, 2, rfl, rfl, hp2, rfl, _, _, rfl, ?_, ⟨c, cs, a + 1, r2, upd_same, ?_, ncp, lc, by omega, by omega, r20⟩⟩
        · exact (but_upd.trans (But.of s2)).trans but_upd
        · rw [upd_ne ncp]
          exact s2 _ _ (by rw [upd_ne ncp]; exact hc)
      · exact ⟨_, _, rfl, fun _ _ _ e => e, hP.mono (Nat.le_succ n)⟩
    rintro σ H1 ⟨v2, v3, rfl, b1, hP1⟩
    obtain ⟨c, cs, a, r, hp, hc, ncp, lc, a0, a1, r0⟩ := hP1.ex
    refine ⟨_, rfl, p, _, 2, .int r, rfl, rfl, SqL.of hp, atI_nat (j := 2) rfl, .inl ⟨_, rfl, _, rfl, _, _, rfl, rfl, m0, ?_⟩⟩
    refine ⟨_, rfl, p, _, 2, .int r, rfl, rfl, SqL.of hp, atI_nat (j := 2) rfl, _, rfl, _, _, rfl, rfl, ⟨m0, m1⟩, _, rfl, p, _, 2, 2, rfl, rfl, hp, rfl, ?_⟩
    refine ⟨_, rfl, q _ _ (b1.trans but_upd) ⟨c, cs, a, r / many, upd_same, ?_, ncp, lc, a0, a1, Int.ediv_nonneg r0 (Int.le_of_lt m0)⟩ (Int.emod_nonneg _ (by omega)) (Int.emod_lt_of_pos _ m0)⟩
    rw [upd_ne ncp]
    exact hc
theorem ok_pick (T : PenTxt K mg f1 f2 f3 f4 d1 d2 d3 d4) {k : Nat} : FnOk P w K mg base CX0 (k + 3) f4 d4 ["pen", "some"] (spPick K) := by
  have F := T.FPick
  have GT : FnOk P w K mg base CX0 (k + 2) f3 d3 ["pen", "many"] spTake := ok_take T
  refine F.ok scPick (fun vs H Q E h => ?_) (fun cdv A outer s H vs Q E hr h => ?_)
  · obtain ⟨c, a, xs, n, rfl, _⟩ := h
    rfl
  · obtain ⟨p, l, xs, n, rfl, hP, hn, hS, nlp, l0, l1, q⟩ := h
    refine ⟨_, (pss_one (ps_ret (pe_ix ix_list (pv 1) (pe_call GT hr (by rfl) T.gTake T.FTake.kp T.bTake .nil pass0 (pa_cons (pv 0) (pa_cons (pe_callB call_len_seq (by rfl) T.len PySem.boot_len (pa_cons (pv 1) pa_nil)) pa_nil))) (fun _ _ => rfl)))), ?_⟩
    refine ⟨_, rfl, _, rfl, _, rfl, l, xs, rfl, .inl hS, p, _, n, rfl, hP, hn, by omega, ?_, fun H1 k b1 hP1 k0 k1 => ?_⟩
    · have h2 : ((xs.length : Int)).natAbs ≤ 1000 := by omega
      have h3 : ((xs.length : Int)).natAbs.log2 ≤ ((xs.length : Int)).natAbs := Nat.log2_le_self _
      omega
    · have hk : k.toNat < xs.length := by omega
      have e : xs[k.toNat]? = some xs[k.toNat] := List.getElem?_eq_getElem hk
      have hS1 : SqL K H1 l xs := by
        rcases hS with (h | ⟨o, h⟩) | h
        · exact .inl (.inl (b1 _ _ nlp h))
        · exact .inl (.inr ⟨o, b1 _ _ nlp h⟩)
        · exact .inr h
      exact ⟨l, xs, k, _, rfl, rfl, hS1, at_of (by omega) e, q H1 k.toNat _ b1 hP1 e⟩
end
end My
/-! ### the pen with its cells at c -/
namespace My
open PySem PySem.Spec PyProof.Rows L2
structure PenC (H : Hp) (p c : Addr) (n : Nat) : Prop where
  ex : ∃ (cs : List Int) (a r : Int), H p = some (.lst [.ref c, .int a, .int r]) ∧ H c = some (.lst (cs.map V.int)) ∧ c ≠ p ∧ cs.length ≤ 12 ∧ 0 ≤ a ∧ a ≤ (n : Int) ∧ 0 ≤ r
theorem PenC.pen {H : Hp} {p c : Addr} {n : Nat} (h : PenC H p c n) : Pen H p n := by
  obtain ⟨cs, a, r, h1⟩ := h.ex
  exact ⟨c, cs, a, r, h1⟩
theorem Pen.at {H : Hp} {p : Addr} {n : Nat} (h : Pen H p n) : ∃ c, PenC H p c n := by
  obtain ⟨c, cs, a, r, h1⟩ := h.ex
  exact ⟨c, cs, a, r, h1⟩
theorem PenC.mono {H : Hp} {p c : Addr} {n m : Nat} (h : PenC H p c n) (l : n ≤ m) : PenC H p c m := by
  obtain ⟨cs, a, r, h1, h2, h3, h4, h5, h6, h7⟩ := h.ex
  exact ⟨cs, a, r, h1, h2, h3, h4, h5, by omega, h7⟩
theorem PenC.keep {H H' : Hp} {p c : Addr} {n : Nat} (h : PenC H p c n) (hp : ∀ o, H p = some o → H' p = some o) (hc : ∀ o, H c = some o → H' c = some o) : PenC H' p c n := by
  obtain ⟨cs, a, r, h1, h2, h3⟩ := h.ex
  exact ⟨cs, a, r, hp _ h1, hc _ h2, h3⟩
def spTakeC : Sp := fun vs H Q _ => ∃ (p c : Addr) (many : Int) (n : Nat), vs = [.ref p, .int many] ∧ PenC H p c n ∧ n < 1048000 ∧ 0 < many ∧ many.natAbs.log2 < 9000 ∧ ∀ H' k, But p H H' → PenC H' p c (n + 1) → 0 ≤ k → k < many → Q (.int k) H'
section
variable {P : Program} {w : World} {K : PySem.W.Frag} {mg : Str → Option Value} {base : Heap} {f1 f2 f3 f4 : Addr} {d1 d2 d3 d4 : FuncData}
theorem ok_takeC (T : PenTxt K mg f1 f2 f3 f4 d1 d2 d3 d4) {k : Nat} : FnOk P w K mg base CX0 (k + 2) f3 d3 ["pen", "many"] spTakeC := by
  have F := T.FTake
  have GS : FnOk P w K mg base CX0 (k + 1) f1 d1 ["cell", "at"] spSpread := ok_spread T
  refine F.ok scTake (fun vs H Q E h => ?_) (fun cdv A outer s H vs Q E hr h => ?_)
  · obtain ⟨p, c, many, n, rfl, _⟩ := h
    rfl
  · obtain ⟨p, c, many, n, rfl, hP, hn, m0, m1, q⟩ := h
    refine ⟨_, (Evl.pss_cut (ps_if (pt_cmpR op_lt (pe_ix ix_list (pv 0) pe_int (fun _ _ => rfl)) (pv 1) (nomark _)) (pss_cons (ps_set (i := 2) scTake.nd rfl (.inl rfl) (pe_ix ix_list (pv 0) pe_int (fun _ _ => rfl)))
 (pss_cons (ps_set (i := 3) scTake.nd rfl (.inl rfl) pe_int)
 (Evl.pss_cut (ps_if (pt_cmpR op_lt (pv 2) (pe_callB call_len_seq (by rfl) T.len PySem.boot_len (pa_cons (pe_ix ix_list (pv 0) pe_int (fun _ _ => rfl)) pa_nil)) (nomark _)) (pss_one (ps_set (i := 3) scTake.nd rfl (.inl rfl) (pe_ix ix_list (pe_ix ix_list (pv 0) pe_int (fun _ _ => rfl)) (pv 2) (fun _ _ => rfl)))) (pss_one (ps_if (pt_cmpR op_gt (pe_callB call_len_seq (by rfl) T.len PySem.boot_len (pa_cons (pe_ix ix_list (pv 0) pe_int (fun _ _ => rfl)) pa_nil)) pe_int (nomark _)) (pss_one (ps_set (i := 3) scTake.nd rfl (.inl rfl) (pe_op op_mod (pe_callTy call_int1 (by rfl) T.int (by decide +kernel) (pa_cons (pe_ix ix_list (pe_ix ix_list (pv 0) pe_int (fun _ _ => rfl)) (pe_op op_mod (pe_callTy call_int1 (by rfl) T.int (by decide +kernel) (pa_cons (pe_op op_add (pe_op op_mul (pv 2) pe_int) pe_int) pa_nil)) (pe_callB call_len_seq (by rfl) T.len PySem.boot_len (pa_cons (pe_ix ix_list (pv 0) pe_int (fun _ _ => rfl)) pa_nil))) (fun _ _ => rfl)) pa_nil)) (pe_op op_add (pe_op op_pow pe_int pe_int) (pv 2))))) pss_nil)))
 (pss_cons (ps_asg (pe_op op_add (pv 2) pe_int) (pg_sub (pv 0) pe_int set_list))
 (pss_one (ps_asg (pe_call GS hr (by rfl) T.gSpread T.FSpread.kp T.bSpread .nil pass0 (pa_cons (pv 3) (pa_cons (pv 2) pa_nil))) (pg_sub (pv 0) pe_int set_list))))))) pss_nil)
 (pss_cons (ps_set (i := 4) scTake.nd rfl (.inl rfl) (pe_op op_mod (pe_callTy call_int1 (by rfl) T.int (by decide +kernel) (pa_cons (pe_ix ix_list (pv 0) pe_int (fun _ _ => rfl)) pa_nil)) (pv 1)))
 (pss_cons (ps_asg (pe_op op_fdivW (pe_ix ix_list (pv 0) pe_int (fun _ _ => rfl)) (pv 1)) (pg_sub (pv 0) pe_int set_list))
 (pss_one (ps_ret (pv 4)))))), ?_⟩
    obtain ⟨cs, a, r, hp, hc, ncp, lc, a0, a1, r0⟩ := hP.ex
    refine ⟨fun σ H' => ∃ v2 v3, σ = [some (.ref p), some (.int many), v2, v3, none] ∧ But p H H' ∧ PenC H' p c (n + 1), ?_, ?_⟩
    · refine ⟨_, rfl, p, _, 2, .int r, rfl, rfl, SqL.of hp, atI_nat (j := 2) rfl, _, rfl, _, _, rfl, rfl, _, rfl, ite2 (fun _ => ?_) (fun _ => ?_)⟩
      · refine ⟨_, rfl, p, _, 1, .int a, rfl, rfl, SqL.of hp, atI_nat (j := 1) rfl, ?_⟩
        refine ⟨fun σ H' => ∃ z : Int, σ = [some (.ref p), some (.int many), some (.int a), some (.int z), none] ∧ H' = H, ?_, ?_⟩
        · refine ⟨_, rfl, _, rfl, p, _, 0, .ref c, rfl, rfl, SqL.of hp, atI_nat (j := 0) rfl, c, _, rfl, .inl (SqL.of hc), _, _, rfl, rfl, _, rfl, ite2 (fun e => ?_) (fun e => ?_)⟩
          · have e' := of_decide_eq_true e
            rw [List.length_map] at e'
            obtain ⟨z, hz⟩ := atI_int (cs := cs) a0 e'
            exact ⟨_, rfl, p, _, 0, .ref c, rfl, rfl, SqL.of hp, atI_nat (j := 0) rfl, _, rfl, c, _, _, _, rfl, rfl, SqL.of hc, hz, z, rfl, rfl⟩
          · refine ⟨_, rfl, p, _, 0, .ref c, rfl, rfl, SqL.of hp, atI_nat (j := 0) rfl, c, _, rfl, .inl (SqL.of hc), _, _, rfl, rfl, _, rfl, ite2 (fun e => ?_) (fun e => ?_)⟩
            · have e' := of_decide_eq_true e
              rw [List.length_map] at e'
              have k0 := Int.emod_nonneg (a * 5 + 3) (show (cs.length : Int) ≠ 0 by omega)
              have k1 := Int.emod_lt_of_pos (a * 5 + 3) e'
              obtain ⟨z, hz⟩ := atI_int (cs := cs) k0 k1
              have el : (List.map V.int cs).length = cs.length := List.length_map ..
              refine ⟨_, rfl, p, _, 0, .ref c, rfl, rfl, SqL.of hp, atI_nat (j := 0) rfl, _, rfl, _, _, rfl, rfl, .inr ⟨by decide, by decide⟩, _, _, rfl, rfl, .inl ⟨_, rfl, _, rfl, p, _, 0, .ref c, rfl, rfl, SqL.of hp, atI_nat (j := 0) rfl, c, _, rfl, .inl (SqL.of hc), _, _, rfl, rfl, (by rw [el]; exact e'), c, _, _, _, rfl, rfl, SqL.of hc, (by rw [el]; exact hz), .inl ⟨_, rfl, _, _, rfl, rfl, ⟨by decide, by decide, by decide⟩, _, rfl, _, _, rfl, rfl, _, _, rfl, rfl, ?_, _, rfl, rfl⟩⟩⟩
              have : (10 : Int) ^ (17 : Int).toNat = 100000000000000000 := by decide
              show 0 < (10 : Int) ^ (17 : Int).toNat + a
              omega
            · exact ⟨0, rfl, rfl⟩
        rintro σ H ⟨z, rfl, rfl⟩
        refine ⟨_, rfl, _, _, rfl, rfl, _, rfl, p, _, 1, 1, rfl, rfl, hp, rfl, ?_⟩
        refine ⟨_, rfl, _, rfl, z, a, rfl, a0, by omega, fun H2 r2 s2 r20 => ?_⟩
        have hp2 := s2 _ _ upd_same
        refine ⟨_, rfl, p, _, 2, 2, rfl, rfl, hp2, rfl, _, _, rfl, ?_, ⟨cs, a + 1, r2, upd_same, ?_, ncp, lc, by omega, by omega, r20⟩⟩
        · exact (but_upd.trans (But.of s2)).trans but_upd
        · rw [upd_ne ncp]
          exact s2 _ _ (by rw [upd_ne ncp]; exact hc)
      · exact ⟨_, _, rfl, fun _ _ _ e => e, hP.mono (Nat.le_succ n)⟩
    rintro σ H1 ⟨v2, v3, rfl, b1, hP1⟩
    obtain ⟨cs, a, r, hp, hc, ncp, lc, a0, a1, r0⟩ := hP1.ex
    refine ⟨_, rfl, p, _, 2, .int r, rfl, rfl, SqL.of hp, atI_nat (j := 2) rfl, .inl ⟨_, rfl, _, rfl, _, _, rfl, rfl, m0, ?_⟩⟩
    refine ⟨_, rfl, p, _, 2, .int r, rfl, rfl, SqL.of hp, atI_nat (j := 2) rfl, _, rfl, _, _, rfl, rfl, ⟨m0, m1⟩, _, rfl, p, _, 2, 2, rfl, rfl, hp, rfl, ?_⟩
    refine ⟨_, rfl, q _ _ (b1.trans but_upd) ⟨cs, a, r / many, upd_same, ?_, ncp, lc, a0, a1, Int.ediv_nonneg r0 (Int.le_of_lt m0)⟩ (Int.emod_nonneg _ (by omega)) (Int.emod_lt_of_pos _ m0)⟩
    rw [upd_ne ncp]
    exact hc
end
end My
/-! ### == and != of two built-in classes -/
namespace My
open PySem PySem.Spec PyProof.Rows L2 PySem.TypeEq
theorem ty_ne1 : Slot "type" (cmpInfo .NotEq).2.1 "object.__ne__" := .of (owner := "object") (n := "__ne__")
  (by rw [typeLookup_type, builtinLookup_eq_fast]; kernel_rfl) (by decide +kernel) (by decide +kernel) (by decide +kernel) (by first | exact .inr (by decide +kernel) | exact .inl (by decide +kernel))
  (by rw [isSubtype_type]; kernel_rfl)
theorem ty_ne2 : Slot "type" (cmpInfo .NotEq).2.2 "object.__ne__" := .of (owner := "object") (n := "__ne__")
  (by rw [typeLookup_type, builtinLookup_eq_fast]; kernel_rfl) (by decide +kernel) (by decide +kernel) (by decide +kernel) (by first | exact .inr (by decide +kernel) | exact .inl (by decide +kernel))
  (by rw [isSubtype_type]; kernel_rfl)
section
variable {prog : Program} {w : World} {A : Around} {E : Value → Shared → Prop} {s : Shared}
theorem objNe_body {X : String} {b : Value} {Q : Fin → Shared → Prop} (hX : ∀ s' : Shared, s'.TypeIs (.type X) "type") (hv : [Value.type X, b].any Value.onHeap = false)
    (hc : wpAny (model prog w) A (call (.builtin "object.__eq__") [.type X, b]) (fun v s' => (v = .notImplemented ∧ Q (.done (.ret .notImplemented)) s') ∨ ∃ k, v = .bool k ∧ Q (.done (.ret (.bool (!k)))) s') E s) :
    wpAny (model prog w) A (Builtin.«object.__ne__» ⟨[.type X, b], []⟩) Q E s := by
  unfold Builtin.«object.__ne__»
  refine wpAny_bind (m := slotArgs "__ne__" 1 ⟨[.type X, b], []⟩) (wpAny_pure ?_)
  dsimp only
  refine wpAny_bind (wpAny_cRoomFor_or (.inl hv) ?_)
  refine wpAny_bind (m := callSpecialIfBound? (.type X) (Str.ofString "__eq__") [b]) (wpAny_callSpecialIfBound?_slot (T := "type") (hX s) slot_type_eq (wpAny_mono hc (fun v s' h => ?_) fun _ _ e => e))
  rcases h with ⟨rfl, h⟩ | ⟨k, rfl, h⟩
  · exact wpAny_pure h
  · exact wpAny_bind (wpAny_truthy_bool (wpAny_pure h))
theorem ne_ty_same {X : String} {Q : Value → Shared → Prop} (hX : ∀ s' : Shared, s'.TypeIs (.type X) "type") (h : Q (.bool false) s) : wpAny (model prog w) A (compareOp .NotEq (.type X) (.type X)) Q E s := by
  show wpAny _ A (richCompare .NotEq _ _) Q E s
  refine wpAny_richCompare_same (T := "type") (hX s) (hX s) ty_ne1 (wpAny_call_entry ty_ne1 (hX s) F.entry_object_ne (objNe_body hX rfl ?_) (F.args_object_ne_2 _ _))
  exact call_gives slot_type_eq (hX s) F.entry_object_eq (F.args_object_eq_2 _ _) (object_eq_same rfl (by simp)) (.inr ⟨true, rfl, _, rfl, (by intro e; cases e), h⟩)
theorem ne_ty_other {X Y : String} {Q : Value → Shared → Prop} (hX : ∀ s' : Shared, s'.TypeIs (.type X) "type") (hY : ∀ s' : Shared, s'.TypeIs (.type Y) "type")
    (hne : (Value.type X == Value.type Y) = false) (hen : (Value.type Y == Value.type X) = false) (h : Q (.bool true) s) : wpAny (model prog w) A (compareOp .NotEq (.type X) (.type Y)) Q E s := by
  show wpAny _ A (richCompare .NotEq _ _) Q E s
  have k1 := ty_ne1
  have k2 := ty_ne2
  rcases hi : cmpInfo CmpOp.NotEq with ⟨sym, f, r⟩
  rw [hi] at k1 k2
  simp only [richCompare, hi, (hX s).oneThing_none]
  try with_reducible refine wpAny_holding ?_
  refine wpAny_bind (wpAny_cRoomFor_or (.inl rfl) ?_)
  refine wpAny_bind (wpAny_typeOf (hX s) ?_)
  refine wpAny_bind (wpAny_typeOf (hY s) ?_)
  simp only [bne_self_eq_false, Bool.false_eq_true, if_false, pure_bind, Bool.not_false, if_true]
  refine wpAny_bind (m := tryCompare (.type X) _ (.type Y)) (wpAny_tryCompare_declines (hX s) k1 ?_)
  refine wpAny_call_entry k1 (hX s) F.entry_object_ne (objNe_body hX rfl ?_) (F.args_object_ne_2 _ _)
  refine call_gives slot_type_eq (hX s) F.entry_object_eq (F.args_object_eq_2 _ _) (object_eq_other rfl hne) (.inl ⟨rfl, _, rfl, rfl, ?_⟩)
  refine wpAny_bind (m := tryCompare (.type Y) _ (.type X)) (wpAny_tryCompare_declines (hY s) k2 ?_)
  refine wpAny_call_entry k2 (hY s) F.entry_object_ne (objNe_body hY rfl ?_) (F.args_object_ne_2 _ _)
  refine call_gives slot_type_eq (hY s) F.entry_object_eq (F.args_object_eq_2 _ _) (object_eq_other rfl hen) (.inl ⟨rfl, _, rfl, rfl, ?_⟩)
  refine wpAny_bind (wpAny_rule (wpAny_bind (wpAny_of_eq (isSame_plain rfl) (wpAny_pure ?_))))
  rw [hne]
  exact h
end
/-- the built-in classes that are compared -/
def isTy (T : String) : Prop := ∀ s' : Shared, s'.TypeIs (.type T) "type"
theorem tyB_ty {K : PySem.W.Frag} {H : Hp} {x : V} {T : String} (h : TyB K H x T) : isTy T := by
  cases h with
  | non => exact meta_NoneType
  | bl => exact meta_bool
  | int => exact meta_int
  | str => exact meta_str
  | byt => exact meta_bytes
  | lst => exact meta_list
  | tup => exact meta_tuple
  | dK => exact meta_dict
section
variable {X : Cx}
def rTyEq : R2 := fun x y H Q => ∃ a b, x = .ty a ∧ y = .ty b ∧ isTy a ∧ isTy b ∧ Q (.bl (decide (a = b))) H
def rTyNe : R2 := fun x y H Q => ∃ a b, x = .ty a ∧ y = .ty b ∧ isTy a ∧ isTy b ∧ Q (.bl (!decide (a = b))) H
theorem op_eqTy : OpR X (compareOp .Eq) rTyEq := by
  intro pins s σ H x y v u Q I rx ry h
  obtain ⟨a, b, rfl, rfl, ha, hb, q⟩ := h
  obtain rfl : v = Value.type a := rx
  obtain rfl : u = Value.type b := ry
  by_cases e : a = b
  · subst e
    exact eq_type_same ha ⟨.bl true, H, I, rfl, by rw [decide_eq_true rfl] at q; exact q⟩
  · exact eq_type_other ha hb ((ty_beq a b).trans (decide_eq_false e)) ⟨.bl false, H, I, rfl, by rw [decide_eq_false e] at q; exact q⟩
theorem op_neTy : OpR X (compareOp .NotEq) rTyNe := by
  intro pins s σ H x y v u Q I rx ry h
  obtain ⟨a, b, rfl, rfl, ha, hb, q⟩ := h
  obtain rfl : v = Value.type a := rx
  obtain rfl : u = Value.type b := ry
  by_cases e : a = b
  · subst e
    exact ne_ty_same ha ⟨.bl false, H, I, rfl, by rw [decide_eq_true rfl] at q; exact q⟩
  · exact ne_ty_other ha hb ((ty_beq a b).trans (decide_eq_false e)) ((ty_beq b a).trans (decide_eq_false fun z => e z.symm)) ⟨.bl true, H, I, rfl, by rw [decide_eq_false e] at q; exact q⟩
end
end My
/-! ### numbers: the mathematics -/
namespace My
open PySem PySem.Spec PyProof.Rows L2
def gg (n d : Int) : Int := ((Nat.gcd n.natAbs d.natAbs : Nat) : Int)
def rn (n d : Int) : Int := n / gg n d
def rd (n d : Int) : Int := d / gg n d
/-- n / d, without a common divisor -/
structure Low (n d : Int) : Prop where
  pos : 0 < d
  one : gg n d = 1
theorem gg_pos {n d : Int} (h : 0 < d) : 0 < gg n d := by
  have : 0 < Nat.gcd n.natAbs d.natAbs := Nat.gcd_pos_of_pos_right _ (by omega)
  unfold gg
  omega
theorem gg_n (n d : Int) : ∃ k, n = gg n d * k := by
  obtain ⟨c, hc⟩ := Nat.gcd_dvd_left n.natAbs d.natAbs
  rcases Int.natAbs_eq n with e | e
  · exact ⟨(c : Int), by unfold gg; rw [← Int.natCast_mul, ← hc]; exact e⟩
  · exact ⟨-(c : Int), by unfold gg; rw [Int.mul_neg, ← Int.natCast_mul, ← hc]; exact e⟩
theorem gg_d (n d : Int) : ∃ k, d = gg n d * k := by
  obtain ⟨c, hc⟩ := Nat.gcd_dvd_right n.natAbs d.natAbs
  rcases Int.natAbs_eq d with e | e
  · exact ⟨(c : Int), by unfold gg; rw [← Int.natCast_mul, ← hc]; exact e⟩
  · exact ⟨-(c : Int), by unfold gg; rw [Int.mul_neg, ← Int.natCast_mul, ← hc]; exact e⟩
theorem rn_mul {n d : Int} (h : 0 < d) : n = gg n d * rn n d := by
  obtain ⟨k, hk⟩ := gg_n n d
  have g := gg_pos (n := n) h
  have e : rn n d = k := by
    unfold rn
    rw [Int.ediv_eq_of_eq_mul_right (by omega) hk]
  rw [e]; exact hk
theorem rd_mul {n d : Int} (h : 0 < d) : d = gg n d * rd n d := by
  obtain ⟨k, hk⟩ := gg_d n d
  have g := gg_pos (n := n) h
  have e : rd n d = k := by
    unfold rd
    rw [Int.ediv_eq_of_eq_mul_right (by omega) hk]
  rw [e]; exact hk
theorem rd_pos {n d : Int} (h : 0 < d) : 0 < rd n d := by
  have g := gg_pos (n := n) h
  have e := rd_mul (n := n) h
  refine Int.lt_of_not_ge fun z => ?_
  have : gg n d * rd n d ≤ 0 := Int.mul_nonpos_of_nonneg_of_nonpos (by omega) z
  omega
theorem low_r {n d : Int} (h : 0 < d) : Low (rn n d) (rd n d) := by
  refine ⟨rd_pos h, ?_⟩
  have g := gg_pos (n := n) h
  have e1 : n.natAbs = (gg n d).natAbs * (rn n d).natAbs := by rw [← Int.natAbs_mul, ← rn_mul h]
  have e2 : d.natAbs = (gg n d).natAbs * (rd n d).natAbs := by rw [← Int.natAbs_mul, ← rd_mul h]
  have e3 : Nat.gcd n.natAbs d.natAbs = (gg n d).natAbs * Nat.gcd (rn n d).natAbs (rd n d).natAbs := by
    rw [← Nat.gcd_mul_left, ← e1, ← e2]
  have e4 : (gg n d).natAbs = Nat.gcd n.natAbs d.natAbs := by unfold gg; exact Int.natAbs_natCast _
  rw [← e4] at e3
  have e5 : Nat.gcd (rn n d).natAbs (rd n d).natAbs = 1 := by
    have e6 : (gg n d).natAbs * 1 = (gg n d).natAbs * Nat.gcd (rn n d).natAbs (rd n d).natAbs := by rw [Nat.mul_one]; exact e3
    exact (Nat.eq_of_mul_eq_mul_left (by omega) e6).symm
  show ((Nat.gcd (rn n d).natAbs (rd n d).natAbs : Nat) : Int) = 1
  rw [e5]; rfl
theorem cross {n d : Int} (h : 0 < d) : rn n d * d = n * rd n d := by
  have e1 := rn_mul (n := n) h
  have e2 := rd_mul (n := n) h
  calc rn n d * d = rn n d * (gg n d * rd n d) := by rw [← e2]
    _ = gg n d * rn n d * rd n d := by rw [Int.mul_comm (gg n d) (rn n d), Int.mul_assoc]
    _ = n * rd n d := by rw [← e1]
/-- a number has one spelling without a common divisor -/
theorem low_uniq {p q r s : Int} (h1 : Low p q) (h2 : Low r s) (e : p * s = r * q) : p = r ∧ q = s := by
  have c1 : Nat.Coprime p.natAbs q.natAbs := by
    have := h1.one
    unfold gg at this
    exact Int.ofNat_inj.mp this
  have c2 : Nat.Coprime r.natAbs s.natAbs := by
    have := h2.one
    unfold gg at this
    exact Int.ofNat_inj.mp this
  have en : p.natAbs * s.natAbs = r.natAbs * q.natAbs := by rw [← Int.natAbs_mul, ← Int.natAbs_mul, e]
  have d1 : q.natAbs ∣ s.natAbs := c1.symm.dvd_of_dvd_mul_left (by rw [en]; exact Nat.dvd_mul_left _ _)
  have d2 : s.natAbs ∣ q.natAbs := c2.symm.dvd_of_dvd_mul_left (by rw [← en]; exact Nat.dvd_mul_left _ _)
  have eq : q.natAbs = s.natAbs := Nat.dvd_antisymm d1 d2
  have hq := h1.pos
  have hs := h2.pos
  have qs : q = s := by omega
  refine ⟨?_, qs⟩
  rw [qs] at e
  exact Int.eq_of_mul_eq_mul_right (by omega) e
theorem low_eq {n d m e : Int} (hd : 0 < d) (he : 0 < e) (h : n * e = m * d) : rn n d = rn m e ∧ rd n d = rd m e := by
  refine low_uniq (low_r hd) (low_r he) ?_
  have c1 := cross (n := n) hd
  have c2 := cross (n := m) he
  refine Int.eq_of_mul_eq_mul_right (a := d * e) (by have := Int.mul_pos hd he; omega) ?_
  calc rn n d * rd m e * (d * e) = (rn n d * d) * (rd m e * e) := by rw [Int.mul_assoc, Int.mul_left_comm (rd m e) d e, ← Int.mul_assoc]
    _ = (n * e) * (rd n d * rd m e) := by rw [c1, Int.mul_assoc, Int.mul_assoc, Int.mul_comm (rd m e) e, Int.mul_left_comm (rd n d) e (rd m e)]
    _ = (m * d) * (rd n d * rd m e) := by rw [h]
    _ = m * rd m e * (rd n d * d) := by rw [Int.mul_assoc, Int.mul_assoc, Int.mul_comm (rd n d) (rd m e), Int.mul_left_comm d (rd m e) (rd n d), Int.mul_comm d (rd n d)]
    _ = rn m e * rd n d * (d * e) := by rw [← c2, Int.mul_assoc, Int.mul_assoc, Int.mul_left_comm e (rd n d) d, Int.mul_comm e d]
theorem low_id {n d : Int} (h : Low n d) : rn n d = n ∧ rd n d = d := by
  unfold rn rd
  rw [h.one]
  exact ⟨Int.ediv_one _, Int.ediv_one _⟩
theorem rn_abs {n d : Int} (h : 0 < d) : (rn n d).natAbs ≤ n.natAbs := by
  have e : n.natAbs = (gg n d).natAbs * (rn n d).natAbs := by rw [← Int.natAbs_mul, ← rn_mul h]
  have g := gg_pos (n := n) h
  have : 1 * (rn n d).natAbs ≤ (gg n d).natAbs * (rn n d).natAbs := Nat.mul_le_mul_right _ (by omega)
  omega
theorem rd_abs {n d : Int} (h : 0 < d) : (rd n d).natAbs ≤ d.natAbs := by
  have e : d.natAbs = (gg n d).natAbs * (rd n d).natAbs := by rw [← Int.natAbs_mul, ← rd_mul h]
  have g := gg_pos (n := n) h
  have : 1 * (rd n d).natAbs ≤ (gg n d).natAbs * (rd n d).natAbs := Nat.mul_le_mul_right _ (by omega)
  omega
theorem gg_le {n d : Int} (h : 0 < d) : gg n d ≤ d := by
  have : Nat.gcd n.natAbs d.natAbs ≤ d.natAbs := Nat.gcd_le_right _ (by omega)
  unfold gg
  omega
end My
/-! ### the program's numbers -/
namespace My
open PySem PySem.Spec PyProof.Rows L2
abbrev sNumberOf : Stmt := topS 16
abbrev sPlus : Stmt := topS 17
abbrev sMinus : Stmt := topS 18
abbrev sCompared : Stmt := topS 19
abbrev sIsWhole : Stmt := topS 20
abbrev sIsNumber : Stmt := topS 21
abbrev sNeed : Stmt := topS 22
abbrev sLowest : Stmt := topS 23
abbrev sDifference : Stmt := topS 24
theorem scNumberOf : FnScope ["n", "d"] ["n", "d"] (defScope sNumberOf) := ⟨rfl, rfl, rfl, by decide +kernel, rfl, by decide +kernel, by decide +kernel⟩
theorem scPlus : FnScope ["a", "b"] ["a", "b"] (defScope sPlus) := ⟨rfl, rfl, rfl, by decide +kernel, rfl, by decide +kernel, by decide +kernel⟩
theorem scMinus : FnScope ["a", "b"] ["a", "b"] (defScope sMinus) := ⟨rfl, rfl, rfl, by decide +kernel, rfl, by decide +kernel, by decide +kernel⟩
theorem scDifference : FnScope ["a", "b"] ["a", "b"] (defScope sDifference) := ⟨rfl, rfl, rfl, by decide +kernel, rfl, by decide +kernel, by decide +kernel⟩
theorem scCompared : FnScope ["a", "b", "left", "right"] ["a", "b"] (defScope sCompared) := ⟨rfl, rfl, rfl, by decide +kernel, rfl, by decide +kernel, by decide +kernel⟩
theorem scIsWhole : FnScope ["thing"] ["thing"] (defScope sIsWhole) := ⟨rfl, rfl, rfl, by decide +kernel, rfl, by decide +kernel, by decide +kernel⟩
theorem scIsNumber : FnScope ["thing", "n", "d"] ["thing"] (defScope sIsNumber) := ⟨rfl, rfl, rfl, by decide +kernel, rfl, by decide +kernel, by decide +kernel⟩
theorem scNeed : FnScope ["thing", "name"] ["thing", "name"] (defScope sNeed) := ⟨rfl, rfl, rfl, by decide +kernel, rfl, by decide +kernel, by decide +kernel⟩
theorem scLowest : FnScope ["n", "d", "common"] ["n", "d"] (defScope sLowest) := ⟨rfl, rfl, rfl, by decide +kernel, rfl, by decide +kernel, by decide +kernel⟩
/-- an own class of errors over ValueError, without an __init__ -/
structure ExcC (K : PySem.W.Frag) (mg : Str → Option Value) (x : Str) (C : Addr) : Prop where
  g : mg x = some (.ref C)
  q : PySem.W.excIn K C [.type "ValueError", .type "Exception", .type "BaseException", .type "object"] "ValueError.__new__" = true
  k : PySem.W.keepIn K (.ref C) = true
  b : PySem.W.subIn K (.ref C) (.type "BaseException") = some true
  t : PySem.W.typeIn K (.ref C) = some (.type "type")
/-- x is a number: a tuple of two ints, the second one from 1 on, without a common divisor -/
def IsNum (K : PySem.W.Frag) (H : Hp) (x : V) (n d : Int) : Prop := ∃ t, x = .ref t ∧ SqT K H t [.int n, .int d] ∧ Low n d
/-- x is none -/
def NoNum (K : PySem.W.Frag) (H : Hp) (x : V) : Prop := (∃ T, TyB K H x T ∧ T ≠ "tuple") ∨ (∃ t xs, x = .ref t ∧ SqT K H t xs ∧ xs.length ≠ 2) ∨
  (∃ t y z Ty Tz, x = .ref t ∧ SqT K H t [y, z] ∧ TyB K H y Ty ∧ TyB K H z Tz ∧ (Ty ≠ "int" ∨ Tz ≠ "int")) ∨ (∃ t n d, x = .ref t ∧ SqT K H t [.int n, .int d] ∧ ¬ Low n d)
structure NumTxt (K : PySem.W.Frag) (mg : Str → Option Value) (g1 g2 g3 g4 g5 g6 g7 g8 CN CD : Addr) (e1 e2 e3 e4 e5 e6 e7 e8 : FuncData) : Prop where
  type : mg "type" = none
  int : mg "int" = none
  tuple : mg "tuple" = none
  len : mg "len" = none
  gcd : mg "gcd" = some (.builtin "math.gcd")
  number : ExcC K mg "NoNumber" CN
  divisor : ExcC K mg "NoDivisor" CD
  FNumberOf : Fun K "number_of" "number_of" sNumberOf g1 e1
  bNumberOf : Binds K e1 ["n", "d"] []
  gNumberOf : mg "number_of" = some (.ref g1)
  FPlus : Fun K "plus" "plus" sPlus g2 e2
  bPlus : Binds K e2 ["a", "b"] []
  gPlus : mg "plus" = some (.ref g2)
  FMinus : Fun K "minus" "minus" sMinus g3 e3
  bMinus : Binds K e3 ["a", "b"] []
  gMinus : mg "minus" = some (.ref g3)
  FCompared : Fun K "compared" "compared" sCompared g4 e4
  bCompared : Binds K e4 ["a", "b"] []
  gCompared : mg "compared" = some (.ref g4)
  FIsWhole : Fun K "is_whole" "is_whole" sIsWhole g5 e5
  bIsWhole : Binds K e5 ["thing"] []
  gIsWhole : mg "is_whole" = some (.ref g5)
  FIsNumber : Fun K "is_number" "is_number" sIsNumber g6 e6
  bIsNumber : Binds K e6 ["thing"] []
  gIsNumber : mg "is_number" = some (.ref g6)
  FNeed : Fun K "need_number" "need_number" sNeed g7 e7
  bNeed : Binds K e7 ["thing", "name"] []
  gNeed : mg "need_number" = some (.ref g7)
  FLowest : Fun K "lowest" "lowest" sLowest g8 e8
  bLowest : Binds K e8 ["n", "d"] []
  gLowest : mg "lowest" = some (.ref g8)
  diff : ∃ (g9 : Addr) (e9 : FuncData), Fun K "difference" "difference" sDifference g9 e9 ∧ Binds K e9 ["a", "b"] [] ∧ mg "difference" = some (.ref g9)
/-! ### the promises -/
def spIsWhole (K : PySem.W.Frag) : Sp := fun vs H Q _ => ∃ x T, vs = [x] ∧ TyB K H x T ∧ Q (.bl (decide (T = "int"))) H
def spIsNumber (K : PySem.W.Frag) : Sp := fun vs H Q _ => ∃ x, vs = [x] ∧ ((∃ n d, IsNum K H x n d ∧ Q (.bl true) H) ∨ (NoNum K H x ∧ Q (.bl false) H))
def spNeed (K : PySem.W.Frag) (CN : Addr) : Sp := fun vs H Q E => ∃ x z, vs = [x, .str z] ∧ z.length ≤ 100 ∧ ((∃ n d, IsNum K H x n d ∧ Q .non H) ∨ (NoNum K H x ∧ E (.ref CN) none H))
def spLowest : Sp := fun vs H Q _ => ∃ n d, vs = [.int n, .int d] ∧ 0 < d ∧ d.natAbs < 2 ^ 8900 ∧ ∀ t, H t = none → Q (.ref t) (upd H t (.tup [.int (rn n d), .int (rd n d)]))
section
variable {P : Program} {w : World} {K : PySem.W.Frag} {mg : Str → Option Value} {base : Heap} {g1 g2 g3 g4 g5 g6 g7 g8 CN CD : Addr} {e1 e2 e3 e4 e5 e6 e7 e8 : FuncData}
theorem ok_isWhole (T : NumTxt K mg g1 g2 g3 g4 g5 g6 g7 g8 CN CD e1 e2 e3 e4 e5 e6 e7 e8) {k : Nat} : FnOk P w K mg base CX0 (k + 1) g5 e5 ["thing"] (spIsWhole K) := by
  refine T.FIsWhole.ok scIsWhole (fun vs H Q E h => ?_) (fun cdv A outer s H vs Q E hr h => ?_)
  · obtain ⟨x, t, rfl, _⟩ := h
    rfl
  · obtain ⟨x, t, rfl, ht, q⟩ := h
    refine ⟨_, (pss_one (ps_ret (pe_cmpR op_eqTy (pe_callTy call_type1 (by rfl) T.type (by decide +kernel) (pa_cons (pv 0) pa_nil)) (pe_bltn (v := .ty "int") (by rfl) T.int (by decide +kernel) rfl) (nomark _)))), ?_⟩
    exact ⟨_, rfl, _, _, rfl, ht, _, _, rfl, rfl, tyB_ty ht, TypeEq.meta_int, q⟩
theorem ok_isNumber (T : NumTxt K mg g1 g2 g3 g4 g5 g6 g7 g8 CN CD e1 e2 e3 e4 e5 e6 e7 e8) {k : Nat} : FnOk P w K mg base CX0 (k + 2) g6 e6 ["thing"] (spIsNumber K) := by
  have GW : FnOk P w K mg base CX0 (k + 1) g5 e5 ["thing"] (spIsWhole K) := ok_isWhole T
  refine T.FIsNumber.ok scIsNumber (fun vs H Q E h => ?_) (fun cdv A outer s H vs Q E hr h => ?_)
  · obtain ⟨x, rfl, _⟩ := h
    rfl
  · obtain ⟨x, rfl, h⟩ := h
    refine ⟨_, (pss_cons (ps_if (PW.pt (pw_or (pt_cmpR op_neTy (pe_callTy call_type1 (by rfl) T.type (by decide +kernel) (pa_cons (pv 0) pa_nil)) (pe_bltn (v := .ty "tuple") (by rfl) T.tuple (by decide +kernel) rfl) (nomark _)) (pw_or1 (pt_cmpR op_ne (pe_callB call_len_seq (by rfl) T.len PySem.boot_len (pa_cons (pv 0) pa_nil)) pe_int (nomark _))))) (pss_one (ps_ret pe_bl)) pss_nil)
 (pss_cons (ps_asg (pv 0) (pg_tup rfl (pgs_cons (pg_name (i := 1) scIsNumber.nd rfl (.inl rfl)) (pgs_cons (pg_name (i := 2) scIsNumber.nd rfl (.inl rfl)) pgs_nil))))
 (pss_one (ps_ret (pe_and (pe_call GW hr (by rfl) T.gIsWhole T.FIsWhole.kp T.bIsWhole .nil pass0 (pa_cons (pv 1) pa_nil)) (pe_and (pe_call GW hr (by rfl) T.gIsWhole T.FIsWhole.kp T.bIsWhole .nil pass0 (pa_cons (pv 2) pa_nil)) (pe_and (pe_cmpR op_gt (pv 2) pe_int (nomark _)) (pe_one (pe_cmpR op_eq (pe_callBfun cr_gcd (by rfl) T.gcd (pa_cons (pv 1) (pa_cons (pv 2) pa_nil))) pe_int (nomark _)))))))))), ?_⟩
    have h' : (∃ Ty, TyB K H x Ty ∧ Ty ≠ "tuple" ∧ Q (.bl false) H) ∨ (∃ t xs, x = .ref t ∧ SqT K H t xs ∧ xs.length ≠ 2 ∧ Q (.bl false) H) ∨
        (∃ t y z Ty Tz, x = .ref t ∧ SqT K H t [y, z] ∧ TyB K H y Ty ∧ TyB K H z Tz ∧ ∀ b : Bool, ((b = true ∧ ∃ n d, y = .int n ∧ z = .int d ∧ Low n d) ∨ (b = false ∧ ∀ n d, y = .int n → z = .int d → ¬ Low n d)) → Q (.bl b) H) := by
      rcases h with ⟨n, d, ⟨t, rfl, hS, hl⟩, q⟩ | ⟨h, q⟩
      · refine .inr (.inr ⟨t, _, _, _, _, rfl, hS, .int n, .int d, fun b hb => ?_⟩)
        rcases hb with ⟨rfl, _⟩ | ⟨_, hb⟩
        · exact q
        · exact absurd hl (hb n d rfl rfl)
      · rcases h with ⟨Ty, h1, h2⟩ | ⟨t, xs, rfl, hS, hl⟩ | ⟨t, y, z, Ty, Tz, rfl, hS, hy, hz, hne⟩ | ⟨t, n, d, rfl, hS, hl⟩
        · exact .inl ⟨Ty, h1, h2, q⟩
        · exact .inr (.inl ⟨t, xs, rfl, hS, hl, q⟩)
        · refine .inr (.inr ⟨t, y, z, Ty, Tz, rfl, hS, hy, hz, fun b hb => ?_⟩)
          rcases hb with ⟨_, n, d, rfl, rfl, _⟩ | ⟨rfl, _⟩
          · cases hy
            cases hz
            rcases hne with z | z <;> exact absurd rfl z
          · exact q
        · refine .inr (.inr ⟨t, _, _, _, _, rfl, hS, .int n, .int d, fun b hb => ?_⟩)
          rcases hb with ⟨_, n', d', e1, e2, hb⟩ | ⟨rfl, _⟩
          · cases e1
            cases e2
            exact absurd hb hl
          · exact q
    rcases h' with ⟨Ty, h1, h2, q⟩ | ⟨t, xs, rfl, hS, hl, q⟩ | ⟨t, y, z, Ty, Tz, rfl, hS, hy, hz, q⟩
    · refine ⟨_, rfl, _, _, rfl, h1, _, _, rfl, rfl, tyB_ty h1, TypeEq.meta_tuple, _, rfl, ?_⟩
      rw [decide_eq_false h2]
      exact iteT (iteT q)
    · refine ⟨_, rfl, _, _, rfl, TyB.tup hS, _, _, rfl, rfl, TypeEq.meta_tuple, TypeEq.meta_tuple, _, rfl, iteF ⟨_, rfl, t, _, rfl, .inr hS, rfl, _, rfl, ?_⟩⟩
      have e : decide (V.int (xs.length : Int) = V.int 2) = false := decide_eq_false fun z => hl (by have := V.int.inj z; omega)
      show if (!decide (V.int (xs.length : Int) = V.int 2)) = true then _ else _
      rw [e]
      exact iteT q
    · refine ⟨_, rfl, _, _, rfl, TyB.tup hS, _, _, rfl, rfl, TypeEq.meta_tuple, TypeEq.meta_tuple, _, rfl, iteF ⟨_, rfl, t, _, rfl, .inr hS, rfl, _, rfl, iteF ?_⟩⟩
      refine ⟨_, rfl, t, _, rfl, hS, rfl, y, [z], rfl, z, [], rfl, rfl, ?_⟩
      refine ⟨_, rfl, y, Ty, rfl, hy, _, rfl, ?_⟩
      by_cases ey : Ty = "int"
      · rw [decide_eq_true ey]
        refine iteT ⟨_, rfl, z, Tz, rfl, hz, _, rfl, ?_⟩
        by_cases ez : Tz = "int"
        · rw [decide_eq_true ez]
          obtain ⟨n, rfl⟩ : ∃ n, y = .int n := by
            cases hy <;> first | exact ⟨_, rfl⟩ | exact absurd ey (by decide)
          obtain ⟨d, rfl⟩ : ∃ n, z = .int n := by
            cases hz <;> first | exact ⟨_, rfl⟩ | exact absurd ez (by decide)
          refine iteT ⟨_, rfl, _, _, rfl, rfl, _, rfl, ?_⟩
          by_cases d0 : 0 < d
          · rw [decide_eq_true d0]
            refine iteT ⟨_, rfl, _, rfl, n, d, rfl, rfl, ?_⟩
            refine q _ ?_
            by_cases e : gg n d = 1
            · exact .inl ⟨decide_eq_true (congrArg V.int e), n, d, rfl, rfl, d0, e⟩
            · exact .inr ⟨decide_eq_false fun z => e (V.int.inj z), fun n' d' e1 e2 l => e (by cases e1; cases e2; exact l.one)⟩
          · rw [decide_eq_false d0]
            exact iteF (q false (.inr ⟨rfl, fun n' d' e1 e2 l => d0 (by cases e1; cases e2; exact l.pos)⟩))
        · rw [decide_eq_false ez]
          exact iteF (q false (.inr ⟨rfl, fun n d _ e2 _ => ez (by subst e2; cases hz; rfl)⟩))
      · rw [decide_eq_false ey]
        exact iteF (q false (.inr ⟨rfl, fun n d e1 _ _ => ey (by subst e1; cases hy; rfl)⟩))
theorem ok_lowest (T : NumTxt K mg g1 g2 g3 g4 g5 g6 g7 g8 CN CD e1 e2 e3 e4 e5 e6 e7 e8) {k : Nat} : FnOk P w K mg base CX0 (k + 1) g8 e8 ["n", "d"] spLowest := by
  refine T.FLowest.ok scLowest (fun vs H Q E h => ?_) (fun cdv A outer s H vs Q E hr h => ?_)
  · obtain ⟨n, d, rfl, _⟩ := h
    rfl
  · obtain ⟨n, d, rfl, d0, d1, q⟩ := h
    refine ⟨_, (pss_cons (ps_set (i := 2) scLowest.nd rfl (.inl rfl) (pe_callBfun cr_gcd (by rfl) T.gcd (pa_cons (pv 0) (pa_cons (pv 1) pa_nil))))
 (pss_one (ps_ret (pe_tup (pa_cons (pe_op op_fdivW (pv 0) (pv 2)) (pa_cons (pe_op op_fdivW (pv 1) (pv 2)) pa_nil)))))), ?_⟩
    have c : CDivW n (gg n d) := wide_div (gg_pos d0) (b := 8900) (Nat.lt_of_le_of_lt (by have := gg_le (n := n) d0; have := gg_pos (n := n) d0; omega) d1) (by decide) (by decide)
    exact ⟨_, rfl, _, rfl, n, d, rfl, _, rfl, _, rfl, _, _, rfl, rfl, c, _, rfl, _, rfl, _, _, rfl, rfl, c, (by show 2 ≤ sizeLine; decide), fun t ht => q t ht⟩
theorem ok_need (T : NumTxt K mg g1 g2 g3 g4 g5 g6 g7 g8 CN CD e1 e2 e3 e4 e5 e6 e7 e8) {k : Nat} : FnOk P w K mg base (L2.CX P w) (k + 3) g7 e7 ["thing", "name"] (spNeed K CN) := by
  have GN : FnOk P w K mg base CX0 (k + 2) g6 e6 ["thing"] (spIsNumber K) := ok_isNumber T
  refine T.FNeed.okX scNeed (fun vs H Q E h => ?_) (fun cdv A outer s H vs Q E hr h => ?_)
  · obtain ⟨x, z, rfl, _⟩ := h
    rfl
  · obtain ⟨x, z, rfl, hz, h⟩ := h
    refine ⟨_, (pss_one (ps_if (pt_not (pt_val (pe_call GN hr (by rfl) T.gIsNumber T.FIsNumber.kp T.bIsNumber .nil pass0 (pa_cons (pv 0) pa_nil)))) (pss_one (ps_raise rfl (takes_of rfl rfl rfl rfl) (SkE.pmk_own1 PySem.F.excBase_ValueError T.number.q T.number.g T.number.k (raises_own T.number.b T.number.t) (by exact rfl) (pe_joined (.cons (pe_fmt (pv 1)) (.cons pe_str .nil)))))) pss_nil)), ?_⟩
    have hz1 : (Str.empty ++ z).length ≤ sizeLine := by
      have : (Str.empty ++ z).length = Str.empty.length + z.length := Str.length_append _ _
      have : Str.empty.length = 0 := rfl
      exact Nat.le_trans (by omega : _ ≤ 100) (by decide)
    have hz2 : (Str.empty ++ z ++ Str.ofString " is not a number").length ≤ sizeLine := by
      have : (Str.empty ++ z ++ Str.ofString " is not a number").length = (Str.empty ++ z).length + (Str.ofString " is not a number").length := Str.length_append _ _
      have : (Str.empty ++ z).length = Str.empty.length + z.length := Str.length_append _ _
      have : Str.empty.length = 0 := rfl
      have : (Str.ofString " is not a number").length = 16 := by decide +kernel
      exact Nat.le_trans (by omega : _ ≤ 116) (by decide)
    rcases h with ⟨n, d, hn, q⟩ | ⟨hn, e⟩
    · exact ⟨_, rfl, x, rfl, .inl ⟨n, d, hn, _, rfl, iteF q⟩⟩
    · exact ⟨_, rfl, x, rfl, .inr ⟨hn, _, rfl, iteT ⟨_, rfl, .inl ⟨z, rfl, Nat.le_trans hz (by decide), z, rfl, hz1, _, rfl, hz2, e⟩⟩⟩⟩
def spNumberOf (K : PySem.W.Frag) (CN CD : Addr) : Sp := fun vs H Q E => ∃ x y, vs = [x, y] ∧
  ((∃ n d, x = .int n ∧ y = .int d ∧ 0 < d ∧ d.natAbs < 2 ^ 8900 ∧ ∀ t, H t = none → Q (.ref t) (upd H t (.tup [.int (rn n d), .int (rd n d)]))) ∨
   (∃ Ty, TyB K H x Ty ∧ Ty ≠ "int" ∧ E (.ref CN) none H) ∨ (∃ n Ty, x = .int n ∧ TyB K H y Ty ∧ Ty ≠ "int" ∧ E (.ref CD) none H) ∨ (∃ n d, x = .int n ∧ y = .int d ∧ d < 1 ∧ E (.ref CD) none H))
theorem ok_numberOf (T : NumTxt K mg g1 g2 g3 g4 g5 g6 g7 g8 CN CD e1 e2 e3 e4 e5 e6 e7 e8) {k : Nat} : FnOk P w K mg base (L2.CX P w) (k + 2) g1 e1 ["n", "d"] (spNumberOf K CN CD) := by
  have GW : FnOk P w K mg base CX0 (k + 1) g5 e5 ["thing"] (spIsWhole K) := ok_isWhole T
  have GL : FnOk P w K mg base CX0 (k + 1) g8 e8 ["n", "d"] spLowest := ok_lowest T
  refine T.FNumberOf.okX scNumberOf (fun vs H Q E h => ?_) (fun cdv A outer s H vs Q E hr h => ?_)
  · obtain ⟨x, y, rfl, _⟩ := h
    rfl
  · obtain ⟨x, y, rfl, h⟩ := h
    refine ⟨_, (pss_cons (ps_if (pt_not (pt_val (pe_call GW hr (by rfl) T.gIsWhole T.FIsWhole.kp T.bIsWhole .nil pass0 (pa_cons (pv 0) pa_nil)))) (pss_one (ps_raise rfl (takes_of rfl rfl rfl rfl) (SkE.pmk_own1 PySem.F.excBase_ValueError T.number.q T.number.g T.number.k (raises_own T.number.b T.number.t) (by exact rfl) pe_str))) pss_nil)
 (pss_cons (ps_if (PW.pt (pw_or (pt_not (pt_val (pe_call GW hr (by rfl) T.gIsWhole T.FIsWhole.kp T.bIsWhole .nil pass0 (pa_cons (pv 1) pa_nil)))) (pw_or1 (pt_cmpR op_lt (pv 1) pe_int (nomark _))))) (pss_one (ps_raise rfl (takes_of rfl rfl rfl rfl) (SkE.pmk_own1 PySem.F.excBase_ValueError T.divisor.q T.divisor.g T.divisor.k (raises_own T.divisor.b T.divisor.t) (by exact rfl) pe_str))) pss_nil)
 (pss_one (ps_ret (pe_call GL hr (by rfl) T.gLowest T.FLowest.kp T.bLowest .nil pass0 (pa_cons (pv 0) (pa_cons (pv 1) pa_nil))))))), ?_⟩
    rcases h with ⟨n, d, rfl, rfl, d0, d1, q⟩ | ⟨Ty, hT, hne, e⟩ | ⟨n, Ty, rfl, hT, hne, e⟩ | ⟨n, d, rfl, rfl, d0, e⟩
    · refine ⟨_, rfl, _, _, rfl, TyB.int n, _, rfl, iteF ?_⟩
      refine ⟨_, rfl, _, _, rfl, TyB.int d, _, rfl, iteF ⟨_, rfl, _, _, rfl, rfl, _, rfl, ?_⟩⟩
      rw [decide_eq_false (show ¬ d < 1 by omega)]
      exact iteF ⟨_, rfl, _, rfl, n, d, rfl, d0, d1, q⟩
    · refine ⟨_, rfl, _, _, rfl, hT, _, rfl, ?_⟩
      rw [decide_eq_false hne]
      exact iteT e
    · refine ⟨_, rfl, _, _, rfl, TyB.int n, _, rfl, iteF ?_⟩
      refine ⟨_, rfl, _, _, rfl, hT, _, rfl, ?_⟩
      rw [decide_eq_false hne]
      exact iteT (iteT e)
    · refine ⟨_, rfl, _, _, rfl, TyB.int n, _, rfl, iteF ?_⟩
      refine ⟨_, rfl, _, _, rfl, TyB.int d, _, rfl, iteF ⟨_, rfl, _, _, rfl, rfl, _, rfl, ?_⟩⟩
      rw [decide_eq_true d0]
      exact iteT e
/-- the size that the reckoning of two numbers stays in -/
def Sml (n : Int) : Prop := n.natAbs < 2 ^ 4000
theorem Sml.mul {n m : Int} (a : Sml n) (b : Sml m) : CMulW n m := wide_mul a b (by decide) (by decide) (by decide)
theorem Sml.lt {n m : Int} (a : Sml n) (b : Sml m) : (n * m).natAbs < 2 ^ 8900 :=
  Nat.lt_of_lt_of_le (wide_lt (a := 4000) (b := 4000) a b) (Nat.pow_le_pow_right (n := 2) (by decide) (show 4000 + 4000 ≤ 8900 by decide))
def spArith (K : PySem.W.Frag) (CN : Addr) (f : Int → Int → Int → Int → Int) : Sp := fun vs H Q E => ∃ x y, vs = [x, y] ∧
  ((∃ n d m e, IsNum K H x n d ∧ IsNum K H y m e ∧ Sml n ∧ Sml d ∧ Sml m ∧ Sml e ∧ ∀ t, H t = none → Q (.ref t) (upd H t (.tup [.int (rn (f n d m e) (d * e)), .int (rd (f n d m e) (d * e))]))) ∨
   (NoNum K H x ∧ E (.ref CN) none H) ∨ (∃ n d, IsNum K H x n d ∧ NoNum K H y ∧ E (.ref CN) none H))
def fPlus (n d m e : Int) : Int := n * e + m * d
def fMinus (n d m e : Int) : Int := n * e - m * d
theorem seqT_at0 {K : PySem.W.Frag} {H : Hp} {t : Addr} {a b : V} (_ : SqT K H t [a, b]) : atI [a, b] 0 = some a := rfl
theorem ok_plus (T : NumTxt K mg g1 g2 g3 g4 g5 g6 g7 g8 CN CD e1 e2 e3 e4 e5 e6 e7 e8) {k : Nat} : FnOk P w K mg base (L2.CX P w) (k + 4) g2 e2 ["a", "b"] (spArith K CN fPlus) := by
  have GN : FnOk P w K mg base (L2.CX P w) (k + 3) g7 e7 ["thing", "name"] (spNeed K CN) := ok_need T
  have GL : FnOk P w K mg base CX0 (k + 3) g8 e8 ["n", "d"] spLowest := ok_lowest T
  refine T.FPlus.okX scPlus (fun vs H Q E h => ?_) (fun cdv A outer s H vs Q E hr h => ?_)
  · obtain ⟨x, y, rfl, _⟩ := h
    rfl
  · obtain ⟨x, y, rfl, h⟩ := h
    refine ⟨_, (pss_cons (ps_expr (pe_call GN hr (by rfl) T.gNeed T.FNeed.kp T.bNeed .nil (passes_call (takes_of rfl rfl rfl rfl) (fun _ _ _ _ h => h)) (pa_cons (pv 0) (pa_cons pe_str pa_nil))))
 (pss_cons (ps_expr (pe_call GN hr (by rfl) T.gNeed T.FNeed.kp T.bNeed .nil (passes_call (takes_of rfl rfl rfl rfl) (fun _ _ _ _ h => h)) (pa_cons (pv 1) (pa_cons pe_str pa_nil))))
 (pss_one (ps_ret (pe_call GL hr (by rfl) T.gLowest T.FLowest.kp T.bLowest .nil pass0 (pa_cons (pe_op op_add (pe_op op_mulW (pe_ix ix_tup (pv 0) pe_int (fun _ _ => rfl)) (pe_ix ix_tup (pv 1) pe_int (fun _ _ => rfl))) (pe_op op_mulW (pe_ix ix_tup (pv 1) pe_int (fun _ _ => rfl)) (pe_ix ix_tup (pv 0) pe_int (fun _ _ => rfl)))) (pa_cons (pe_op op_mulW (pe_ix ix_tup (pv 0) pe_int (fun _ _ => rfl)) (pe_ix ix_tup (pv 1) pe_int (fun _ _ => rfl))) pa_nil))))))), ?_⟩
    rcases h with ⟨n, d, m, e, ⟨ta, rfl, ha, la⟩, ⟨tb, rfl, hb, lb⟩, s1, s2, s3, s4, q⟩ | ⟨hn, hE⟩ | ⟨n, d, hx, hn, hE⟩
    · refine ⟨_, rfl, _, _, rfl, by decide +kernel, .inl ⟨n, d, ⟨ta, rfl, ha, la⟩, ?_⟩⟩
      refine ⟨_, rfl, _, _, rfl, by decide +kernel, .inl ⟨m, e, ⟨tb, rfl, hb, lb⟩, ?_⟩⟩
      refine ⟨_, rfl, ta, _, 0, .int n, rfl, rfl, ha, rfl, _, rfl, tb, _, 1, .int e, rfl, rfl, hb, rfl, _, _, rfl, rfl, s1.mul s4, ?_⟩
      refine ⟨_, rfl, tb, _, 0, .int m, rfl, rfl, hb, rfl, _, rfl, ta, _, 1, .int d, rfl, rfl, ha, rfl, _, _, rfl, rfl, s3.mul s2, _, _, rfl, rfl, ?_⟩
      refine ⟨_, rfl, ta, _, 1, .int d, rfl, rfl, ha, rfl, _, rfl, tb, _, 1, .int e, rfl, rfl, hb, rfl, _, _, rfl, rfl, s2.mul s4, ?_⟩
      exact ⟨_, _, rfl, Int.mul_pos la.pos lb.pos, s2.lt s4, q⟩
    · exact ⟨_, rfl, _, _, rfl, by decide +kernel, .inr ⟨hn, hE⟩⟩
    · exact ⟨_, rfl, _, _, rfl, by decide +kernel, .inl ⟨n, d, hx, _, rfl, _, _, rfl, by decide +kernel, .inr ⟨hn, hE⟩⟩⟩
def spDiff (K : PySem.W.Frag) : Sp := fun vs H Q _ => ∃ x y n d m e, vs = [x, y] ∧ IsNum K H x n d ∧ IsNum K H y m e ∧ Sml n ∧ Sml d ∧ Sml m ∧ Sml e ∧ ∀ t, H t = none → Q (.ref t) (upd H t (.tup [.int (rn (fMinus n d m e) (d * e)), .int (rd (fMinus n d m e) (d * e))]))
theorem ok_diff (T : NumTxt K mg g1 g2 g3 g4 g5 g6 g7 g8 CN CD e1 e2 e3 e4 e5 e6 e7 e8) {g9 : Addr} {e9 : FuncData} (F9 : Fun K "difference" "difference" sDifference g9 e9) {k : Nat} : FnOk P w K mg base CX0 (k + 2) g9 e9 ["a", "b"] (spDiff K) := by
  have GL : FnOk P w K mg base CX0 (k + 1) g8 e8 ["n", "d"] spLowest := ok_lowest T
  refine F9.ok scDifference (fun vs H Q E h => ?_) (fun cdv A outer s H vs Q E hr h => ?_)
  · obtain ⟨x, y, n, d, m, e, rfl, _⟩ := h
    rfl
  · obtain ⟨x, y, n, d, m, e, rfl, ⟨ta, rfl, ha, la⟩, ⟨tb, rfl, hb, lb⟩, s1, s2, s3, s4, q⟩ := h
    refine ⟨_, (pss_one (ps_ret (pe_call GL hr (by rfl) T.gLowest T.FLowest.kp T.bLowest .nil pass0 (pa_cons (pe_op op_sub (pe_op op_mulW (pe_ix ix_tup (pv 0) pe_int (fun _ _ => rfl)) (pe_ix ix_tup (pv 1) pe_int (fun _ _ => rfl))) (pe_op op_mulW (pe_ix ix_tup (pv 1) pe_int (fun _ _ => rfl)) (pe_ix ix_tup (pv 0) pe_int (fun _ _ => rfl)))) (pa_cons (pe_op op_mulW (pe_ix ix_tup (pv 0) pe_int (fun _ _ => rfl)) (pe_ix ix_tup (pv 1) pe_int (fun _ _ => rfl))) pa_nil))))), ?_⟩
    refine ⟨_, rfl, ta, _, 0, .int n, rfl, rfl, ha, rfl, _, rfl, tb, _, 1, .int e, rfl, rfl, hb, rfl, _, _, rfl, rfl, s1.mul s4, ?_⟩
    refine ⟨_, rfl, tb, _, 0, .int m, rfl, rfl, hb, rfl, _, rfl, ta, _, 1, .int d, rfl, rfl, ha, rfl, _, _, rfl, rfl, s3.mul s2, _, _, rfl, rfl, ?_⟩
    refine ⟨_, rfl, ta, _, 1, .int d, rfl, rfl, ha, rfl, _, rfl, tb, _, 1, .int e, rfl, rfl, hb, rfl, _, _, rfl, rfl, s2.mul s4, ?_⟩
    exact ⟨_, _, rfl, Int.mul_pos la.pos lb.pos, s2.lt s4, q⟩
theorem ok_minus (T : NumTxt K mg g1 g2 g3 g4 g5 g6 g7 g8 CN CD e1 e2 e3 e4 e5 e6 e7 e8) {k : Nat} : FnOk P w K mg base (L2.CX P w) (k + 4) g3 e3 ["a", "b"] (spArith K CN fMinus) := by
  have GN : FnOk P w K mg base (L2.CX P w) (k + 3) g7 e7 ["thing", "name"] (spNeed K CN) := ok_need T
  obtain ⟨g9, e9, F9, b9, m9⟩ := T.diff
  have GD : FnOk P w K mg base CX0 (k + 3) g9 e9 ["a", "b"] (spDiff K) := ok_diff T F9 (k := k + 1)
  refine T.FMinus.okX scMinus (fun vs H Q E h => ?_) (fun cdv A outer s H vs Q E hr h => ?_)
  · obtain ⟨x, y, rfl, _⟩ := h
    rfl
  · obtain ⟨x, y, rfl, h⟩ := h
    refine ⟨_, (pss_cons (ps_expr (pe_call GN hr (by rfl) T.gNeed T.FNeed.kp T.bNeed .nil (passes_call (takes_of rfl rfl rfl rfl) (fun _ _ _ _ h => h)) (pa_cons (pv 0) (pa_cons pe_str pa_nil))))
 (pss_cons (ps_expr (pe_call GN hr (by rfl) T.gNeed T.FNeed.kp T.bNeed .nil (passes_call (takes_of rfl rfl rfl rfl) (fun _ _ _ _ h => h)) (pa_cons (pv 1) (pa_cons pe_str pa_nil))))
 (pss_one (ps_ret (pe_call GD hr (by rfl) m9 F9.kp b9 .nil pass0 (pa_cons (pv 0) (pa_cons (pv 1) pa_nil))))))), ?_⟩
    rcases h with ⟨n, d, m, e, ⟨ta, rfl, ha, la⟩, ⟨tb, rfl, hb, lb⟩, s1, s2, s3, s4, q⟩ | ⟨hn, hE⟩ | ⟨n, d, hx, hn, hE⟩
    · refine ⟨_, rfl, _, _, rfl, by decide +kernel, .inl ⟨n, d, ⟨ta, rfl, ha, la⟩, ?_⟩⟩
      refine ⟨_, rfl, _, _, rfl, by decide +kernel, .inl ⟨m, e, ⟨tb, rfl, hb, lb⟩, ?_⟩⟩
      exact ⟨_, rfl, _, rfl, _, _, n, d, m, e, rfl, ⟨ta, rfl, ha, la⟩, ⟨tb, rfl, hb, lb⟩, s1, s2, s3, s4, q⟩
    · exact ⟨_, rfl, _, _, rfl, by decide +kernel, .inr ⟨hn, hE⟩⟩
    · exact ⟨_, rfl, _, _, rfl, by decide +kernel, .inl ⟨n, d, hx, _, rfl, _, _, rfl, by decide +kernel, .inr ⟨hn, hE⟩⟩⟩
def cmpI (n d m e : Int) : Int := if n * e = m * d then 0 else if n * e < m * d then -1 else 1
def spCompared (K : PySem.W.Frag) (CN : Addr) : Sp := fun vs H Q E => ∃ x y, vs = [x, y] ∧
  ((∃ n d m e, IsNum K H x n d ∧ IsNum K H y m e ∧ Sml n ∧ Sml d ∧ Sml m ∧ Sml e ∧ Q (.int (cmpI n d m e)) H) ∨
   (NoNum K H x ∧ E (.ref CN) none H) ∨ (∃ n d, IsNum K H x n d ∧ NoNum K H y ∧ E (.ref CN) none H))
theorem ok_compared (T : NumTxt K mg g1 g2 g3 g4 g5 g6 g7 g8 CN CD e1 e2 e3 e4 e5 e6 e7 e8) {k : Nat} : FnOk P w K mg base (L2.CX P w) (k + 4) g4 e4 ["a", "b"] (spCompared K CN) := by
  have GN : FnOk P w K mg base (L2.CX P w) (k + 3) g7 e7 ["thing", "name"] (spNeed K CN) := ok_need T
  refine T.FCompared.okX scCompared (fun vs H Q E h => ?_) (fun cdv A outer s H vs Q E hr h => ?_)
  · obtain ⟨x, y, rfl, _⟩ := h
    rfl
  · obtain ⟨x, y, rfl, h⟩ := h
    refine ⟨_, (pss_cons (ps_expr (pe_call GN hr (by rfl) T.gNeed T.FNeed.kp T.bNeed .nil (passes_call (takes_of rfl rfl rfl rfl) (fun _ _ _ _ h => h)) (pa_cons (pv 0) (pa_cons pe_str pa_nil))))
 (pss_cons (ps_expr (pe_call GN hr (by rfl) T.gNeed T.FNeed.kp T.bNeed .nil (passes_call (takes_of rfl rfl rfl rfl) (fun _ _ _ _ h => h)) (pa_cons (pv 1) (pa_cons pe_str pa_nil))))
 (Evl.pss_cut (ps_par (i := 2) (j := 3) (by rfl) scCompared.nd rfl rfl (by decide) rfl rfl (pa_cons (pe_op op_mulW (pe_ix ix_tup (pv 0) pe_int (fun _ _ => rfl)) (pe_ix ix_tup (pv 1) pe_int (fun _ _ => rfl))) (pa_cons (pe_op op_mulW (pe_ix ix_tup (pv 1) pe_int (fun _ _ => rfl)) (pe_ix ix_tup (pv 0) pe_int (fun _ _ => rfl))) pa_nil)) (by rfl))
 (pss_cons (ps_if (pt_cmpR op_eq (pv 2) (pv 3) (nomark _)) (pss_one (ps_ret pe_int)) pss_nil)
 (pss_one (ps_ret (pe_ifExp (pt_cmpR op_lt (pv 2) (pv 3) (nomark _)) (pe_un un_neg pe_int) pe_int))))))), ?_⟩
    rcases h with ⟨n, d, m, e, ⟨ta, rfl, ha, la⟩, ⟨tb, rfl, hb, lb⟩, s1, s2, s3, s4, q⟩ | ⟨hn, hE⟩ | ⟨n, d, hx, hn, hE⟩
    · refine ⟨_, rfl, _, _, rfl, by decide +kernel, .inl ⟨n, d, ⟨ta, rfl, ha, la⟩, ?_⟩⟩
      refine ⟨_, rfl, _, _, rfl, by decide +kernel, .inl ⟨m, e, ⟨tb, rfl, hb, lb⟩, ?_⟩⟩
      refine ⟨fun σ H' => σ = [some (.ref ta), some (.ref tb), some (.int (n * e)), some (.int (m * d))] ∧ H' = H, ?_, ?_⟩
      · refine ⟨_, rfl, ta, _, 0, .int n, rfl, rfl, ha, rfl, _, rfl, tb, _, 1, .int e, rfl, rfl, hb, rfl, _, _, rfl, rfl, s1.mul s4, ?_⟩
        exact ⟨_, rfl, tb, _, 0, .int m, rfl, rfl, hb, rfl, _, rfl, ta, _, 1, .int d, rfl, rfl, ha, rfl, _, _, rfl, rfl, s3.mul s2, _, _, rfl, rfl, rfl⟩
      rintro σ H' ⟨rfl, rfl⟩
      unfold cmpI at q
      refine ⟨_, rfl, _, rfl, rfl, _, rfl, ite2 (fun z => ?_) (fun z => ?_)⟩
      · rw [if_pos (V.int.inj (of_decide_eq_true z))] at q
        exact q
      · have z' : ¬ n * e = m * d := fun y => z (decide_eq_true (congrArg V.int y))
        rw [if_neg z'] at q
        refine ⟨_, rfl, _, rfl, _, _, rfl, rfl, _, rfl, ite2 (fun y => ?_) (fun y => ?_)⟩
        · rw [if_pos (of_decide_eq_true y)] at q
          exact ⟨_, rfl, q⟩
        · rw [if_neg (fun u => y (decide_eq_true u))] at q
          exact q
    · exact ⟨_, rfl, _, _, rfl, by decide +kernel, .inr ⟨hn, hE⟩⟩
    · exact ⟨_, rfl, _, _, rfl, by decide +kernel, .inl ⟨n, d, hx, _, rfl, _, _, rfl, by decide +kernel, .inr ⟨hn, hE⟩⟩⟩
end
end My
/-! ### an error that is caught is kept: try: .. except X as n: m = n -/
namespace My
open PySem PySem.Spec PyProof.Rows L2
/-- an error of the class at C stands at a -/
def IsErr (C a : Addr) (h : Heap) : Prop := ∃ (oe : Obj) (vs : Array Value), h.get? a = some oe ∧ Zc (.ref C) none oe ∧ oe.data = .fields vs
def ErrV (C a : Addr) : HO := .ext (IsErr C a)
theorem err_ok {P : Program} {w : World} {H : Hp} {h : Heap} {C a : Addr} (e : IsErr C a h) : ObjOk P w H h a (ErrV C a) := by
  obtain ⟨oe, vs, e1, e2, e3⟩ := id e
  exact ⟨e, ⟨oe, e1⟩, fun _ _ ⟨o, v, q, r⟩ k => ⟨o, v, k o q, r⟩⟩
section
variable {X : Cx} {pins : List (Addr × Obj)} {σ : L2.St} {H : Hp} {s : Shared}
/-- what stands there anyway, and is tracked by nothing, may be tracked -/
theorem inv_track (I : Inv X pins σ H s) {a : Addr} {o : HO} {oe : Obj} {vs : Array Value} (n0 : X.s_0.heap.get? a = none) (ha : s.heap.get? a = some oe) (hd : oe.data = .fields vs) (na : H a = none)
    (nL : a ≠ X.env.locals) (np : ∀ p ∈ X.pn ++ pins, p.1 ≠ a) (new : ObjOk X.prog X.w (upd H a o) s.heap a o) : Inv X pins σ (upd H a o) s where
  ok := I.ok
  os := I.os
  bare := I.bare
  base := by
    have ne : ∀ b u, X.s_0.heap.get? b = some u → b ≠ a := fun b u e z => by
      rw [z, n0] at e
      cases e
    exact {
      keep := I.base.keep, slot := I.base.slot, there := I.base.there,
      free := fun b u e n x => by rw [upd_ne (ne b u e)]; exact I.base.free b u e n x,
      tups := fun b xs e => (by have q := I.base.tups b xs e; rw [upd_ne (ne_of_none q na)]; exact q),
      frzs := fun b u x e => (by have q := I.base.frzs b u x e; rw [upd_ne (ne_of_none q na)]; exact q),
      tbls := fun b ps e => (by obtain ⟨m, q⟩ := I.base.tbls b ps e; exact ⟨m, by rw [upd_ne (ne_of_none q na)]; exact q⟩) }
  loc := I.loc
  cell := I.cell
  free := by rw [upd_ne nL.symm]; exact I.free
  freeC := fun x c e => by
    have ne : c ≠ a := fun z => by
      obtain ⟨v, oc, hc, hv⟩ := I.cell x c e
      rw [z, ha] at hc
      cases hc
      rw [hd] at hv
      cases hv
    rw [upd_ne ne]
    exact I.freeC x c e
  pin := fun p hp => by
    obtain ⟨p1, p2, p3, p4, p5⟩ := I.pin p hp
    exact ⟨p1, by rw [upd_ne (np p hp)]; exact p2, p3, p4, p5⟩
  hok := I.hok.laidN (fun _ _ e => e) na new
  len := I.len
end
/-- the wish: the class is the clause's, what the suite does with it, and the error is tracked behind -/
def wKeep (K : PySem.W.Frag) (c : Value) (i : Nat) (ts : TS) (D : Ends) : WX := fun cls d σ H =>
  PySem.W.exmOne K cls c = some true ∧ d = none ∧ ∃ C, cls = .ref C ∧ ∀ a, H a = none → ts { nx := fun σ' H' => H' a = none → D.nx (σ'.set i none) (upd H' a (ErrV C a)), rt := fun _ _ => False } (σ.set i (some (.ref a))) H
section
variable {X : Cx} {x n : Str} {c : Value} {i : Nat} {body suite : List Stmt} {b₀ : Stmt} {np pos pos' : Pos} {tb : WX → TS} {ts : TS}
theorem ps_try_keep (hs : X.stack = X.env :: X.outer) (hf : X.env.frame = some X.env.locals) (hex : X.ex = []) (hN : X.N.Nodup) (hi : X.N[i]? = some n) (hln : X.env.kindOf n = some .local) (hc : Names X x c)
    (hb : ∀ (W : WX) (pl : List (Addr × Obj)) (ex : Value → Shared → Prop), Takes (X.tr pl ex) W → PassesOwn (model X.prog X.w) X.A X.env ex → PSs (X.tr pl ex) body (tb W))
    (hsu : ∀ (a : Addr) (oe : Obj) (pl : List (Addr × Obj)), PSs (X.suite a ((a, oe) :: pl)) (b₀ :: suite) ts) :
    PS X (.Try body [.ExceptHandler (some (.Name x np)) (some n) (b₀ :: suite) pos'] [] [] pos) (fun D σ H => tb (wKeep X.K c i ts D) D σ H) := by
  constructor
  intro pins s σ H D I h
  have okX := I.ok
  have frames : X.A.frames = some (X.env :: X.outer) := okX.frames.trans (congrArg some hs)
  refine wpAny_Try_except ?_
  refine wpAny_mono ((hb (wKeep X.K c i ts D) (X.pn ++ pins)
    (fun e s₁ => wpAny (model X.prog X.w) X.A (noteFrame e X.env) (fun _ s₂ => wpAny (model X.prog X.w) X.A (setFlight e none) (fun _ s₃ =>
      wpAny (model X.prog X.w) X.A (handleBy e X.env [.ExceptHandler (some (.Name x np)) (some n) (b₀ :: suite) pos']) (SP X pins D) X.xe s₃) X.xe s₂) X.xe s₁)
    (fun u s2 air => ?caught) PassesOwn.looking).run [] s σ H D (I.toTry _) h) (fun f s1 ends => ?through) (fun e s1 he => he)
  case caught =>
    obtain ⟨a, B, sI, pins2, σ2, H2, cls, d, rfl, I2, under, upto, sky, freeA, osE, bareG, match1, dn, C, rfl, go⟩ := air
    subst dn
    have J := I2.ofTry okX
    rw [hs] at sky
    show wpAny (model X.prog X.w) X.A (noteFrame (.ref a) X.env) _ _ _
    refine Sky.land Zc.steady frames hf sky fun h3 fly3 upto3 => ?_
    obtain ⟨oe3, vs3, at3, cls3, data3⟩ := fly3.there
    have noFrame : ∀ {hh : Heap} {oo : Obj} {vv : Array Value}, hh.FunFrames B (X.env :: X.outer) → hh.get? a = some oo → oo.data = .fields vv → a ∉ frs (X.env :: X.outer) := by
      intro hh oo vv ff e1 e2 mem
      obtain ⟨_, o2, e3, bad⟩ := ff.mem mem
      rw [e1] at e3
      cases e3
      exact bad _ e2
    have nfr := noFrame fly3.2.2.1 at3 data3
    have nL : a ≠ X.env.locals := by
      intro z
      refine nfr (List.mem_filterMap.mpr ⟨X.env, List.mem_cons_self, ?_⟩)
      rw [hf, z]
    have nF : a ∉ X.fs := by
      intro mem
      obtain ⟨e, he, q⟩ := List.mem_filterMap.mp mem
      exact nfr (List.mem_filterMap.mpr ⟨e, List.mem_cons_of_mem _ he, q⟩)
    -- it is new: it does not stand in the state without it
    have newI : sI.heap.get? a = none := by
      cases q : sI.heap.get? a with
      | none => rfl
      | some u =>
        have z := under a u q (by rw [hs]; exact nfr)
        rw [fly3.2.1] at z
        cases z
    have new0 : X.s_0.heap.get? a = none := by
      cases q : X.s_0.heap.get? a with
      | none => rfl
      | some u =>
        obtain ⟨u2, z⟩ := J.base.there a u q (by rw [hex]; exact fun z => nomatch z)
        rw [newI] at z
        cases z
    have offPins : ∀ p ∈ X.pn ++ pins, p.1 ≠ a := by
      intro p hp z
      have q := (J.pin p hp).1
      rw [z, newI] at q
      cases q
    have J3 : Inv X pins σ2 H2 { s2 with heap := h3 } := J.landed under fly3.1 (upto.trans upto3) osE bareG
    have S3 := J3.suite at3 data3 freeA nL nF
    refine wpAny_handleBy_cons (codeAny_handlers_test ?_) (fun q => by cases q)
    have typeIs : PySem.W.Looks (model X.prog X.w) h3 (typeOf (.ref a)) (.ref C) := fun A Q E st k q => wpAny_typeOf_ref (k _ _ at3) (by rw [cls3.1]; exact q)
    have looks := PySem.W.exm_one (M := model X.prog X.w) J3.kIn typeIs match1
    have nameIs : ∀ {Q : Value → Shared → Prop} {E : Value → Shared → Prop}, Q c { s2 with heap := h3 } → wpAny (model X.prog X.w) (X.A.mark (some (.ref a))) (eval (.Name x np) X.env) Q E { s2 with heap := h3 } := by
      intro Q E q
      rcases hc with ⟨g1, g2, m1 | ⟨m1, m2, m3⟩⟩
      · exact ld_glob (X := X.suite a ((a, oe3) :: (X.pn ++ pins))) S3 g1 m1 q g2
      · exact ld_blt (X := X.suite a ((a, oe3) :: (X.pn ++ pins))) S3 g1 m1 m2 q m3 g2
    refine nameIs (looks.here ?_)
    refine codeAny_handlers_suite_as ?_
    refine HandSPX.lands_againZ fly3 fun h4 fly4 upto4 => ?_
    have J4 : Inv X pins σ2 H2 { s2 with heap := h4 } := J.landed under fly4.1 ((upto.trans upto3).trans upto4) osE bareG
    obtain ⟨oe4, vs4, at4, cls4, data4⟩ := fly4.there
    have S4 := J4.suite at4 data4 freeA nL nF
    refine store_ok (X := X.suite a ((a, oe4) :: (X.pn ++ pins))) (v := .ref a) S4 hN hi (.inl hln) rfl (fun s5 S5 => ?_) (.inr hln)
    refine wpAny_mono ((hsu a oe4 (X.pn ++ pins)).run [] s5 _ H2 _ S5 (go a freeA)) (fun f s6 ends => ?_) (fun _ _ z => z.elim)
    match f, ends with
    | .ret _, ends => exact (let ⟨_, _, _, _, _, z⟩ := ends; z.elim)
    | .brk, ends => exact (let ⟨_, _, _, z⟩ := ends; z.elim)
    | .cont, ends => exact (let ⟨_, _, _, z⟩ := ends; z.elim)
    | .next, ends =>
      obtain ⟨σ6, H6, S6, q6⟩ := ends
      obtain ⟨at6, free6, _⟩ := S6.pin (a, oe4) (List.mem_append.mpr (.inl List.mem_cons_self))
      have J6 := inv_track (o := ErrV C a) (S6.unsuite okX) new0 at6 data4 free6 nL offPins (err_ok ⟨oe4, vs4, at6, cls4, data4⟩)
      exact gone_ok J6 hN hi hln fun s7 J7 => ⟨_, _, J7, q6 free6⟩
  case through =>
    match f, ends with
    | .next, ⟨σ', H', J', q⟩ => exact wpAny_execs_nil ⟨σ', H', J'.ofTry okX, q⟩
    | .brk, ⟨σ', H', J', q⟩ => exact ⟨σ', H', J'.ofTry okX, q⟩
    | .cont, ⟨σ', H', J', q⟩ => exact ⟨σ', H', J'.ofTry okX, q⟩
    | .ret u, ⟨v, σ', H', J', r, q⟩ => exact ⟨v, σ', H', J'.ofTry okX, r, q⟩
end
end My
/-! ### isinstance of an error that is tracked; a text times an int -/
namespace My
open PySem PySem.Spec PyProof.Rows L2
/-- what the classes D of errors must say: nothing of their own stands in isinstance's way -/
def errFacts (K : PySem.W.Frag) (D : Addr) : Bool :=
  (PySem.W.findIn K (.ref D) "__getattribute__" == some (some (.builtin "BaseException.__getattribute__"))) && ((PySem.W.findIn K (.ref D) "__getattr__" == some none) && ((PySem.W.subIn K (.ref D) (.type "BaseException") == some true) &&
  (PySem.W.hasDictIn K D && ((PySem.W.findIn K (.ref D) "__class__" == some (some (.builtin "object.__class__"))) && ((PySem.W.specialIn K (.builtin "object.__class__") "__get__" == some (some (.builtin "getset_descriptor.__get__"))) &&
  ((PySem.W.takesIn K (.builtin "object.__class__") == some true) && (PySem.W.mroIn K D (.type "object") == some true)))))))
theorem errFacts_to {K : PySem.W.Frag} {D : Addr} (h : errFacts K D = true) : L2.ExcC K D := by
  unfold errFacts at h
  simp only [Bool.and_eq_true, beq_iff_eq] at h
  obtain ⟨h1, h2, h3, h4, h5, h6, h7, h8⟩ := h
  exact ⟨h1, h2, h3, h4, h5, h6, h7, h8⟩
/-- what an error of the class at D needs to be raised, made, caught and asked for -/
def mkFacts (K : PySem.W.Frag) (D : Addr) : Bool :=
  PySem.W.excIn K D [.type "ValueError", .type "Exception", .type "BaseException", .type "object"] "ValueError.__new__" && (PySem.W.keepIn K (.ref D) && ((PySem.W.subIn K (.ref D) (.type "BaseException") == some true) && ((PySem.W.typeIn K (.ref D) == some (.type "type")) && errFacts K D)))
/-- it is of the class at c, or not -/
def kitB (K : PySem.W.Frag) (D : Addr) (c : Value) (b : Bool) : Bool := PySem.W.kitOne K (.ref D) c == some b
/-- a tracked thing at a is an error of the class at D -/
def ErrAt (H : Hp) (a D : Addr) : Prop := ∃ φ, H a = some (.ext φ) ∧ ∀ h, φ h → IsErr D a h
theorem ErrAt.same {H H' : Hp} {a D : Addr} (h : ErrAt H a D) (s : Same H H') : ErrAt H' a D := by
  obtain ⟨φ, e, q⟩ := h
  exact ⟨φ, s _ _ e, q⟩
theorem errV_at {H : Hp} {a D : Addr} : ErrAt (upd H a (ErrV D a)) a D := ⟨_, upd_same, fun _ h => h⟩
theorem exO_at {H : Hp} {a D : Addr} (e : H a = some (ExO (.ref D) a)) : ErrAt H a D := ⟨_, e, fun h ⟨oe, vs, h1, h2, h3, _⟩ => ⟨oe, vs, h1, h2, h3⟩⟩
section
variable {X : Cx}
def rIsErr (K : PySem.W.Frag) : List V → Hp → VK → Prop := fun xs H Q => ∃ (a D : Addr) (c : V) (u : Value) (b : Bool), xs = [.ref a, c] ∧ ErrAt H a D ∧ errFacts K D = true ∧ ClsV c u ∧ kitB K D u b = true ∧ Q (.bl b) H
theorem call_isErr : CallR X (.builtin "isinstance") (rIsErr X.K) := by
  intro pins s σ H xs us Q I r h
  obtain ⟨a, D, c, u, b, rfl, ⟨φ, ha, hφ⟩, hF, hc, hk, q⟩ := h
  have C := errFacts_to hF
  cases r with
  | cons r1 rr =>
    cases rr with
    | cons r2 r3 =>
      cases r3
      cases r1
      cases hc.eq r2
      obtain ⟨oe, vs, e1, ⟨e2, e3⟩, e4⟩ := hφ _ (I.hok a _ ha).1
      have J : PySem.W.InstAt s.heap a oe D none := by
        obtain ⟨oc, od, dt, sl⟩ := oe
        dsimp only at e2 e3 e4
        subst e2 e3 e4
        exact ⟨e1, rfl, rfl, trivial⟩
      exact PySem.W.kia_one (PySem.W.handS_kitx_exc C.hg C.hk C.hs C.hd C.ha C.hn C.ht C.hm) I.kIn J (beq_iff_eq.mp hk) (fun z => nomatch z) fun tk => ⟨.bl b, H, I.tok tk, rfl, q⟩
/-- s * n, of small ones: some text -/
theorem op_mulS : OpR X (binaryOp .Mult) (fun x y H Q => ∃ (z : Str) (n : Int), x = .str z ∧ y = .int n ∧ z.length ≤ 1000 ∧ -1000 ≤ n ∧ n ≤ 1000 ∧ ∀ t : Str, Q (.str t) H) := by
  intro pins s σ H x y v u Q I rx ry h
  obtain ⟨z, n, rfl, rfl, hz, h0, h1, q⟩ := h
  obtain ⟨t, rfl⟩ := rx
  obtain ⟨t', rfl⟩ := ry
  refine SB.mul ⟨?_, fun h2 _ => ?_, fun h2 _ => ?_⟩ fun t2 k => ⟨.str _, H, I.tok k, ⟨_, rfl⟩, q _⟩
  · rw [Bool.or_eq_false_iff]
    exact ⟨decide_eq_false (by omega), decide_eq_false (by omega)⟩
  · have h3 : (1000 : Int) ≤ (2 ^ 63 - 1) / n := (Int.le_ediv_iff_mul_le (by omega)).mpr (by omega)
    omega
  · have h4 : z.length * n.toNat ≤ 1000 * 1000 := Nat.mul_le_mul hz (by omega)
    exact decide_eq_false (by rw [sizeLine_eq]; omega)
end
end My
/-! ### the law's word for what an act raises -/
namespace My
open PySem PySem.Spec PyProof.Rows L2
theorem count_of {y : V} : ∀ {ys : List V} {us : List Value}, Vals ys us → ys.all flatV = true → us.countP (eqU y) = ys.countP (fun z => eqV z y)
  | _, _, .nil, _ => rfl
  | _, _, .cons r t, h => by
    rw [List.all_cons, Bool.and_eq_true] at h
    rw [List.countP_cons, List.countP_cons, count_of t h.2, eqU_of r h.1]
section
variable {X : Cx}
/-- xs.count(y), all flat -/
def rCountF (K : PySem.W.Frag) : V → List V → Hp → VK → Prop := fun x xs H Q => ∃ (a : Addr) (ys : List V) (y : V), x = V.ref a ∧ xs = [y] ∧ SqL K H a ys ∧ flatV y = true ∧ ys.all flatV = true ∧ Q (.int ((ys.countP fun z => eqV z y : Nat) : Int)) H
theorem mt_countF : MtR X "list.count" (rCountF X.K) := by
  intro pins s σ H x xs v us Q I rx rxs h
  obtain ⟨a, ys, y, rfl, rfl, hs, fy, fys, q⟩ := h
  cases rx
  cases rxs with
  | cons ry rt =>
    rename_i uy ut
    cases rt
    obtain ⟨its, rv, ⟨⟨cls, dd, data, sl⟩, n, ho, hc, hdn, hd⟩, hlen⟩ := I.list hs
    simp only at hc hd
    subst hc hd
    refine call_meets PySem.F.slot_list_count ⟨_, ho, rfl⟩ PySem.F.entry_list_count (PySem.F.args_list_count_2 _ _) (SeqAt.list_countAt a its.toArray n dd sl uy (eqU y)) ⟨ho, fun u hu => mem_eqAt ry fy rv fys u (by simpa using hu), ?_⟩
    refine ⟨.int ((ys.countP fun z => eqV z y : Nat) : Int), H, I.tok _, ⟨s.toks, ?_⟩, q⟩
    have ec : its.toArray.toList.countP (eqU y) = ys.countP (fun z => eqV z y) := count_of rv fys
    show Value.int ((its.toArray.toList.countP (eqU y) : Nat) : Int) s.toks = Value.int ((ys.countP (fun z => eqV z y) : Nat) : Int) s.toks
    rw [ec]
end
abbrev sWord : Stmt := topS 31
theorem scWord : FnScope ["act", "caught", "e", "some", "words"] ["act"] (defScope sWord) := ⟨rfl, rfl, rfl, by decide +kernel, rfl, by decide +kernel, by decide +kernel⟩
def kitW (K : PySem.W.Frag) (cs : List Addr) : Bool := (List.range 12).all fun i => (List.range 12).all fun j => kitB K (cs.getD i 0) (.ref (cs.getD j 0)) (decide (i = j))
def upW (K : PySem.W.Frag) (cs : List Addr) (CL : Addr) : Bool := (List.range 12).all fun i => mkFacts K (cs.getD i 0) && (kitB K (cs.getD i 0) (.type "ValueError") true && (PySem.W.exmOne K (.ref (cs.getD i 0)) (.ref CL) == some true))
structure WordTxt (K : PySem.W.Frag) (mg : Str → Option Value) (C0 C1 C2 C3 C4 C5 C6 C7 C8 C9 C10 C11 CL : Addr) : Prop where
  isi : mg "isinstance" = none
  ve : mg "ValueError" = none
  later : mg "LaterError" = some (.ref CL)
  c0 : mg "NoMachine" = some (.ref C0)
  c1 : mg "NoPlain" = some (.ref C1)
  c2 : mg "NoLetters" = some (.ref C2)
  c3 : mg "NoRule" = some (.ref C3)
  c4 : mg "NoRow" = some (.ref C4)
  c5 : mg "NoWord" = some (.ref C5)
  c6 : mg "NoNumber" = some (.ref C6)
  c7 : mg "NoDivisor" = some (.ref C7)
  c8 : mg "NoMatch" = some (.ref C8)
  c9 : mg "TooGreat" = some (.ref C9)
  c10 : mg "NoLimit" = some (.ref C10)
  c11 : mg "HasRow" = some (.ref C11)
  all : kitW K [C0, C1, C2, C3, C4, C5, C6, C7, C8, C9, C10, C11] = true
  up : upW K [C0, C1, C2, C3, C4, C5, C6, C7, C8, C9, C10, C11] CL = true
theorem kitW_of {K : PySem.W.Frag} {cs : List Addr} (h : kitW K cs = true) {i : Nat} (hi : i < 12) (j : Nat) (hj : j < 12) : kitB K (cs.getD i 0) (.ref (cs.getD j 0)) (decide (i = j)) = true := by
  unfold kitW at h
  simp only [List.all_eq_true, List.mem_range] at h
  exact h i hi j hj
theorem upW_of {K : PySem.W.Frag} {cs : List Addr} {CL : Addr} (h : upW K cs CL = true) {i : Nat} (hi : i < 12) : mkFacts K (cs.getD i 0) = true ∧ kitB K (cs.getD i 0) (.type "ValueError") true = true ∧ PySem.W.exmOne K (.ref (cs.getD i 0)) (.ref CL) = some true := by
  unfold upW at h
  simp only [List.all_eq_true, List.mem_range, Bool.and_eq_true, beq_iff_eq] at h
  exact h i hi
theorem err_of {K : PySem.W.Frag} {D : Addr} (h : mkFacts K D = true) : errFacts K D = true := by
  unfold mkFacts at h
  simp only [Bool.and_eq_true] at h
  exact h.2.2.2.2
/-- which of the classes it is -/
def mark (i n : Nat) : List Bool := (List.range n).map fun j => decide (i = j)
def theWords : List Str := ["machine", "plain", "letters", "rule", "row", "word", "number", "divisor", "match", "great", "limit", "has"]
/-- the word for the i-th class -/
def wordOf (i : Nat) : Str := theWords.getD i "odd"
theorem word_at {i : Nat} (h : i < 12) : (theWords.map V.str)[i]? = some (.str (wordOf i)) := by
  have h2 : i < theWords.length := h
  rw [List.getElem?_map, List.getElem?_eq_getElem h2]
  unfold wordOf
  rw [List.getD_eq_getElem?_getD, List.getElem?_eq_getElem h2]
  rfl
theorem mark_count : ∀ i, i < 12 → ((mark i 12).map V.bl).countP (fun z => eqV z (.bl true)) = 1 := by decide
theorem mark_flat : ∀ i, i < 12 → ((mark i 12).map V.bl).all flatV = true := by decide
theorem mark_at {i : Nat} (h : i < 12) : ((mark i 12).map V.bl)[i]? = some (.bl true) := by
  unfold mark
  rw [List.getElem?_map, List.getElem?_map, List.getElem?_range h]
  simp
theorem mark_not {i m : Nat} (h : i < 12) (hm : m < i) (z : V) (hz : ((mark i 12).map V.bl)[m]? = some z) : eqV z (.bl true) = false := by
  unfold mark at hz
  rw [List.getElem?_map, List.getElem?_map, List.getElem?_range (by omega)] at hz
  obtain rfl := Option.some.inj hz
  show eqV (V.bl (decide (i = m))) (.bl true) = false
  rw [decide_eq_false (show ¬ i = m by omega)]
  rfl
/-- what the law's word makes of an act's reading -/
def TTword (cs : List Addr) : (XK → Hp → VK → Prop) → Hp → VK → Prop := fun tl H Q =>
  tl (fun cls d H' => ∃ i, i < 12 ∧ cls = .ref (cs.getD i 0) ∧ d = none ∧ ∀ H'' : Hp, Same H' H'' → Q (.str (wordOf i)) H'') H (fun _ H' => ∀ H'' : Hp, Same H' H'' → Q (.str "fine") H'')
theorem takes_len {X : Cx} {W : WX} (tk : Takes X W) : Takes X (fun c d σ H => σ.length = X.N.length → W c d σ H) := by
  rintro u s' ⟨a, B, sI, pins, σ, H, cls, d, e, I, nb, up, sky, na, os, ag, w⟩
  exact tk u s' ⟨a, B, sI, pins, σ, H, cls, d, e, I, nb, up, sky, na, os, ag, w I.len⟩
/-- behind the act: an error is caught, or nothing is raised -/
def wordMid (cs : List Addr) (Q : VK) (σ : L2.St) (H' : Hp) : Prop :=
  (∃ (x0 x3 x4 : Option V) (a : Addr) (i : Nat), σ = [x0, some (.ref a), none, x3, x4] ∧ i < 12 ∧ ErrAt H' a (cs.getD i 0) ∧ ∀ H'' : Hp, Same H' H'' → Q (.str (wordOf i)) H'') ∨
  ((∃ (x0 x2 x3 x4 : Option V), σ = [x0, some .non, x2, x3, x4]) ∧ ∀ H'' : Hp, Same H' H'' → Q (.str "fine") H'')
section
variable {X : Cx} {C0 C1 C2 C3 C4 C5 C6 C7 C8 C9 C10 C11 CL : Addr}
theorem word_gives {q : Str} {g : Addr} {cdg : Value} (T : WordTxt X.K X.mg C0 C1 C2 C3 C4 C5 C6 C7 C8 C9 C10 C11 CL) : LamX.GivesTo X ["act", "caught", "e", "some", "words"] "_law_x_word" (defScope sWord) g cdg (defBody sWord) "act" q (TTword [C0, C1, C2, C3, C4, C5, C6, C7, C8, C9, C10, C11]) := by
  intro f c' s H Q tl act hc h
  refine ⟨_, (pss_cons (ps_set (i := 1) scWord.nd rfl (.inl rfl) pe_non)
 (Evl.pss_cut (ps_try_keep (i := 2) (tb := fun W D σ H => ∃ Ech : XK, (∀ cls d σ' H', Ech cls d H' → σ'.length = 5 → W cls d σ' H') ∧ σ[0]? = some (some (.ref f)) ∧ H c' = some (LamX.CodeO c' q) ∧ tl Ech H (fun _ H1 => D.nx σ H1)) rfl rfl rfl scWord.nd rfl rfl ⟨rfl, by decide, .inl T.later⟩
      (fun W pl ex tk _ => ⟨fun pins s1 σ1 H1 D1 I1 h1 => (let ⟨Ech, hW, z1, z2, z3⟩ := h1; (pss_one (ps_expr (act _ pl ex Ech _ _ (takes_len tk) hW))).run pins s1 σ1 H1 D1 I1 ⟨z1, z2, z3⟩)⟩)
      (fun a oe pl => (pss_one (ps_set (i := 1) scWord.nd rfl (.inl rfl) (pv 2)))))
 (Evl.pss_cut (ps_if (pt_cmpR op_isN (pv 1) pe_non (nomark _)) (pss_one (ps_ret pe_str)) pss_nil)
 (Evl.pss_cut (ps_set (i := 3) scWord.nd rfl (.inl rfl) (pe_lst (pa_cons (pe_callB call_isErr (by rfl) T.isi (by decide +kernel) (pa_cons (pv 1) (pa_cons (pe_glob (v := .ref C0) (by rfl) T.c0 rfl) pa_nil))) (pa_cons (pe_callB call_isErr (by rfl) T.isi (by decide +kernel) (pa_cons (pv 1) (pa_cons (pe_glob (v := .ref C1) (by rfl) T.c1 rfl) pa_nil))) (pa_cons (pe_callB call_isErr (by rfl) T.isi (by decide +kernel) (pa_cons (pv 1) (pa_cons (pe_glob (v := .ref C2) (by rfl) T.c2 rfl) pa_nil))) pa_nil)))))
 (Evl.pss_cut (ps_set (i := 3) scWord.nd rfl (.inl rfl) (pe_op op_cat (pv 3) (pe_lst (pa_cons (pe_callB call_isErr (by rfl) T.isi (by decide +kernel) (pa_cons (pv 1) (pa_cons (pe_glob (v := .ref C3) (by rfl) T.c3 rfl) pa_nil))) (pa_cons (pe_callB call_isErr (by rfl) T.isi (by decide +kernel) (pa_cons (pv 1) (pa_cons (pe_glob (v := .ref C4) (by rfl) T.c4 rfl) pa_nil))) (pa_cons (pe_callB call_isErr (by rfl) T.isi (by decide +kernel) (pa_cons (pv 1) (pa_cons (pe_glob (v := .ref C5) (by rfl) T.c5 rfl) pa_nil))) pa_nil))))))
 (Evl.pss_cut (ps_set (i := 3) scWord.nd rfl (.inl rfl) (pe_op op_cat (pv 3) (pe_lst (pa_cons (pe_callB call_isErr (by rfl) T.isi (by decide +kernel) (pa_cons (pv 1) (pa_cons (pe_glob (v := .ref C6) (by rfl) T.c6 rfl) pa_nil))) (pa_cons (pe_callB call_isErr (by rfl) T.isi (by decide +kernel) (pa_cons (pv 1) (pa_cons (pe_glob (v := .ref C7) (by rfl) T.c7 rfl) pa_nil))) (pa_cons (pe_callB call_isErr (by rfl) T.isi (by decide +kernel) (pa_cons (pv 1) (pa_cons (pe_glob (v := .ref C8) (by rfl) T.c8 rfl) pa_nil))) pa_nil))))))
 (Evl.pss_cut (ps_set (i := 3) scWord.nd rfl (.inl rfl) (pe_op op_cat (pv 3) (pe_lst (pa_cons (pe_callB call_isErr (by rfl) T.isi (by decide +kernel) (pa_cons (pv 1) (pa_cons (pe_glob (v := .ref C9) (by rfl) T.c9 rfl) pa_nil))) (pa_cons (pe_callB call_isErr (by rfl) T.isi (by decide +kernel) (pa_cons (pv 1) (pa_cons (pe_glob (v := .ref C10) (by rfl) T.c10 rfl) pa_nil))) (pa_cons (pe_callB call_isErr (by rfl) T.isi (by decide +kernel) (pa_cons (pv 1) (pa_cons (pe_glob (v := .ref C11) (by rfl) T.c11 rfl) pa_nil))) pa_nil))))))
 (Evl.pss_cut (ps_set (i := 4) scWord.nd rfl (.inl rfl) (pe_lst (pa_cons pe_str (pa_cons pe_str (pa_cons pe_str (pa_cons pe_str (pa_cons pe_str (pa_cons pe_str (pa_cons pe_str (pa_cons pe_str (pa_cons pe_str (pa_cons pe_str (pa_cons pe_str pa_nil)))))))))))))
 (pss_cons (ps_expr (pe_bm PySem.F.plainAttrs_list PySem.F.slot_list_append PySem.F.type_list_append mt_append (pv 4) (pa_cons pe_str pa_nil)))
 (pss_one (ps_ret (pe_ifExp (PW.pt (pw_and (pt_cmpR op_eq (pe_bm PySem.F.plainAttrs_list PySem.F.slot_list_count PySem.F.type_list_count mt_countF (pv 3) (pa_cons pe_bl pa_nil)) pe_int (nomark _)) (pw_and1 (pt_val (pe_callB call_isErr (by rfl) T.isi (by decide +kernel) (pa_cons (pv 1) (pa_cons (pe_bltn (v := .ty "ValueError") (by rfl) T.ve (by decide +kernel) rfl) pa_nil))))))) (pe_ix ix_list (pv 4) (pe_bm PySem.F.plainAttrs_list PySem.F.slot_list_index PySem.F.type_list_index mt_index (pv 3) (pa_cons pe_bl pa_nil)) (fun _ _ => rfl)) pe_str)))))))))))), ?_⟩
  have nonIs : V.bl (decide (V.non = V.non)) = V.bl true := congrArg V.bl (decide_eq_true rfl)
  refine ⟨wordMid [C0, C1, C2, C3, C4, C5, C6, C7, C8, C9, C10, C11] Q, ?_, ?_⟩
  · refine ⟨fun cls d H' => ∃ i, i < 12 ∧ cls = .ref ([C0, C1, C2, C3, C4, C5, C6, C7, C8, C9, C10, C11].getD i 0) ∧ d = none ∧ ∀ H'' : Hp, Same H' H'' → Q (.str (wordOf i)) H'', ?_, rfl, hc, ?_⟩
    · rintro cls d σ' H' ⟨i, hi, rfl, rfl, k⟩ hlen
      obtain ⟨x0, x1, x2, x3, x4, rfl⟩ : ∃ x0 x1 x2 x3 x4, σ' = [x0, x1, x2, x3, x4] := by
        match σ', hlen with
        | [x0, x1, x2, x3, x4], _ => exact ⟨x0, x1, x2, x3, x4, rfl⟩
      refine ⟨(upW_of T.up hi).2.2, rfl, _, rfl, fun a ha => ⟨_, rfl, fun ha2 => ?_⟩⟩
      exact .inl ⟨x0, x3, x4, a, i, rfl, hi, errV_at, fun H'' s2 => k H'' ((same_upd ha).trans s2)⟩
    · have e : (fun (_ : V) (H1 : Hp) => wordMid [C0, C1, C2, C3, C4, C5, C6, C7, C8, C9, C10, C11] Q [some (.ref f), some .non, none, none, none] H1) = fun _ H1 => ∀ H'' : Hp, Same H1 H'' → Q (.str "fine") H'' := by
        funext _ H1
        refine propext ⟨fun z => ?_, fun z => .inr ⟨⟨_, _, _, _, rfl⟩, z⟩⟩
        rcases z with ⟨_, _, _, _, _, e, _⟩ | ⟨_, z⟩
        · simp at e
        · exact z
      show tl _ H (fun (_ : V) (H1 : Hp) => wordMid [C0, C1, C2, C3, C4, C5, C6, C7, C8, C9, C10, C11] Q [some (.ref f), some .non, none, none, none] H1)
      rw [e]
      exact h
  rintro σ H1 (⟨x0, x3, x4, a, i, rfl, hi, hE, k⟩ | ⟨⟨x0, x2, x3, x4, rfl⟩, k⟩)
  · have hF := err_of (upW_of T.up hi).1
    have hV := (upW_of T.up hi).2.1
    have hk := kitW_of T.all hi
    refine ⟨fun σ H' => σ = [x0, some (.ref a), none, x3, x4] ∧ H' = H1, ?_, ?_⟩
    · exact ⟨_, rfl, rfl, false, congrArg V.bl (decide_eq_false (by intro z; cases z)), iteF ⟨rfl, rfl⟩⟩
    rintro σ H1 ⟨rfl, rfl⟩
    refine ⟨fun σ H' => ∃ p, σ = [x0, some (.ref a), none, some (.ref p), x4] ∧ Same H1 H' ∧ H1 p = none ∧ H' p = some (.lst ((mark i 3).map V.bl)), ?_, ?_⟩
    · have hE' := hE
      exact ⟨_, rfl, a, _, _, _, _, rfl, hE', hF, .own _, hk 0 (by decide), _, rfl, a, _, _, _, _, rfl, hE', hF, .own _, hk 1 (by decide), _, rfl, a, _, _, _, _, rfl, hE', hF, .own _, hk 2 (by decide), (by show 3 ≤ sizeLine; decide), fun p hp => ⟨p, rfl, same_upd hp, hp, upd_same⟩⟩
    rintro σ H2 ⟨p, rfl, s0, hp0, hp⟩
    refine ⟨fun σ H' => ∃ p, σ = [x0, some (.ref a), none, some (.ref p), x4] ∧ Same H1 H' ∧ H1 p = none ∧ H' p = some (.lst ((mark i 6).map V.bl)), ?_, ?_⟩
    · have hE' := hE.same s0
      refine ⟨_, rfl, _, rfl, a, _, _, _, _, rfl, hE', hF, .own _, hk 3 (by decide), _, rfl, a, _, _, _, _, rfl, hE', hF, .own _, hk 4 (by decide), _, rfl, a, _, _, _, _, rfl, hE', hF, .own _, hk 5 (by decide), (by show 3 ≤ sizeLine; decide), fun q2 hq2 => ?_⟩
      refine ⟨p, q2, _, _, rfl, rfl, same_upd hq2 _ _ hp, upd_same, (by show 6 ≤ sizeLine; decide), fun r hr2 => ⟨r, rfl, (s0.trans (same_upd hq2)).trans (same_upd hr2), (s0.trans (same_upd hq2)).free hr2, upd_same⟩⟩
    rintro σ H2 ⟨p, rfl, s0, hp0, hp⟩
    refine ⟨fun σ H' => ∃ p, σ = [x0, some (.ref a), none, some (.ref p), x4] ∧ Same H1 H' ∧ H1 p = none ∧ H' p = some (.lst ((mark i 9).map V.bl)), ?_, ?_⟩
    · have hE' := hE.same s0
      refine ⟨_, rfl, _, rfl, a, _, _, _, _, rfl, hE', hF, .own _, hk 6 (by decide), _, rfl, a, _, _, _, _, rfl, hE', hF, .own _, hk 7 (by decide), _, rfl, a, _, _, _, _, rfl, hE', hF, .own _, hk 8 (by decide), (by show 3 ≤ sizeLine; decide), fun q2 hq2 => ?_⟩
      refine ⟨p, q2, _, _, rfl, rfl, same_upd hq2 _ _ hp, upd_same, (by show 9 ≤ sizeLine; decide), fun r hr2 => ⟨r, rfl, (s0.trans (same_upd hq2)).trans (same_upd hr2), (s0.trans (same_upd hq2)).free hr2, upd_same⟩⟩
    rintro σ H2 ⟨p, rfl, s0, hp0, hp⟩
    refine ⟨fun σ H' => ∃ p, σ = [x0, some (.ref a), none, some (.ref p), x4] ∧ Same H1 H' ∧ H1 p = none ∧ H' p = some (.lst ((mark i 12).map V.bl)), ?_, ?_⟩
    · have hE' := hE.same s0
      refine ⟨_, rfl, _, rfl, a, _, _, _, _, rfl, hE', hF, .own _, hk 9 (by decide), _, rfl, a, _, _, _, _, rfl, hE', hF, .own _, hk 10 (by decide), _, rfl, a, _, _, _, _, rfl, hE', hF, .own _, hk 11 (by decide), (by show 3 ≤ sizeLine; decide), fun q2 hq2 => ?_⟩
      refine ⟨p, q2, _, _, rfl, rfl, same_upd hq2 _ _ hp, upd_same, (by show 12 ≤ sizeLine; decide), fun r hr2 => ⟨r, rfl, (s0.trans (same_upd hq2)).trans (same_upd hr2), (s0.trans (same_upd hq2)).free hr2, upd_same⟩⟩
    rintro σ H2 ⟨p, rfl, s0, hp0, hp⟩
    -- the words
    refine ⟨fun σ H' => ∃ l, σ = [x0, some (.ref a), none, some (.ref p), some (.ref l)] ∧ Same H2 H' ∧ H2 l = none ∧ H' l = some (.lst ((theWords.take 11).map V.str)), ?_, ?_⟩
    · exact ⟨(by show 11 ≤ sizeLine; decide), fun l hl => ⟨l, rfl, same_upd hl, hl, upd_same⟩⟩
    rintro σ H3 ⟨l, rfl, s3, hl0, hl⟩
    have npl : p ≠ l := ne_of_none hp hl0
    have hp3 := s3 _ _ hp
    refine ⟨_, rfl, .inl ⟨rfl, _, SqL.of hl⟩, l, _, _, rfl, rfl, hl, (by show 11 < sizeLine; decide), ?_⟩
    have s4 : Same H1 (upd H3 l (.lst ((theWords.take 11).map V.str ++ [.str "has"]))) := fun b o e => by
      have nb : b ≠ l := ne_of_none (s0 _ _ e) hl0
      rw [upd_ne nb]
      exact s3 _ _ (s0 _ _ e)
    have hp4 : (upd H3 l (.lst ((theWords.take 11).map V.str ++ [.str "has"]))) p = some (.lst ((mark i 12).map V.bl)) := by
      rw [upd_ne npl]
      exact hp3
    have hE' := hE.same s4
    refine ⟨_, rfl, .inl ⟨rfl, _, SqL.of hp4⟩, p, _, .bl true, rfl, rfl, SqL.of hp4, rfl, mark_flat i hi, rfl, true, congrArg V.bl (decide_eq_true (by rw [mark_count i hi]; rfl)), iteT ?_⟩
    refine ⟨_, rfl, a, _, _, _, _, rfl, hE', hF, .ty _, hV, _, rfl, iteT ?_⟩
    refine ⟨_, rfl, _, rfl, .inl ⟨rfl, _, SqL.of hp4⟩, p, _, .bl true, i, .bl true, rfl, rfl, SqL.of hp4, rfl, mark_flat i hi, mark_at hi, rfl, fun m z hm hz => mark_not hi hm z hz, ?_⟩
    exact ⟨l, theWords.map V.str, (i : Int), .str (wordOf i), rfl, rfl, SqL.of upd_same, atI_nat (word_at hi), k _ s4⟩
  · refine ⟨fun _ _ => False, ?_, fun _ _ z => z.elim⟩
    exact ⟨_, rfl, rfl, true, nonIs, iteT (k H1 (Same.refl H1))⟩
end
end My
/-! ### the law's own number -/
namespace My
open PySem PySem.Spec PyProof.Rows L2
abbrev sXNumber : Stmt := topS 30
theorem scXNumber : FnScope ["n", "d", "one", "other"] ["n", "d"] (defScope sXNumber) := ⟨rfl, rfl, rfl, by decide +kernel, rfl, by decide +kernel, by decide +kernel⟩
structure XN (K : PySem.W.Frag) (mg : Str → Option Value) (h1 : Addr) (u1 : FuncData) : Prop where
  int : mg "int" = none
  abs : mg "abs" = none
  FXNumber : Fun K "_law_x_number" "_law_x_number" sXNumber h1 u1
  bXNumber : Binds K u1 ["n", "d"] []
  gXNumber : mg "_law_x_number" = some (.ref h1)
theorem gg_nat (a b : Nat) : gg (a : Int) (b : Int) = ((Nat.gcd a b : Nat) : Int) := by
  unfold gg
  rw [Int.natAbs_natCast, Int.natAbs_natCast]
section
variable {P : Program} {w : World} {K : PySem.W.Frag} {mg : Str → Option Value} {base : Heap} {h1 : Addr} {u1 : FuncData}
theorem ok_xNumber (T : XN K mg h1 u1) {k : Nat} : FnOk P w K mg base CX0 (k + 1) h1 u1 ["n", "d"] spLowest := by
  refine T.FXNumber.ok scXNumber (fun vs H Q E h => ?_) (fun cdv A outer s H vs Q E hr h => ?_)
  · obtain ⟨n, d, rfl, _⟩ := h
    rfl
  · obtain ⟨n, d, rfl, d0, d1, q⟩ := h
    refine ⟨_, (pss_cons (ps_par (i := 2) (j := 3) (by rfl) scXNumber.nd rfl rfl (by decide) rfl rfl (pa_cons (pe_callB call_abs (by rfl) T.abs (by decide +kernel) (pa_cons (pv 0) pa_nil)) (pa_cons (pv 1) pa_nil)) (by rfl))
 (pss_cons (ps_while PassesOwn.never (pt_cmpR op_ne (pv 3) pe_int (nomark _))
 (pss_one (ps_par (i := 2) (j := 3) (by rfl) scXNumber.nd rfl rfl (by decide) rfl rfl (pa_cons (pv 3) (pa_cons (pe_op op_mod (pe_callTy call_int1 (by rfl) T.int (by decide +kernel) (pa_cons (pv 2) pa_nil)) (pv 3)) pa_nil)) (by rfl))))
 (pss_one (ps_ret (pe_tup (pa_cons (pe_op op_fdivW (pv 0) (pv 2)) (pa_cons (pe_op op_fdivW (pv 1) (pv 2)) pa_nil))))))), ?_⟩
    refine ⟨_, rfl, _, rfl, _, rfl, _, _, rfl, ?_⟩
    refine while_by (fun σ H' => ∃ a b : Nat, σ = [some (.int n), some (.int d), some (.int (a : Int)), some (.int (b : Int))] ∧ Nat.gcd a b = Nat.gcd n.natAbs d.natAbs ∧ H' = H) (fun σ H' => match σ with | [_, _, _, some (.int b)] => b.natAbs | _ => 0)
      ⟨n.natAbs, d.natAbs, ?_, rfl, rfl⟩ ?_ ?_
    · have e1 : (if n < 0 then -n else n) = ((n.natAbs : Nat) : Int) := by
        split <;> omega
      have e2 : d = ((d.natAbs : Nat) : Int) := by omega
      show [some (V.int n), some (V.int d), some (V.int (if n < 0 then -n else n)), some (V.int d)] = _
      rw [e1, ← e2]
    · rintro σ H' ⟨a, b, rfl, hg, rfl⟩
      refine ⟨_, rfl, rfl, _, rfl, ?_⟩
      by_cases hb : b = 0
      · subst hb
        have e : decide (V.int ((0 : Nat) : Int) = V.int 0) = true := decide_eq_true rfl
        rw [e]
        refine iteF ?_
        have ea : (a : Int) = gg n d := by
          unfold gg
          rw [← hg, Nat.gcd_zero_right]
        rw [ea]
        have c : CDivW n (gg n d) := wide_div (gg_pos d0) (b := 8900) (Nat.lt_of_le_of_lt (by have := gg_le (n := n) d0; have := gg_pos (n := n) d0; omega) d1) (by decide) (by decide)
        exact ⟨_, rfl, _, rfl, _, _, rfl, rfl, c, _, rfl, _, rfl, _, _, rfl, rfl, c, (by show 2 ≤ sizeLine; decide), fun t ht => q t ht⟩
      · have e : decide (V.int (b : Int) = V.int 0) = false := decide_eq_false fun z => hb (by have := V.int.inj z; omega)
        rw [e]
        refine iteT ⟨_, rfl, _, rfl, .inl ⟨_, rfl, _, rfl, _, _, rfl, rfl, (by show (0 : Int) < b; omega), _, _, rfl, ⟨b, a % b, rfl, ?_, rfl⟩, ?_⟩⟩
        · rw [← hg, Nat.gcd_comm b (a % b), ← Nat.gcd_rec b a, Nat.gcd_comm]
        · show (((a : Int) % (b : Int))).natAbs < ((b : Int)).natAbs
          have := Nat.mod_lt a (Nat.pos_of_ne_zero hb)
          rw [← Int.natCast_emod, Int.natAbs_natCast, Int.natAbs_natCast]
          exact this
    · intro σ H' Q1 Q2 hq hc
      obtain ⟨v, hv, hs, k', hk, q'⟩ := hc
      exact ⟨v, hv, hs, k', hk, hq _ _ q'⟩
end
end My
/-! ### the law -/
namespace My
open PySem PySem.Spec PyProof.Rows L2
abbrev sLaw : Stmt := topS 32
theorem scLaw : FnScope ["script", "pen", "turn", "a", "some", "bad", "wrong", "due", "d", "n", "one", "two", "k"] ["script"] (defScope sLaw) := ⟨rfl, rfl, rfl, by decide +kernel, rfl, by decide +kernel, by decide +kernel⟩
structure WT (K : PySem.W.Frag) (mg : Str → Option Value) (fW : Addr) (dW : FuncData) : Prop where
  range : mg "range" = none
  FWord : Fun K "_law_x_word" "_law_x_word" sWord fW dW
  bWord : Binds K dW ["act"] []
  gWord : mg "_law_x_word" = some (.ref fW)
theorem Fun.okC {P : Program} {w : World} {K : PySem.W.Frag} {mg : Str → Option Value} {base : Heap} {x qual : Str} {st : Stmt} {f : Addr} {fd : FuncData} {N ps : List Str} {k : Nat} {sp : Sp} {v : Value} (F : Fun K x qual st f fd) (hv : fd.code = v) (S : FnScope N ps (defScope st)) (len : ∀ vs H Q E, sp vs H Q E → vs.length = ps.length)
    (hbody : ∀ (A : Around) (outer : List Env) (s : Shared) (H : Hp) (vs : List V) (Q : VK) (E : XK), Room k (A.deeper (envOfC qual (defScope st) s.heap.objs.size f v)) → sp vs H Q E → ∃ t, PSs (cxOf CX0 P w K mg base N qual (defScope st) f v A outer s H E).nox (defBody st) t ∧ t { nx := fun _ H' => Q .non H', rt := Q } (start N vs) H) :
    FnOk P w K mg base CX0 (k + 1) f fd ps sp := by
  obtain ⟨oc, od, kV, doc, pm, an, c, ct, osl, hfd, lk, hc⟩ := F.ex
  subst hfd
  obtain rfl : c = v := hv
  refine fn_of lk hc S len fun A outer s H vs Q E hr h => ?_
  obtain ⟨t, d, q⟩ := hbody A outer s H vs Q E hr h
  exact ⟨t, d.nox, q⟩
/-- all but what stands at p, and the tables, is as it was -/
def ButN (p : Addr) (H H' : Hp) : Prop := ∀ b o, b ≠ p → H b = some o → (∀ ps, o ≠ .tbl ps) → H' b = some o
theorem ButN.trans {p : Addr} {H H1 H2 : Hp} (a : ButN p H H1) (b : ButN p H1 H2) : ButN p H H2 := fun c o n e t => b c o n (a c o n e t) t
theorem ButN.refl (p : Addr) (H : Hp) : ButN p H H := fun _ _ _ e _ => e
theorem butN_same {p : Addr} {H H' : Hp} (s : Same H H') : ButN p H H' := fun b o _ e _ => s b o e
theorem butN_but {p : Addr} {H H' : Hp} (s : But p H H') : ButN p H H' := fun b o n e _ => s b o n e
theorem butN_ext {p : Addr} {H H' : Hp} (s : LamX.ExtN H H') : ButN p H H' := fun b o _ e t => s b o e t
theorem Pen.ext {H H' : Hp} {p : Addr} {n : Nat} (h : Pen H p n) (s : LamX.ExtN H H') : Pen H' p n := by
  obtain ⟨c, cs, a, r, h1, h2, h3⟩ := h.ex
  exact ⟨c, cs, a, r, s _ _ h1 (fun _ z => nomatch z), s _ _ h2 (fun _ z => nomatch z), h3⟩
theorem tabs_but {T : List (Addr × Str)} {H H' : Hp} {p : Addr} {ys : List V} (h : LamX.Tabs T H) (hp : H p = some (.lst ys)) (b : But p H H') : LamX.Tabs T H' := fun x hx => by
  obtain ⟨ps, h1, h2, h3⟩ := h x hx
  refine ⟨ps, b _ _ (ne_of h1 hp (by intro z; cases z)) h1, h2, fun pos cv hc => ?_⟩
  obtain ⟨c, e1, e2⟩ := h3 pos cv hc
  exact ⟨c, e1, b _ _ (ne_of e2 hp (by intro z; cases z)) e2⟩
theorem tabs_pen {T : List (Addr × Str)} {H H' : Hp} {p : Addr} {n : Nat} (h : LamX.Tabs T H) (hp : Pen H p n) (b : But p H H') : LamX.Tabs T H' := by
  obtain ⟨ys, e⟩ := hp.ls
  exact tabs_but h e b
theorem tabs_same {T : List (Addr × Str)} {H H' : Hp} (h : LamX.Tabs T H) (s : Same H H') : LamX.Tabs T H' := h.ext s
theorem new_ne {H : Hp} {p l : Addr} {n : Nat} (h : Pen H p n) (hl : H l = none) : l ≠ p := by
  obtain ⟨xs, e⟩ := h.ls
  exact (ne_of_none e hl).symm
/-- x is no number, whatever becomes of the pen -/
def NoNumP (p : Addr) (K : PySem.W.Frag) (H : Hp) (x : V) : Prop := ∀ H', ButN p H H' → NoNum K H' x
theorem NoNumP.go {p : Addr} {K : PySem.W.Frag} {H H' : Hp} {x : V} (h : NoNumP p K H x) (b : ButN p H H') : NoNumP p K H' x := fun H2 b2 => h H2 (b.trans b2)
def BadAll (p : Addr) (K : PySem.W.Frag) (H : Hp) (xs : List V) : Prop := ∀ v ∈ xs, NoNumP p K H v
theorem BadAll.nil (p : Addr) (K : PySem.W.Frag) (H : Hp) : BadAll p K H [] := fun _ h => nomatch h
theorem BadAll.go {p : Addr} {K : PySem.W.Frag} {H H' : Hp} {xs : List V} (h : BadAll p K H xs) (b : ButN p H H') : BadAll p K H' xs := fun v hv => (h v hv).go b
theorem BadAll.snoc {p : Addr} {K : PySem.W.Frag} {H : Hp} {xs : List V} {v : V} (h : BadAll p K H xs) (e : NoNumP p K H v) : BadAll p K H (xs ++ [v]) := fun u hu => by
  rcases List.mem_append.mp hu with z | z
  · exact h u z
  · rw [List.mem_singleton.mp z]; exact e
theorem no_tup2 {p t : Addr} {K : PySem.W.Frag} {H : Hp} {n d : Int} (ht : t ≠ p) (h : H t = some (.tup [.int n, .int d])) (hl : ¬ Low n d) : NoNumP p K H (.ref t) := fun H' b =>
  .inr (.inr (.inr ⟨t, n, d, rfl, SqT.of (b _ _ ht h (fun _ z => nomatch z)), hl⟩))
theorem no_len {p t : Addr} {K : PySem.W.Frag} {H : Hp} {xs : List V} (ht : t ≠ p) (h : H t = some (.tup xs)) (hl : xs.length ≠ 2) : NoNumP p K H (.ref t) := fun H' b =>
  .inr (.inl ⟨t, xs, rfl, SqT.of (b _ _ ht h (fun _ z => nomatch z)), hl⟩)
theorem no_flat {p : Addr} {K : PySem.W.Frag} {H : Hp} {x : V} {T : String} (h : ∀ H', TyB K H' x T) (hT : T ≠ "tuple") : NoNumP p K H x := fun H' _ => .inl ⟨T, h H', hT⟩
theorem no_lst {p t : Addr} {K : PySem.W.Frag} {H : Hp} {xs : List V} (ht : t ≠ p) (h : H t = some (.lst xs)) : NoNumP p K H (.ref t) := fun H' b => .inl ⟨"list", .lst (SqL.of (b _ _ ht h (fun _ z => nomatch z))), by decide⟩
theorem no_kinds {p t : Addr} {K : PySem.W.Frag} {H : Hp} {y z : V} {Ty Tz : String} (ht : t ≠ p) (h : H t = some (.tup [y, z])) (hy : ∀ H', ButN p H H' → TyB K H' y Ty) (hz : ∀ H', ButN p H H' → TyB K H' z Tz) (hne : Ty ≠ "int" ∨ Tz ≠ "int") : NoNumP p K H (.ref t) := fun H' b =>
  .inr (.inr (.inl ⟨t, y, z, Ty, Tz, rfl, SqT.of (b _ _ ht h (fun _ z => nomatch z)), hy H' b, hz H' b, hne⟩))
/-- x is no integer, whatever becomes of the pen -/
def NoIntP (p : Addr) (K : PySem.W.Frag) (H : Hp) (x : V) : Prop := ∀ H', ButN p H H' → ∃ T, TyB K H' x T ∧ T ≠ "int"
theorem NoIntP.go {p : Addr} {K : PySem.W.Frag} {H H' : Hp} {x : V} (h : NoIntP p K H x) (b : ButN p H H') : NoIntP p K H' x := fun H2 b2 => h H2 (b.trans b2)
theorem ni_flat {p : Addr} {K : PySem.W.Frag} {H : Hp} {x : V} {T : String} (h : ∀ H', TyB K H' x T) (hT : T ≠ "int") : NoIntP p K H x := fun H' _ => ⟨T, h H', hT⟩
theorem ni_tup {p t : Addr} {K : PySem.W.Frag} {H : Hp} {xs : List V} (ht : t ≠ p) (h : H t = some (.tup xs)) : NoIntP p K H (.ref t) := fun H' b => ⟨"tuple", .tup (SqT.of (b _ _ ht h (fun _ z => nomatch z))), by decide⟩
theorem ni_lst {p t : Addr} {K : PySem.W.Frag} {H : Hp} {xs : List V} (ht : t ≠ p) (h : H t = some (.lst xs)) : NoIntP p K H (.ref t) := fun H' b => ⟨"list", .lst (SqL.of (b _ _ ht h (fun _ z => nomatch z))), by decide⟩
theorem numOf {K : PySem.W.Frag} {H : Hp} {t : Addr} {p q : Int} (h : H t = some (.tup [.int p, .int q])) (l : Low p q) : IsNum K H (.ref t) p q := ⟨t, rfl, SqT.of h, l⟩
/-- an argument: none at all if w, else the number at ta -/
def Arg (p : Addr) (K : PySem.W.Frag) (H : Hp) (ta : Addr) (w : Bool) (x : V) : Prop := (w = true ∧ NoNumP p K H x) ∨ (w = false ∧ x = .ref ta)
theorem Arg.go {p ta : Addr} {K : PySem.W.Frag} {H H' : Hp} {w : Bool} {x : V} (h : Arg p K H ta w x) (b : ButN p H H') : Arg p K H' ta w x := h.imp (fun z => ⟨z.1, z.2.go b⟩) (fun z => z)
theorem eq_false_of_ne_true {b : Bool} (h : ¬ b = true) : b = false := by
  cases b
  · rfl
  · exact absurd rfl h
theorem neSE {a b : Str} (h : a = b) : V.bl (!decide (V.str a = V.str b)) = V.bl false := by
  subst h
  rw [decide_eq_true rfl]
  rfl
theorem word6 : wordOf 6 = "number" := by decide +kernel
theorem word7 : wordOf 7 = "divisor" := by decide +kernel
theorem sml_small {n : Int} (h : n.natAbs ≤ 1000) : Sml n := Nat.lt_of_le_of_lt h (Nat.lt_of_lt_of_le (show 1000 < 2 ^ 10 by decide) (Nat.pow_le_pow_right (n := 2) (by decide) (by decide)))
section
variable {P : Program} {w : World} {K : PySem.W.Frag} {mg : Str → Option Value} {base : Heap} {f1 f2 f3 f4 : Addr} {d1 d2 d3 d4 : FuncData} {g1 g2 g3 g4 g5 g6 g7 g8 : Addr} {e1 e2 e3 e4 e5 e6 e7 e8 : FuncData} {h1 : Addr} {u1 : FuncData} {C0 C1 C2 C3 C4 C5 C6 C7 C8 C9 C10 C11 CL : Addr} {fW : Addr} {dW : FuncData} {cL PT : Addr}
def spLaw (K : PySem.W.Frag) (PT : Addr) : Sp := fun vs H Q _ => ∃ (a : Addr) (ns : List Int), vs = [.ref a] ∧ SqL K H a (ns.map V.int) ∧ ns.length ≤ 63 ∧ H PT = some (.tbl #[]) ∧ ∀ H', Q (.bl true) H'
theorem ok_law {f : Addr} {fd : FuncData} (F : Fun K "law" "law" sLaw f fd) (hcd : fd.code = .ref cL) (TP : PenTxt K mg f1 f2 f3 f4 d1 d2 d3 d4) (TN : NumTxt K mg g1 g2 g3 g4 g5 g6 g7 g8 C6 C7 e1 e2 e3 e4 e5 e6 e7 e8) (TX : XN K mg h1 u1) (TE : WordTxt K mg C0 C1 C2 C3 C4 C5 C6 C7 C8 C9 C10 C11 CL) (TW : WT K mg fW dW) (TB : LamX.TabB base mg cL PT) : FnOk P w K mg base CX0 7 f fd ["script"] (spLaw K PT) := by
  have GO : FnOk P w K mg base CX0 6 f2 d2 ["script"] (spOpen K) := ok_open TP (k := 5)
  have GT : FnOk P w K mg base CX0 6 f3 d3 ["pen", "many"] spTake := ok_take TP (k := 4)
  have GTC : FnOk P w K mg base CX0 6 f3 d3 ["pen", "many"] spTakeC := ok_takeC TP (k := 4)
  have GP : FnOk P w K mg base CX0 6 f4 d4 ["pen", "some"] (spPick K) := ok_pick TP (k := 3)
  have GX : FnOk P w K mg base CX0 6 h1 u1 ["n", "d"] spLowest := ok_xNumber TX (k := 5)
  have GN : FnOk P w K mg base (L2.CX P w) 4 g1 e1 ["n", "d"] (spNumberOf K C6 C7) := ok_numberOf TN (k := 2)
  have GA : FnOk P w K mg base (L2.CX P w) 4 g2 e2 ["a", "b"] (spArith K C6 fPlus) := ok_plus TN (k := 0)
  have GM : FnOk P w K mg base (L2.CX P w) 4 g3 e3 ["a", "b"] (spArith K C6 fMinus) := ok_minus TN (k := 0)
  have GC : FnOk P w K mg base (L2.CX P w) 4 g4 e4 ["a", "b"] (spCompared K C6) := ok_compared TN (k := 0)
  obtain ⟨ocW, odW, kVW, docW, pmW, anW, cdW, ctW, slW, rfl, lkW, cgW⟩ := TW.FWord.ex
  refine Fun.okC F hcd scLaw (fun vs H Q E h => ?_) (fun A outer s H vs Q E hr h => ?_)
  · obtain ⟨a, ns, rfl, _⟩ := h
    rfl
  · obtain ⟨a, ns, rfl, hS, hl, hT, q⟩ := h
    have hu : (A.deeper (envOfC "law" (defScope sLaw) s.heap.objs.size f (.ref cL))).units + 64 < cLine := by have := hr.un; omega
    refine ⟨_, (pss_cons (ps_set (i := 1) scLaw.nd rfl (.inr rfl) (pe_call GO hr (by rfl) TP.gOpen TP.FOpen.kp TP.bOpen .nil pass0 (pa_cons (pv 0) pa_nil)))
 (pss_cons (ps_for PassesOwn.never rfl (pi_range1 (by rfl) TW.range (pa_cons pe_int pa_nil)) (pg_name (i := 2) scLaw.nd rfl (.inl rfl))
 (Evl.pss_cut (ps_set (i := 3) scLaw.nd rfl (.inl rfl) (pe_call GX hr (by rfl) TX.gXNumber TX.FXNumber.kp TX.bXNumber .nil pass0 (pa_cons (pe_op op_sub (pe_call GT hr (by rfl) TP.gTake TP.FTake.kp TP.bTake .nil pass0 (pa_cons (pv 1) (pa_cons pe_int pa_nil))) pe_int) (pa_cons (pe_op op_add pe_int (pe_call GT hr (by rfl) TP.gTake TP.FTake.kp TP.bTake .nil pass0 (pa_cons (pv 1) (pa_cons pe_int pa_nil)))) pa_nil))))
 (Evl.pss_cut (ps_set (i := 4) scLaw.nd rfl (.inl rfl) (pe_lst (pa_cons (pe_tup (pa_cons pe_int (pa_cons pe_int pa_nil))) (pa_cons (pe_tup (pa_cons pe_int (pa_cons pe_int pa_nil))) (pa_cons (pe_tup (pa_cons pe_int (pa_cons pe_int pa_nil))) (pa_cons (pe_tup (pa_cons pe_int (pa_cons (pe_un un_neg pe_int) pa_nil))) (pa_cons (pe_tup (pa_cons (pe_un un_neg pe_int) (pa_cons (pe_un un_neg pe_int) pa_nil))) (pa_cons (pe_lst (pa_cons pe_int (pa_cons pe_int pa_nil))) (pa_cons (pe_tup (pa_cons pe_int pa_nil)) (pa_cons (pe_tup (pa_cons pe_int (pa_cons pe_int (pa_cons pe_int pa_nil)))) (pa_cons (pe_tup (pa_cons pe_bl (pa_cons pe_int pa_nil))) (pa_cons (pe_tup (pa_cons pe_int (pa_cons pe_bl pa_nil))) (pa_cons (pe_tup (pa_cons pe_int (pa_cons pe_int pa_nil))) pa_nil)))))))))))))
 (Evl.pss_cut (ps_set (i := 4) scLaw.nd rfl (.inl rfl) (pe_op op_cat (pv 4) (pe_lst (pa_cons pe_non (pa_cons pe_str (pa_cons pe_int (pa_cons (pe_tup pa_nil) (pa_cons (pe_tup (pa_cons pe_non (pa_cons pe_int pa_nil))) (pa_cons (pe_tup (pa_cons pe_int (pa_cons pe_non pa_nil))) (pa_cons (pe_tup (pa_cons pe_str (pa_cons pe_int pa_nil))) (pa_cons (pe_tup (pa_cons (pe_tup (pa_cons pe_int (pa_cons pe_int pa_nil))) (pa_cons pe_int pa_nil))) (pa_cons (pe_tup (pa_cons (pv 3) (pa_cons pe_int pa_nil))) (pa_cons (pe_tup (pa_cons (pe_op op_pow pe_int pe_int) (pa_cons (pe_op op_pow pe_int pe_int) pa_nil))) pa_nil)))))))))))))
 (Evl.pss_cut (ps_set (i := 5) scLaw.nd rfl (.inl rfl) (pe_call GP hr (by rfl) TP.gPick TP.FPick.kp TP.bPick .nil pass0 (pa_cons (pv 1) (pa_cons (pv 4) pa_nil))))
 (Evl.pss_cut (ps_setLc (i := 6) (own := [("k", 12)]) (g := gName 12) (tt := tYes) (by rfl) scLaw.nd rfl rfl (sw_true rfl rfl rfl (by decide +kernel)) (pi_range1 (by rfl) TW.range (pa_cons pe_int pa_nil)) (blkOk_by (N := ["script", "pen", "turn", "a", "some", "bad", "wrong", "due", "d", "n", "one", "two", "k"]) (sc := defScope sLaw) (by decide +kernel)) (fun _ _ _ _ _ => pg_name (i := 12) scLaw.nd rfl (Or.inl rfl)) (fun _ _ _ _ _ => pts_nil) (fun _ _ _ _ _ => (pe_cmpR op_eq (pe_call GTC hr (by rfl) TP.gTake TP.FTake.kp TP.bTake .nil pass0 (pa_cons (pv 1) (pa_cons pe_int pa_nil))) pe_int (nomark _))))
 (Evl.pss_cut (ps_asg (pe_tup (pa_cons (pe_ifExp (pt_val (pe_ix ix_list (pv 6) pe_int (fun _ _ => rfl))) (pv 5) (pv 3)) (pa_cons (pe_ifExp (pt_val (pe_ix ix_list (pv 6) pe_int (fun _ _ => rfl))) (pv 5) (pv 3)) pa_nil))) (pg_tup rfl (pgs_cons (pg_name (i := 10) scLaw.nd rfl (.inr rfl)) (pgs_cons (pg_name (i := 11) scLaw.nd rfl (.inr rfl)) pgs_nil))))
 (Evl.pss_cut (ps_set (i := 7) scLaw.nd rfl (.inl rfl) (pe_ifExp (pt_cmpR op_in_seq pe_bl (pv 6) (by rfl)) pe_str pe_str))
 (Evl.pss_cut (ps_if (pt_cmpR op_ne (LamX.pe_lamcall (T := [(PT, (envOfC "law" (defScope sLaw) s.heap.objs.size f (.ref cL)).qual ++ "<lambda>")]) (a := "act") (by rfl) TW.gWord TW.FWord.kp lkW cgW TW.bWord scWord (by rfl) (.inl rfl) (word_gives TE) TB rfl (List.mem_singleton.mpr rfl) (fun p hp _ => congrArg Prod.snd (List.mem_singleton.mp hp)) hr (show LamX.LamS (defScope sLaw) _ from LamX.lamS_by (by decide +kernel)) rfl (fun _ _ _ _ _ => rfl) (fun A outer s H E f c1 hr2 => (pe_call GA hr2 (by rfl) TN.gPlus TN.FPlus.kp TN.bPlus .nil (passes_call (takes_of rfl rfl rfl rfl) (fun _ _ _ _ h => h)) (pa_cons (pv 10) (pa_cons (pv 11) pa_nil))))) (pv 7) (nomark _)) (pss_one (ps_ret pe_bl)) pss_nil)
 (Evl.pss_cut (ps_if (pt_cmpR op_ne (LamX.pe_lamcall (T := [(PT, (envOfC "law" (defScope sLaw) s.heap.objs.size f (.ref cL)).qual ++ "<lambda>")]) (a := "act") (by rfl) TW.gWord TW.FWord.kp lkW cgW TW.bWord scWord (by rfl) (.inl rfl) (word_gives TE) TB rfl (List.mem_singleton.mpr rfl) (fun p hp _ => congrArg Prod.snd (List.mem_singleton.mp hp)) hr (show LamX.LamS (defScope sLaw) _ from LamX.lamS_by (by decide +kernel)) rfl (fun _ _ _ _ _ => rfl) (fun A outer s H E f c1 hr2 => (pe_call GM hr2 (by rfl) TN.gMinus TN.FMinus.kp TN.bMinus .nil (passes_call (takes_of rfl rfl rfl rfl) (fun _ _ _ _ h => h)) (pa_cons (pv 10) (pa_cons (pv 11) pa_nil))))) (pv 7) (nomark _)) (pss_one (ps_ret pe_bl)) pss_nil)
 (Evl.pss_cut (ps_if (pt_cmpR op_ne (LamX.pe_lamcall (T := [(PT, (envOfC "law" (defScope sLaw) s.heap.objs.size f (.ref cL)).qual ++ "<lambda>")]) (a := "act") (by rfl) TW.gWord TW.FWord.kp lkW cgW TW.bWord scWord (by rfl) (.inl rfl) (word_gives TE) TB rfl (List.mem_singleton.mpr rfl) (fun p hp _ => congrArg Prod.snd (List.mem_singleton.mp hp)) hr (show LamX.LamS (defScope sLaw) _ from LamX.lamS_by (by decide +kernel)) rfl (fun _ _ _ _ _ => rfl) (fun A outer s H E f c1 hr2 => (pe_call GC hr2 (by rfl) TN.gCompared TN.FCompared.kp TN.bCompared .nil (passes_call (takes_of rfl rfl rfl rfl) (fun _ _ _ _ h => h)) (pa_cons (pv 10) (pa_cons (pv 11) pa_nil))))) (pv 7) (nomark _)) (pss_one (ps_ret pe_bl)) pss_nil)
 (Evl.pss_cut (ps_set (i := 9) scLaw.nd rfl (.inr rfl) (pe_ifExp (pt_val (pe_ix ix_list (pv 6) pe_int (fun _ _ => rfl))) (pe_call GP hr (by rfl) TP.gPick TP.FPick.kp TP.bPick .nil pass0 (pa_cons (pv 1) (pa_cons (pe_lst (pa_cons pe_non (pa_cons pe_bl (pa_cons pe_bl (pa_cons pe_str (pa_cons (pe_tup (pa_cons pe_int pa_nil)) (pa_cons (pe_lst pa_nil) (pa_cons (pe_tup (pa_cons pe_int (pa_cons pe_int pa_nil))) pa_nil)))))))) pa_nil))) (pe_ix ix_tup (pv 3) pe_int (fun _ _ => rfl))))
 (Evl.pss_cut (ps_set (i := 8) scLaw.nd rfl (.inr rfl) (pe_ifExp (pt_val (pe_ix ix_list (pv 6) pe_int (fun _ _ => rfl))) (pe_call GP hr (by rfl) TP.gPick TP.FPick.kp TP.bPick .nil pass0 (pa_cons (pv 1) (pa_cons (pe_lst (pa_cons pe_non (pa_cons pe_bl (pa_cons pe_int (pa_cons (pe_un un_neg pe_int) (pa_cons pe_str (pa_cons (pe_tup (pa_cons pe_int pa_nil)) (pa_cons (pe_lst (pa_cons pe_int pa_nil)) (pa_cons (pe_un un_neg (pe_op op_pow pe_int pe_int)) pa_nil))))))))) pa_nil))) (pe_ix ix_tup (pv 3) pe_int (fun _ _ => rfl))))
 (Evl.pss_cut (ps_set (i := 7) scLaw.nd rfl (.inl rfl) (pe_ifExp (pt_val (pe_ix ix_list (pv 6) pe_int (fun _ _ => rfl))) pe_str (pe_ifExp (pt_val (pe_ix ix_list (pv 6) pe_int (fun _ _ => rfl))) pe_str pe_str)))
 (pss_one (ps_if (pt_cmpR op_ne (LamX.pe_lamcall (T := [(PT, (envOfC "law" (defScope sLaw) s.heap.objs.size f (.ref cL)).qual ++ "<lambda>")]) (a := "act") (by rfl) TW.gWord TW.FWord.kp lkW cgW TW.bWord scWord (by rfl) (.inl rfl) (word_gives TE) TB rfl (List.mem_singleton.mpr rfl) (fun p hp _ => congrArg Prod.snd (List.mem_singleton.mp hp)) hr (show LamX.LamS (defScope sLaw) _ from LamX.lamS_by (by decide +kernel)) rfl (fun _ _ _ _ _ => rfl) (fun A outer s H E f c1 hr2 => (pe_call GN hr2 (by rfl) TN.gNumberOf TN.FNumberOf.kp TN.bNumberOf .nil (passes_call (takes_of rfl rfl rfl rfl) (fun _ _ _ _ h => h)) (pa_cons (pv 9) (pa_cons (pv 8) pa_nil))))) (pv 7) (nomark _)) (pss_one (ps_ret pe_bl)) pss_nil))))))))))))))))
 (pss_one (ps_ret pe_bl)))), ?_⟩
    refine ⟨_, rfl, a, ns, rfl, hS, hl, fun H0 p s0 np hP0 => ?_⟩
    have hT0 : LamX.Tabs [(PT, (envOfC "law" (defScope sLaw) s.heap.objs.size f (.ref cL)).qual ++ "<lambda>")] H0 := fun x hx => by
      rw [List.mem_singleton.mp hx]
      exact LamX.TabS.nil (s0 _ _ hT)
    refine ⟨8, rfl, by decide, by decide, for_range (lo := 0) (n := 8) (fun i σ H' => ∃ v2 v3 v4 v5 v6 v7 v8 v9 v10 v11 v12 : Option V, σ = [some (.ref a), some (.ref p), v2, v3, v4, v5, v6, v7, v8, v9, v10, v11, v12] ∧ Pen H' p (7 * i) ∧ LamX.Tabs [(PT, (envOfC "law" (defScope sLaw) s.heap.objs.size f (.ref cL)).qual ++ "<lambda>")] H')
      ⟨none, none, none, none, none, none, none, none, none, none, none, rfl, hP0, hT0⟩ ?_ ?_⟩
    · rintro i σ H hi ⟨v2, v3, v4, v5, v6, v7, v8, v9, v10, v11, v12, rfl, hP, hT⟩
      -- a
      refine ⟨fun σ H' => ∃ (ta : Addr) (p1 q1 : Int), σ = [some (.ref a), some (.ref p), some (.int (0 + (i : Int))), some (.ref ta), v4, v5, v6, v7, v8, v9, v10, v11, v12] ∧ H' ta = some (.tup [.int p1, .int q1]) ∧ Low p1 q1 ∧ p1.natAbs ≤ 1000 ∧ q1.natAbs ≤ 1000 ∧ Pen H' p (7 * i + 2) ∧ LamX.Tabs [(PT, (envOfC "law" (defScope sLaw) s.heap.objs.size f (.ref cL)).qual ++ "<lambda>")] H', ?_, ?_⟩
      · refine ⟨_, rfl, p, 99, 7 * i, rfl, hP, by omega, by decide, by decide, fun H1 k1 b1 hP1 k10 k11 => ⟨_, _, rfl, rfl, ?_⟩⟩
        refine ⟨_, rfl, p, 9, 7 * i + 1, rfl, hP1, by omega, by decide, by decide, fun H2 k2 b2 hP2 k20 k21 => ⟨_, _, rfl, rfl, _, _, rfl, (by omega), ?_, fun t ht => ?_⟩⟩
        · exact Nat.lt_of_le_of_lt (show (1 + k2).natAbs ≤ 1000 by omega) (Nat.lt_of_lt_of_le (show 1000 < 2 ^ 10 by decide) (Nat.pow_le_pow_right (n := 2) (by decide) (by decide)))
        · have d0 : 0 < 1 + k2 := by omega
          have x1 := rn_abs (n := k1 - 49) d0
          have x2 := rd_abs (n := k1 - 49) d0
          exact ⟨t, _, _, rfl, upd_same, low_r d0, by omega, by omega, hP2.same (same_upd ht), tabs_same (tabs_pen (tabs_pen hT hP b1) hP1 b2) (same_upd ht)⟩
      rintro σ H ⟨ta, p1, q1, rfl, hta, la, sp1, sq1, hP, hT⟩
      have nta : ta ≠ p := by
        obtain ⟨ys, e⟩ := hP.ls
        exact ne_of hta e (by intro z; cases z)
      -- the things that are none, the first eleven
      refine ⟨fun σ H' => ∃ (ls : Addr) (xs : List V), σ = [some (.ref a), some (.ref p), some (.int (0 + (i : Int))), some (.ref ta), some (.ref ls), v5, v6, v7, v8, v9, v10, v11, v12] ∧ H' ta = some (.tup [.int p1, .int q1]) ∧ H' ls = some (.lst xs) ∧ ls ≠ p ∧ xs.length = 11 ∧ BadAll p K H' xs ∧ Pen H' p (7 * i + 2) ∧ LamX.Tabs [(PT, (envOfC "law" (defScope sLaw) s.heap.objs.size f (.ref cL)).qual ++ "<lambda>")] H', ?_, ?_⟩
      · refine ⟨(by show 2 ≤ sizeLine; decide), fun t0 n0 => ⟨(by show 2 ≤ sizeLine; decide), fun t1 n1 => ⟨(by show 2 ≤ sizeLine; decide), fun t2 n2 => ⟨_, rfl, (by show 2 ≤ sizeLine; decide), fun t3 n3 => ⟨_, rfl, _, rfl, (by show 2 ≤ sizeLine; decide), fun t4 n4 => ⟨(by show 2 ≤ sizeLine; decide), fun t5 n5 => ⟨(by show 1 ≤ sizeLine; decide), fun t6 n6 => ⟨(by show 3 ≤ sizeLine; decide), fun t7 n7 => ⟨(by show 2 ≤ sizeLine; decide), fun t8 n8 => ⟨(by show 2 ≤ sizeLine; decide), fun t9 n9 => ⟨(by show 2 ≤ sizeLine; decide), fun t10 n10 => ⟨(by show 11 ≤ sizeLine; decide), fun l hl => ?_⟩⟩⟩⟩⟩⟩⟩⟩⟩⟩⟩⟩
        have B0 := BadAll.nil p K H
        have q0 := Same.refl H
        have u0 := same_upd (o := HO.tup [.int 2, .int 4]) n0
        have q1 := q0.trans u0
        have z0 := new_ne (hP.same q0) n0
        have B1 := (B0.go (butN_same u0)).snoc (no_tup2 z0 upd_same (fun l => absurd l.one (by decide)))
        have u1 := same_upd (o := HO.tup [.int 0, .int 2]) n1
        have q2 := q1.trans u1
        have z1 := new_ne (hP.same q1) n1
        have B2 := (B1.go (butN_same u1)).snoc (no_tup2 z1 upd_same (fun l => absurd l.one (by decide)))
        have u2 := same_upd (o := HO.tup [.int 1, .int 0]) n2
        have q3 := q2.trans u2
        have z2 := new_ne (hP.same q2) n2
        have B3 := (B2.go (butN_same u2)).snoc (no_tup2 z2 upd_same (fun l => absurd l.pos (by decide)))
        have u3 := same_upd (o := HO.tup [.int 1, .int (-1)]) n3
        have q4 := q3.trans u3
        have z3 := new_ne (hP.same q3) n3
        have B4 := (B3.go (butN_same u3)).snoc (no_tup2 z3 upd_same (fun l => absurd l.pos (by decide)))
        have u4 := same_upd (o := HO.tup [.int (-1), .int (-1)]) n4
        have q5 := q4.trans u4
        have z4 := new_ne (hP.same q4) n4
        have B5 := (B4.go (butN_same u4)).snoc (no_tup2 z4 upd_same (fun l => absurd l.pos (by decide)))
        have u5 := same_upd (o := HO.lst [.int 1, .int 2]) n5
        have q6 := q5.trans u5
        have z5 := new_ne (hP.same q5) n5
        have B6 := (B5.go (butN_same u5)).snoc (no_lst z5 upd_same)
        have u6 := same_upd (o := HO.tup [.int 1]) n6
        have q7 := q6.trans u6
        have z6 := new_ne (hP.same q6) n6
        have B7 := (B6.go (butN_same u6)).snoc (no_len z6 upd_same (by decide))
        have u7 := same_upd (o := HO.tup [.int 1, .int 2, .int 3]) n7
        have q8 := q7.trans u7
        have z7 := new_ne (hP.same q7) n7
        have B8 := (B7.go (butN_same u7)).snoc (no_len z7 upd_same (by decide))
        have u8 := same_upd (o := HO.tup [.bl true, .int 1]) n8
        have q9 := q8.trans u8
        have z8 := new_ne (hP.same q8) n8
        have B9 := (B8.go (butN_same u8)).snoc (no_kinds z8 upd_same (fun _ _ => .bl true) (fun _ _ => .int 1) (.inl (by decide)))
        have u9 := same_upd (o := HO.tup [.int 1, .bl true]) n9
        have q10 := q9.trans u9
        have z9 := new_ne (hP.same q9) n9
        have B10 := (B9.go (butN_same u9)).snoc (no_kinds z9 upd_same (fun _ _ => .int 1) (fun _ _ => .bl true) (.inr (by decide)))
        have u10 := same_upd (o := HO.tup [.int 6, .int 3]) n10
        have q11 := q10.trans u10
        have z10 := new_ne (hP.same q10) n10
        have B11 := (B10.go (butN_same u10)).snoc (no_tup2 z10 upd_same (fun l => absurd l.one (by decide)))
        have ul := same_upd (o := HO.lst [.ref t0, .ref t1, .ref t2, .ref t3, .ref t4, .ref t5, .ref t6, .ref t7, .ref t8, .ref t9, .ref t10]) hl
        exact ⟨l, _, rfl, ul _ _ (q11 _ _ hta), upd_same, new_ne (hP.same q11) hl, rfl, B11.go (butN_same ul), hP.same (q11.trans ul), tabs_same hT (q11.trans ul)⟩
      rintro σ H ⟨ls, xs, rfl, hta, hls, nls, lxs, hB, hP, hT⟩
      -- the other ten
      refine ⟨fun σ H' => ∃ (ls : Addr) (xs : List V), σ = [some (.ref a), some (.ref p), some (.int (0 + (i : Int))), some (.ref ta), some (.ref ls), v5, v6, v7, v8, v9, v10, v11, v12] ∧ H' ta = some (.tup [.int p1, .int q1]) ∧ H' ls = some (.lst xs) ∧ ls ≠ p ∧ xs.length = 21 ∧ BadAll p K H' xs ∧ Pen H' p (7 * i + 2) ∧ LamX.Tabs [(PT, (envOfC "law" (defScope sLaw) s.heap.objs.size f (.ref cL)).qual ++ "<lambda>")] H', ?_, ?_⟩
      · refine ⟨_, rfl, (by show 0 ≤ sizeLine; decide), fun t0 n0 => ⟨(by show 2 ≤ sizeLine; decide), fun t1 n1 => ⟨(by show 2 ≤ sizeLine; decide), fun t2 n2 => ⟨(by show 2 ≤ sizeLine; decide), fun t3 n3 => ⟨(by show 2 ≤ sizeLine; decide), fun t4 n4 => ⟨(by show 2 ≤ sizeLine; decide), fun t5 n5 => ⟨_, rfl, (by show 2 ≤ sizeLine; decide), fun t6 n6 => ⟨_, _, rfl, rfl, ⟨by decide, by decide, by decide⟩, _, _, rfl, rfl, ⟨by decide, by decide, by decide⟩, (by show 2 ≤ sizeLine; decide), fun t7 n7 => ⟨(by show 10 ≤ sizeLine; decide), fun l hl => ?_⟩⟩⟩⟩⟩⟩⟩⟩⟩
        have q0 := Same.refl H
        have B0 := ((hB.snoc (no_flat (fun _ => .non) (by decide))).snoc (no_flat (fun _ => .str "1") (by decide))).snoc (no_flat (fun _ => .int 1) (by decide))
        have u0 := same_upd (o := HO.tup []) n0
        have q1 := q0.trans u0
        have z0 := new_ne (hP.same q0) n0
        have B1 := (B0.go (butN_same u0)).snoc (no_len z0 upd_same (by decide))
        have u1 := same_upd (o := HO.tup [.non, .int 1]) n1
        have q2 := q1.trans u1
        have z1 := new_ne (hP.same q1) n1
        have B2 := (B1.go (butN_same u1)).snoc (no_kinds z1 upd_same (fun _ _ => .non) (fun _ _ => .int 1) (.inl (by decide)))
        have u2 := same_upd (o := HO.tup [.int 1, .non]) n2
        have q3 := q2.trans u2
        have z2 := new_ne (hP.same q2) n2
        have B3 := (B2.go (butN_same u2)).snoc (no_kinds z2 upd_same (fun _ _ => .int 1) (fun _ _ => .non) (.inr (by decide)))
        have u3 := same_upd (o := HO.tup [.str "1", .int 2]) n3
        have q4 := q3.trans u3
        have z3 := new_ne (hP.same q3) n3
        have B4 := (B3.go (butN_same u3)).snoc (no_kinds z3 upd_same (fun _ _ => .str "1") (fun _ _ => .int 2) (.inl (by decide)))
        have u4 := same_upd (o := HO.tup [.int 1, .int 2]) n4
        have q5 := q4.trans u4
        have z4 := new_ne (hP.same q4) n4
        have B5 := B4.go (butN_same u4)
        have u5 := same_upd (o := HO.tup [.ref t4, .int 1]) n5
        have q6 := q5.trans u5
        have z5 := new_ne (hP.same q5) n5
        have B6 := (B5.go (butN_same u5)).snoc (no_kinds z5 upd_same (fun H2 b2 => .tup (SqT.of (b2 _ _ z4 (u5 _ _ upd_same) (fun _ z => nomatch z)))) (fun _ _ => .int 1) (.inl (by decide)))
        have u6 := same_upd (o := HO.tup [.ref ta, .int 1]) n6
        have q7 := q6.trans u6
        have z6 := new_ne (hP.same q6) n6
        have B7 := (B6.go (butN_same u6)).snoc (no_kinds z6 upd_same (fun H2 b2 => .tup (SqT.of (b2 _ _ nta (q7 _ _ hta) (fun _ z => nomatch z)))) (fun _ _ => .int 1) (.inl (by decide)))
        have u7 := same_upd (o := HO.tup [.int ((10 : Int) ^ (20 : Int).toNat), .int ((10 : Int) ^ (20 : Int).toNat)]) n7
        have q8 := q7.trans u7
        have z7 := new_ne (hP.same q7) n7
        have B8 := (B7.go (butN_same u7)).snoc (no_tup2 z7 upd_same (fun l => absurd l.one (by decide)))
        have ul := same_upd (o := HO.lst [.non, .str "1", .int 1, .ref t0, .ref t1, .ref t2, .ref t3, .ref t5, .ref t6, .ref t7]) hl
        have q9 := q8.trans ul
        refine ⟨ls, l, xs, _, rfl, rfl, q9 _ _ hls, upd_same, (by rw [lxs]; show 21 ≤ sizeLine; decide), fun r hr2 => ?_⟩
        have ur := same_upd (o := HO.lst (xs ++ [.non, .str "1", .int 1, .ref t0, .ref t1, .ref t2, .ref t3, .ref t5, .ref t6, .ref t7])) hr2
        refine ⟨r, _, rfl, ur _ _ (q9 _ _ hta), upd_same, new_ne (hP.same q9) hr2, ?_, ?_, hP.same (q9.trans ur), tabs_same hT (q9.trans ur)⟩
        · simp only [List.length_append, List.length_cons, List.length_nil, lxs]
        · have B' := (B8.go (butN_same ul)).go (butN_same ur)
          simp only [List.append_assoc, List.cons_append, List.nil_append] at B'
          exact B'
      rintro σ H ⟨ls, xs, rfl, hta, hls, nls, lxs, hB, hP, hT⟩
      -- bad
      refine ⟨fun σ H' => ∃ bad : V, σ = [some (.ref a), some (.ref p), some (.int (0 + (i : Int))), some (.ref ta), some (.ref ls), some bad, v6, v7, v8, v9, v10, v11, v12] ∧ H' ta = some (.tup [.int p1, .int q1]) ∧ NoNumP p K H' bad ∧ Pen H' p (7 * i + 3) ∧ LamX.Tabs [(PT, (envOfC "law" (defScope sLaw) s.heap.objs.size f (.ref cL)).qual ++ "<lambda>")] H', ?_, ?_⟩
      · refine ⟨_, rfl, _, rfl, p, ls, xs, 7 * i + 2, rfl, hP, by omega, SqL.of hls, nls, by omega, by omega, fun H2 k2 v b2 hP2 hv => ?_⟩
        exact ⟨v, rfl, b2 _ _ nta hta, (hB v (List.mem_of_getElem? hv)).go (butN_but b2), hP2, tabs_pen hT hP b2⟩
      rintro σ H ⟨bad, rfl, hta, hbad, hP, hT⟩
      -- wrong
      obtain ⟨c, hPc⟩ := hP.at
      refine ⟨fun σ H' => ∃ (lw : Addr) (w0 w1 : Bool), σ = [some (.ref a), some (.ref p), some (.int (0 + (i : Int))), some (.ref ta), some (.ref ls), some bad, some (.ref lw), v7, v8, v9, v10, v11, v12] ∧ H' ta = some (.tup [.int p1, .int q1]) ∧ H' lw = some (.lst [.bl w0, .bl w1]) ∧ lw ≠ p ∧ NoNumP p K H' bad ∧ Pen H' p (7 * i + 5) ∧ LamX.Tabs [(PT, (envOfC "law" (defScope sLaw) s.heap.objs.size f (.ref cL)).qual ++ "<lambda>")] H', ?_, ?_⟩
      · refine ⟨2, rfl, by decide, by decide, fun D nD => ?_⟩
        have nDp := new_ne hP nD
        have ncD : c ≠ D := by
          obtain ⟨cs, a2, r2, e1, e2, _⟩ := hPc.ex
          exact ne_of_none e2 nD
        refine lc_range (lo := 0) (n := 2) (fun j H' => ButN p H H' ∧ PenC H' p c (7 * i + 3 + j) ∧ LamX.Tabs [(PT, (envOfC "law" (defScope sLaw) s.heap.objs.size f (.ref cL)).qual ++ "<lambda>")] H' ∧ ∃ bs : List Bool, bs.length = j ∧ H' D = some (.lst (bs.map V.bl)))
          ⟨butN_same (same_upd nD), hPc.keep (fun o e => same_upd nD _ _ e) (fun o e => same_upd nD _ _ e), tabs_same hT (same_upd nD), [], rfl, upd_same⟩ ?_ ?_
        · rintro j H' hj ⟨bN, hPj, hTj, bs, lbs, hD⟩
          refine ⟨rfl, _, rfl, p, c, 3, _, rfl, hPj, by omega, by decide, by decide, fun H2 k2 b2 hP2 k20 k21 => ⟨rfl, _, b2 _ _ nDp hD, ?_, ?_⟩⟩
          · rw [List.length_map, lbs, sizeLine_eq]
            omega
          · refine ⟨fun b x nb e hn => ?_, hP2.keep (fun o e => ?_) (fun o e => ?_), tabs_but (tabs_pen hTj hPj.pen b2) (b2 _ _ nDp hD) but_upd, bs ++ [decide (V.int k2 = V.int 0)], ?_, ?_⟩
            · rw [upd_ne (ne_of_none e nD)]
              exact b2 _ _ nb (bN b x nb e hn)
            · rw [upd_ne nDp.symm]
              exact e
            · rw [upd_ne ncD]
              exact e
            · rw [List.length_append, lbs]
              rfl
            · rw [upd_same, List.map_append]
              rfl
        · rintro H' ⟨bN, hPj, hTj, bs, lbs, hD⟩
          match bs, lbs with
          | [w0, w1], _ => exact ⟨D, w0, w1, rfl, bN _ _ nta hta (fun _ z => nomatch z), hD, nDp, hbad.go bN, hPj.pen, hTj⟩
      rintro σ H ⟨lw, w0, w1, rfl, hta, hlw, nlw, hbad, hP, hT⟩
      -- one, two
      refine ⟨fun σ H' => ∃ x y : V, σ = [some (.ref a), some (.ref p), some (.int (0 + (i : Int))), some (.ref ta), some (.ref ls), some bad, some (.ref lw), v7, v8, v9, some x, some y, v12] ∧ H' ta = some (.tup [.int p1, .int q1]) ∧ H' lw = some (.lst [.bl w0, .bl w1]) ∧ Arg p K H' ta w0 x ∧ Arg p K H' ta w1 y ∧ Pen H' p (7 * i + 5) ∧ LamX.Tabs [(PT, (envOfC "law" (defScope sLaw) s.heap.objs.size f (.ref cL)).qual ++ "<lambda>")] H', ?_, ?_⟩
      · have fin : ∀ (x y : V) (t : Addr) (ht : H t = none), Arg p K H ta w0 x → Arg p K H ta w1 y → _ := fun x y t ht hx hy =>
          (⟨same_upd (o := HO.tup [x, y]) ht _ _ hta, same_upd (o := HO.tup [x, y]) ht _ _ hlw, hx.go (butN_same (same_upd (o := HO.tup [x, y]) ht)), hy.go (butN_same (same_upd (o := HO.tup [x, y]) ht)), hP.same (same_upd (o := HO.tup [x, y]) ht), tabs_same hT (same_upd (o := HO.tup [x, y]) ht)⟩ : _ ∧ _ ∧ _ ∧ _ ∧ _ ∧ _)
        refine ⟨_, rfl, lw, _, 0, .bl w0, rfl, rfl, SqL.of hlw, atI_nat (j := 0) rfl, w0, rfl, ite2 (fun e0 => ?_) (fun e0 => ?_)⟩
        · refine ⟨_, rfl, _, rfl, lw, _, 1, .bl w1, rfl, rfl, SqL.of hlw, atI_nat (j := 1) rfl, w1, rfl, ite2 (fun e1 => ?_) (fun e1 => ?_)⟩
          · exact ⟨_, rfl, (by show 2 ≤ sizeLine; decide), fun t ht => ⟨t, _, rfl, SqT.of upd_same, rfl, _, _, rfl, _, _, rfl, rfl, _, _, rfl, fin _ _ t ht (.inl ⟨e0, hbad⟩) (.inl ⟨e1, hbad⟩)⟩⟩
          · exact ⟨_, rfl, (by show 2 ≤ sizeLine; decide), fun t ht => ⟨t, _, rfl, SqT.of upd_same, rfl, _, _, rfl, _, _, rfl, rfl, _, _, rfl, fin _ _ t ht (.inl ⟨e0, hbad⟩) (.inr ⟨eq_false_of_ne_true e1, rfl⟩)⟩⟩
        · refine ⟨_, rfl, _, rfl, lw, _, 1, .bl w1, rfl, rfl, SqL.of hlw, atI_nat (j := 1) rfl, w1, rfl, ite2 (fun e1 => ?_) (fun e1 => ?_)⟩
          · exact ⟨_, rfl, (by show 2 ≤ sizeLine; decide), fun t ht => ⟨t, _, rfl, SqT.of upd_same, rfl, _, _, rfl, _, _, rfl, rfl, _, _, rfl, fin _ _ t ht (.inr ⟨eq_false_of_ne_true e0, rfl⟩) (.inl ⟨e1, hbad⟩)⟩⟩
          · exact ⟨_, rfl, (by show 2 ≤ sizeLine; decide), fun t ht => ⟨t, _, rfl, SqT.of upd_same, rfl, _, _, rfl, _, _, rfl, rfl, _, _, rfl, fin _ _ t ht (.inr ⟨eq_false_of_ne_true e0, rfl⟩) (.inr ⟨eq_false_of_ne_true e1, rfl⟩)⟩⟩
      rintro σ H ⟨x, y, rfl, hta, hlw, hx, hy, hP, hT⟩
      -- due
      refine ⟨fun σ H' => ∃ D : Str, σ = [some (.ref a), some (.ref p), some (.int (0 + (i : Int))), some (.ref ta), some (.ref ls), some bad, some (.ref lw), some (.str D), v8, v9, some x, some y, v12] ∧ H' ta = some (.tup [.int p1, .int q1]) ∧ D = (if (w0 || w1) = true then "number" else "fine") ∧ H' lw = some (.lst [.bl w0, .bl w1]) ∧ Arg p K H' ta w0 x ∧ Arg p K H' ta w1 y ∧ Pen H' p (7 * i + 5) ∧ LamX.Tabs [(PT, (envOfC "law" (defScope sLaw) s.heap.objs.size f (.ref cL)).qual ++ "<lambda>")] H', ?_, ?_⟩
      · refine ⟨_, rfl, lw, _, rfl, .inl (SqL.of hlw), rfl, rfl, (w0 || w1), ?_, ite2 (fun e0 => ?_) (fun e0 => ?_)⟩
        · cases w0 <;> cases w1 <;> rfl
        · exact ⟨_, rfl, hta, (by rw [e0]; rfl), hlw, hx, hy, hP, hT⟩
        · exact ⟨_, rfl, hta, (by rw [eq_false_of_ne_true e0]; rfl), hlw, hx, hy, hP, hT⟩
      rintro σ H ⟨D, rfl, hta, hD, hlw, hx, hy, hP, hT⟩
      -- plus
      refine ⟨fun σ H' => σ = [some (.ref a), some (.ref p), some (.int (0 + (i : Int))), some (.ref ta), some (.ref ls), some bad, some (.ref lw), some (.str D), v8, v9, some x, some y, v12] ∧ H' ta = some (.tup [.int p1, .int q1]) ∧ H' lw = some (.lst [.bl w0, .bl w1]) ∧ Arg p K H' ta w0 x ∧ Arg p K H' ta w1 y ∧ Pen H' p (7 * i + 5) ∧ LamX.Tabs [(PT, (envOfC "law" (defScope sLaw) s.heap.objs.size f (.ref cL)).qual ++ "<lambda>")] H', ?_, ?_⟩
      · refine ⟨hT, fun H1 eN hT1 => ?_⟩
        have hta1 := eN _ _ hta (fun _ z => nomatch z)
        have fin : ∀ H2 : Hp, LamX.ExtN H H2 → LamX.Tabs [(PT, (envOfC "law" (defScope sLaw) s.heap.objs.size f (.ref cL)).qual ++ "<lambda>")] H2 → H2 ta = some (.tup [.int p1, .int q1]) ∧ H2 lw = some (.lst [.bl w0, .bl w1]) ∧ Arg p K H2 ta w0 x ∧ Arg p K H2 ta w1 y ∧ Pen H2 p (7 * i + 5) ∧ LamX.Tabs [(PT, (envOfC "law" (defScope sLaw) s.heap.objs.size f (.ref cL)).qual ++ "<lambda>")] H2 := fun H2 e2 t2 =>
          ⟨e2 _ _ hta (fun _ z => nomatch z), e2 _ _ hlw (fun _ z => nomatch z), hx.go (butN_ext e2), hy.go (butN_ext e2), hP.ext e2, t2⟩
        rcases hx with ⟨hw0, nx⟩ | ⟨hw0, rfl⟩
        · exact ⟨_, rfl, _, rfl, _, _, rfl, .inr (.inl ⟨nx H1 (butN_ext eN), 6, by decide, rfl, rfl, fun H2 s2 => ⟨_, rfl, rfl, false, neSE (by rw [word6, hD, hw0]; rfl), iteF ⟨rfl, fin _ (eN.trans (LamX.ExtN.of (s2))) (hT1.ext (s2))⟩⟩⟩)⟩
        · rcases hy with ⟨hw1, ny⟩ | ⟨hw1, rfl⟩
          · exact ⟨_, rfl, _, rfl, _, _, rfl, .inr (.inr ⟨p1, q1, numOf hta1 la, ny H1 (butN_ext eN), 6, by decide, rfl, rfl, fun H2 s2 => ⟨_, rfl, rfl, false, neSE (by rw [word6, hD, hw0, hw1]; rfl), iteF ⟨rfl, fin _ (eN.trans (LamX.ExtN.of (s2))) (hT1.ext (s2))⟩⟩⟩)⟩
          · exact ⟨_, rfl, _, rfl, _, _, rfl, .inl ⟨_, _, _, _, numOf hta1 la, numOf hta1 la, sml_small sp1, sml_small sq1, sml_small sp1, sml_small sq1, fun t ht H2 s2 => ⟨_, rfl, rfl, false, neSE (by rw [hD, hw0, hw1]; rfl), iteF ⟨rfl, fin _ (eN.trans (LamX.ExtN.of ((same_upd ht).trans s2))) (hT1.ext ((same_upd ht).trans s2))⟩⟩⟩⟩
      rintro σ H ⟨rfl, hta, hlw, hx, hy, hP, hT⟩
      -- minus
      refine ⟨fun σ H' => σ = [some (.ref a), some (.ref p), some (.int (0 + (i : Int))), some (.ref ta), some (.ref ls), some bad, some (.ref lw), some (.str D), v8, v9, some x, some y, v12] ∧ H' ta = some (.tup [.int p1, .int q1]) ∧ H' lw = some (.lst [.bl w0, .bl w1]) ∧ Arg p K H' ta w0 x ∧ Arg p K H' ta w1 y ∧ Pen H' p (7 * i + 5) ∧ LamX.Tabs [(PT, (envOfC "law" (defScope sLaw) s.heap.objs.size f (.ref cL)).qual ++ "<lambda>")] H', ?_, ?_⟩
      · refine ⟨hT, fun H1 eN hT1 => ?_⟩
        have hta1 := eN _ _ hta (fun _ z => nomatch z)
        have fin : ∀ H2 : Hp, LamX.ExtN H H2 → LamX.Tabs [(PT, (envOfC "law" (defScope sLaw) s.heap.objs.size f (.ref cL)).qual ++ "<lambda>")] H2 → H2 ta = some (.tup [.int p1, .int q1]) ∧ H2 lw = some (.lst [.bl w0, .bl w1]) ∧ Arg p K H2 ta w0 x ∧ Arg p K H2 ta w1 y ∧ Pen H2 p (7 * i + 5) ∧ LamX.Tabs [(PT, (envOfC "law" (defScope sLaw) s.heap.objs.size f (.ref cL)).qual ++ "<lambda>")] H2 := fun H2 e2 t2 =>
          ⟨e2 _ _ hta (fun _ z => nomatch z), e2 _ _ hlw (fun _ z => nomatch z), hx.go (butN_ext e2), hy.go (butN_ext e2), hP.ext e2, t2⟩
        rcases hx with ⟨hw0, nx⟩ | ⟨hw0, rfl⟩
        · exact ⟨_, rfl, _, rfl, _, _, rfl, .inr (.inl ⟨nx H1 (butN_ext eN), 6, by decide, rfl, rfl, fun H2 s2 => ⟨_, rfl, rfl, false, neSE (by rw [word6, hD, hw0]; rfl), iteF ⟨rfl, fin _ (eN.trans (LamX.ExtN.of (s2))) (hT1.ext (s2))⟩⟩⟩)⟩
        · rcases hy with ⟨hw1, ny⟩ | ⟨hw1, rfl⟩
          · exact ⟨_, rfl, _, rfl, _, _, rfl, .inr (.inr ⟨p1, q1, numOf hta1 la, ny H1 (butN_ext eN), 6, by decide, rfl, rfl, fun H2 s2 => ⟨_, rfl, rfl, false, neSE (by rw [word6, hD, hw0, hw1]; rfl), iteF ⟨rfl, fin _ (eN.trans (LamX.ExtN.of (s2))) (hT1.ext (s2))⟩⟩⟩)⟩
          · exact ⟨_, rfl, _, rfl, _, _, rfl, .inl ⟨_, _, _, _, numOf hta1 la, numOf hta1 la, sml_small sp1, sml_small sq1, sml_small sp1, sml_small sq1, fun t ht H2 s2 => ⟨_, rfl, rfl, false, neSE (by rw [hD, hw0, hw1]; rfl), iteF ⟨rfl, fin _ (eN.trans (LamX.ExtN.of ((same_upd ht).trans s2))) (hT1.ext ((same_upd ht).trans s2))⟩⟩⟩⟩
      rintro σ H ⟨rfl, hta, hlw, hx, hy, hP, hT⟩
      -- compared
      refine ⟨fun σ H' => σ = [some (.ref a), some (.ref p), some (.int (0 + (i : Int))), some (.ref ta), some (.ref ls), some bad, some (.ref lw), some (.str D), v8, v9, some x, some y, v12] ∧ H' ta = some (.tup [.int p1, .int q1]) ∧ H' lw = some (.lst [.bl w0, .bl w1]) ∧ Arg p K H' ta w0 x ∧ Arg p K H' ta w1 y ∧ Pen H' p (7 * i + 5) ∧ LamX.Tabs [(PT, (envOfC "law" (defScope sLaw) s.heap.objs.size f (.ref cL)).qual ++ "<lambda>")] H', ?_, ?_⟩
      · refine ⟨hT, fun H1 eN hT1 => ?_⟩
        have hta1 := eN _ _ hta (fun _ z => nomatch z)
        have fin : ∀ H2 : Hp, LamX.ExtN H H2 → LamX.Tabs [(PT, (envOfC "law" (defScope sLaw) s.heap.objs.size f (.ref cL)).qual ++ "<lambda>")] H2 → H2 ta = some (.tup [.int p1, .int q1]) ∧ H2 lw = some (.lst [.bl w0, .bl w1]) ∧ Arg p K H2 ta w0 x ∧ Arg p K H2 ta w1 y ∧ Pen H2 p (7 * i + 5) ∧ LamX.Tabs [(PT, (envOfC "law" (defScope sLaw) s.heap.objs.size f (.ref cL)).qual ++ "<lambda>")] H2 := fun H2 e2 t2 =>
          ⟨e2 _ _ hta (fun _ z => nomatch z), e2 _ _ hlw (fun _ z => nomatch z), hx.go (butN_ext e2), hy.go (butN_ext e2), hP.ext e2, t2⟩
        rcases hx with ⟨hw0, nx⟩ | ⟨hw0, rfl⟩
        · exact ⟨_, rfl, _, rfl, _, _, rfl, .inr (.inl ⟨nx H1 (butN_ext eN), 6, by decide, rfl, rfl, fun H2 s2 => ⟨_, rfl, rfl, false, neSE (by rw [word6, hD, hw0]; rfl), iteF ⟨rfl, fin _ (eN.trans (LamX.ExtN.of (s2))) (hT1.ext (s2))⟩⟩⟩)⟩
        · rcases hy with ⟨hw1, ny⟩ | ⟨hw1, rfl⟩
          · exact ⟨_, rfl, _, rfl, _, _, rfl, .inr (.inr ⟨p1, q1, numOf hta1 la, ny H1 (butN_ext eN), 6, by decide, rfl, rfl, fun H2 s2 => ⟨_, rfl, rfl, false, neSE (by rw [word6, hD, hw0, hw1]; rfl), iteF ⟨rfl, fin _ (eN.trans (LamX.ExtN.of (s2))) (hT1.ext (s2))⟩⟩⟩)⟩
          · exact ⟨_, rfl, _, rfl, _, _, rfl, .inl ⟨_, _, _, _, numOf hta1 la, numOf hta1 la, sml_small sp1, sml_small sq1, sml_small sp1, sml_small sq1, fun H2 s2 => ⟨_, rfl, rfl, false, neSE (by rw [hD, hw0, hw1]; rfl), iteF ⟨rfl, fin _ (eN.trans (LamX.ExtN.of (s2))) (hT1.ext (s2))⟩⟩⟩⟩
      rintro σ H ⟨rfl, hta, hlw, hx, hy, hP, hT⟩
      -- n
      refine ⟨fun σ H' => ∃ xn : V, σ = [some (.ref a), some (.ref p), some (.int (0 + (i : Int))), some (.ref ta), some (.ref ls), some bad, some (.ref lw), some (.str D), v8, some xn, some x, some y, v12] ∧ H' ta = some (.tup [.int p1, .int q1]) ∧ H' lw = some (.lst [.bl w0, .bl w1]) ∧ ((w0 = true ∧ NoIntP p K H' xn) ∨ (w0 = false ∧ xn = .int p1)) ∧ Pen H' p (7 * i + 6) ∧ LamX.Tabs [(PT, (envOfC "law" (defScope sLaw) s.heap.objs.size f (.ref cL)).qual ++ "<lambda>")] H', ?_, ?_⟩
      · refine ⟨_, rfl, lw, _, 0, .bl w0, rfl, rfl, SqL.of hlw, atI_nat (j := 0) rfl, w0, rfl, ite2 (fun e0 => ?_) (fun e0 => ?_)⟩
        · refine ⟨_, rfl, (by show 1 ≤ sizeLine; decide), fun t0 n0 => ⟨(by show 0 ≤ sizeLine; decide), fun t1 n1 => ⟨(by show 2 ≤ sizeLine; decide), fun t2 n2 => ⟨(by show 7 ≤ sizeLine; decide), fun l hl => ?_⟩⟩⟩⟩
          have x0 := same_upd (o := HO.tup [.int 1]) n0
          have x1 := x0.trans (same_upd (o := HO.lst []) n1)
          have x2 := x1.trans (same_upd (o := HO.tup [.int 7, .int 1]) n2)
          have x3 := x2.trans (same_upd (o := HO.lst [.non, .bl true, .bl false, .str "7", .ref t0, .ref t1, .ref t2]) hl)
          refine ⟨p, l, _, 7 * i + 5, rfl, hP.same x3, by omega, SqL.of upd_same, new_ne (hP.same x2) hl, (by show 0 < 7; decide), (by show 7 ≤ 1000; decide), fun H2 k2 v b2 hP2 hv => ?_⟩
          have bN := (butN_same x3).trans (butN_but b2)
          have hm := List.mem_of_getElem? hv
          simp only [List.mem_cons, List.not_mem_nil, or_false] at hm
          have hno : NoIntP p K H2 v := by
            refine NoIntP.go ?_ (butN_but b2)
            rcases hm with rfl | rfl | rfl | rfl | rfl | rfl | rfl
            · exact ni_flat (fun _ => .non) (by decide)
            · exact ni_flat (fun _ => .bl true) (by decide)
            · exact ni_flat (fun _ => .bl false) (by decide)
            · exact ni_flat (fun _ => .str "7") (by decide)
            · exact ni_tup (new_ne hP n0) (same_upd hl _ _ (same_upd n2 _ _ (same_upd n1 _ _ upd_same)))
            · exact ni_lst (new_ne (hP.same x0) n1) (same_upd hl _ _ (same_upd n2 _ _ upd_same))
            · exact ni_tup (new_ne (hP.same x1) n2) (same_upd hl _ _ upd_same)
          exact ⟨v, rfl, bN _ _ nta hta (fun _ z => nomatch z), bN _ _ nlw hlw (fun _ z => nomatch z), .inl ⟨e0, hno⟩, hP2, tabs_pen (tabs_same hT x3) (hP.same x3) b2⟩
        · exact ⟨_, rfl, ta, _, 0, .int p1, rfl, rfl, SqT.of hta, rfl, _, rfl, hta, hlw, .inr ⟨eq_false_of_ne_true e0, rfl⟩, hP.mono (by omega), hT⟩
      rintro σ H ⟨xn, rfl, hta, hlw, hn, hP, hT⟩
      -- d
      refine ⟨fun σ H' => ∃ xd : V, σ = [some (.ref a), some (.ref p), some (.int (0 + (i : Int))), some (.ref ta), some (.ref ls), some bad, some (.ref lw), some (.str D), some xd, some xn, some x, some y, v12] ∧ H' ta = some (.tup [.int p1, .int q1]) ∧ H' lw = some (.lst [.bl w0, .bl w1]) ∧ ((w0 = true ∧ NoIntP p K H' xn) ∨ (w0 = false ∧ xn = .int p1)) ∧ ((w1 = true ∧ (NoIntP p K H' xd ∨ ∃ z : Int, xd = .int z ∧ z < 1)) ∨ (w1 = false ∧ xd = .int q1)) ∧ Pen H' p (7 * i + 7) ∧ LamX.Tabs [(PT, (envOfC "law" (defScope sLaw) s.heap.objs.size f (.ref cL)).qual ++ "<lambda>")] H', ?_, ?_⟩
      · refine ⟨_, rfl, lw, _, 1, .bl w1, rfl, rfl, SqL.of hlw, atI_nat (j := 1) rfl, w1, rfl, ite2 (fun e0 => ?_) (fun e0 => ?_)⟩
        · refine ⟨_, rfl, _, rfl, (by show 1 ≤ sizeLine; decide), fun t0 n0 => ⟨(by show 1 ≤ sizeLine; decide), fun t1 n1 => ⟨_, _, rfl, rfl, ⟨by decide, by decide, by decide⟩, _, rfl, (by show 8 ≤ sizeLine; decide), fun l hl => ?_⟩⟩⟩
          have x0 := same_upd (o := HO.tup [.int 1]) n0
          have x1 := x0.trans (same_upd (o := HO.lst [.int 1]) n1)
          have x3 := x1.trans (same_upd (o := HO.lst [.non, .bl true, .int 0, .int (-1), .str "7", .ref t0, .ref t1, .int (-((10 : Int) ^ (20 : Int).toNat))]) hl)
          refine ⟨p, l, _, 7 * i + 6, rfl, hP.same x3, by omega, SqL.of upd_same, new_ne (hP.same x1) hl, (by show 0 < 8; decide), (by show 8 ≤ 1000; decide), fun H2 k2 v b2 hP2 hv => ?_⟩
          have bN := (butN_same x3).trans (butN_but b2)
          have hm := List.mem_of_getElem? hv
          simp only [List.mem_cons, List.not_mem_nil, or_false] at hm
          have hno : NoIntP p K H2 v ∨ ∃ z : Int, v = .int z ∧ z < 1 := by
            rcases hm with rfl | rfl | rfl | rfl | rfl | rfl | rfl | rfl
            · exact .inl (ni_flat (fun _ => .non) (by decide))
            · exact .inl (ni_flat (fun _ => .bl true) (by decide))
            · exact .inr ⟨_, rfl, by decide⟩
            · exact .inr ⟨_, rfl, by decide⟩
            · exact .inl (ni_flat (fun _ => .str "7") (by decide))
            · exact .inl (NoIntP.go (ni_tup (new_ne hP n0) (same_upd hl _ _ (same_upd n1 _ _ upd_same))) (butN_but b2))
            · exact .inl (NoIntP.go (ni_lst (new_ne (hP.same x0) n1) (same_upd hl _ _ upd_same)) (butN_but b2))
            · exact .inr ⟨_, rfl, by decide⟩
          exact ⟨v, rfl, bN _ _ nta hta (fun _ z => nomatch z), bN _ _ nlw hlw (fun _ z => nomatch z), hn.imp (fun z => ⟨z.1, z.2.go bN⟩) (fun z => z), .inl ⟨e0, hno⟩, hP2, tabs_pen (tabs_same hT x3) (hP.same x3) b2⟩
        · exact ⟨_, rfl, ta, _, 1, .int q1, rfl, rfl, SqT.of hta, rfl, _, rfl, hta, hlw, hn, .inr ⟨eq_false_of_ne_true e0, rfl⟩, hP.mono (by omega), hT⟩
      rintro σ H ⟨xd, rfl, hta, hlw, hn, hd, hP, hT⟩
      -- due
      refine ⟨fun σ H' => ∃ D2 : Str, σ = [some (.ref a), some (.ref p), some (.int (0 + (i : Int))), some (.ref ta), some (.ref ls), some bad, some (.ref lw), some (.str D2), some xd, some xn, some x, some y, v12] ∧ H' ta = some (.tup [.int p1, .int q1]) ∧ D2 = (if w0 = true then "number" else if w1 = true then "divisor" else "fine") ∧ ((w0 = true ∧ NoIntP p K H' xn) ∨ (w0 = false ∧ xn = .int p1)) ∧ ((w1 = true ∧ (NoIntP p K H' xd ∨ ∃ z : Int, xd = .int z ∧ z < 1)) ∨ (w1 = false ∧ xd = .int q1)) ∧ Pen H' p (7 * i + 7) ∧ LamX.Tabs [(PT, (envOfC "law" (defScope sLaw) s.heap.objs.size f (.ref cL)).qual ++ "<lambda>")] H', ?_, ?_⟩
      · refine ⟨_, rfl, lw, _, 0, .bl w0, rfl, rfl, SqL.of hlw, atI_nat (j := 0) rfl, w0, rfl, ite2 (fun e0 => ?_) (fun e0 => ?_)⟩
        · exact ⟨_, rfl, hta, (by rw [e0]; rfl), hn, hd, hP, hT⟩
        · refine ⟨_, rfl, lw, _, 1, .bl w1, rfl, rfl, SqL.of hlw, atI_nat (j := 1) rfl, w1, rfl, ite2 (fun e1 => ?_) (fun e1 => ?_)⟩
          · exact ⟨_, rfl, hta, (by rw [eq_false_of_ne_true e0, e1]; rfl), hn, hd, hP, hT⟩
          · exact ⟨_, rfl, hta, (by rw [eq_false_of_ne_true e0, eq_false_of_ne_true e1]; rfl), hn, hd, hP, hT⟩
      rintro σ H ⟨D2, rfl, hta, hD, hn, hd, hP, hT⟩
      -- number_of
      refine ⟨hT, fun H1 eN hT1 => ?_⟩
      have fin : ∀ H2 : Hp, LamX.ExtN H H2 → LamX.Tabs [(PT, (envOfC "law" (defScope sLaw) s.heap.objs.size f (.ref cL)).qual ++ "<lambda>")] H2 → Pen H2 p (7 * (i + 1)) ∧ LamX.Tabs [(PT, (envOfC "law" (defScope sLaw) s.heap.objs.size f (.ref cL)).qual ++ "<lambda>")] H2 := fun H2 e2 t2 => ⟨(hP.ext e2).mono (by omega), t2⟩
      rcases hn with ⟨hw0, nn⟩ | ⟨hw0, rfl⟩
      · obtain ⟨T, ty, ne⟩ := nn H1 (butN_ext eN)
        exact ⟨_, rfl, _, rfl, _, _, rfl, .inr (.inl ⟨T, ty, ne, 6, by decide, rfl, rfl, fun H2 s2 => ⟨_, rfl, rfl, false, neSE (by rw [word6, hD, hw0]; rfl), iteF ⟨_, _, _, _, _, _, _, _, _, _, _, rfl, fin _ (eN.trans (LamX.ExtN.of (s2))) (hT1.ext (s2))⟩⟩⟩)⟩
      · rcases hd with ⟨hw1, nd | ⟨z, rfl, hz⟩⟩ | ⟨hw1, rfl⟩
        · obtain ⟨T, ty, ne⟩ := nd H1 (butN_ext eN)
          exact ⟨_, rfl, _, rfl, _, _, rfl, .inr (.inr (.inl ⟨p1, T, rfl, ty, ne, 7, by decide, rfl, rfl, fun H2 s2 => ⟨_, rfl, rfl, false, neSE (by rw [word7, hD, hw0, hw1]; rfl), iteF ⟨_, _, _, _, _, _, _, _, _, _, _, rfl, fin _ (eN.trans (LamX.ExtN.of (s2))) (hT1.ext (s2))⟩⟩⟩))⟩
        · exact ⟨_, rfl, _, rfl, _, _, rfl, .inr (.inr (.inr ⟨p1, z, rfl, rfl, hz, 7, by decide, rfl, rfl, fun H2 s2 => ⟨_, rfl, rfl, false, neSE (by rw [word7, hD, hw0, hw1]; rfl), iteF ⟨_, _, _, _, _, _, _, _, _, _, _, rfl, fin _ (eN.trans (LamX.ExtN.of (s2))) (hT1.ext (s2))⟩⟩⟩))⟩
        · refine ⟨_, rfl, _, rfl, _, _, rfl, .inl ⟨p1, q1, rfl, rfl, la.pos, ?_, fun t ht H2 s2 => ⟨_, rfl, rfl, false, neSE (by rw [hD, hw0, hw1]; rfl), iteF ⟨_, _, _, _, _, _, _, _, _, _, _, rfl, fin _ (eN.trans (LamX.ExtN.of ((same_upd ht).trans s2))) (hT1.ext ((same_upd ht).trans s2))⟩⟩⟩⟩
          exact Nat.lt_of_le_of_lt sq1 (Nat.lt_of_lt_of_le (show 1000 < 2 ^ 10 by decide) (Nat.pow_le_pow_right (n := 2) (by decide) (by decide)))
    · rintro σ H' ⟨v2, v3, v4, v5, v6, v7, v8, v9, v10, v11, v12, rfl, _⟩
      exact q _
end
end My
/-! ### what the top has written, the head -/
namespace My
open PySem PySem.Spec PyProof.Rows L2
theorem excC_of {K : PySem.W.Frag} {mg : Str → Option Value} {x : Str} {D : Addr} (g : mg x = some (.ref D)) (h : mkFacts K D = true) : ExcC K mg x D := by
  unfold mkFacts at h
  simp only [Bool.and_eq_true, beq_iff_eq] at h
  exact ⟨g, h.1, h.2.1, h.2.2.1, h.2.2.2.1⟩
theorem all_mk {l : PySem.W.OpenLaw} {w : World} {K : PySem.W.Frag} {h : Heap} {mg : Str → Option Value} {fa C0 C1 C2 C3 C4 C5 C6 C7 C8 C9 C10 C11 CL cL PT : Addr} {eC : Value} {ddC : Option Addr} {vsC : Array Value} {slC : Array (Option Value)} {f1 f2 f3 f4 f5 f6 f7 f8 f9 f10 f11 f12 f60 f13 f14 f19 : Addr} {od1 od2 od3 od4 od5 od6 od7 od8 od9 od10 od11 od12 od60 od13 od14 od19 an1 an2 an3 an4 an5 an6 an7 an8 an9 an10 an11 an12 an60 an13 an14 an19 : Option Addr} {sl1 sl2 sl3 sl4 sl5 sl6 sl7 sl8 sl9 sl10 sl11 sl12 sl60 sl13 sl14 sl19 : Array (Option Value)} {oc1 oc2 oc3 oc4 oc5 oc6 oc7 oc8 oc9 oc10 oc11 oc12 oc60 oc13 oc14 oc19 kV1 kV2 kV3 kV4 kV5 kV6 kV7 kV8 kV9 kV10 kV11 kV12 kV60 kV13 kV14 kV19 dc1 dc2 dc3 dc4 dc5 dc6 dc7 dc8 dc9 dc10 dc11 dc12 dc60 dc13 dc14 dc19 pm1 pm2 pm3 pm4 pm5 pm6 pm7 pm8 pm9 pm10 pm11 pm12 pm60 pm13 pm14 pm19 cd1 cd2 cd3 cd4 cd5 cd6 cd7 cd8 cd9 cd10 cd11 cd12 cd60 cd13 cd14 cd19 ct1 ct2 ct3 ct4 ct5 ct6 ct7 ct8 ct9 ct10 ct11 ct12 ct60 ct13 ct14 ct19 : Value}
    (X : K.In h) (G : h.Ns mainGlobals mg) (hfa : mg "law" = some (.ref fa)) (own : LamX.OwnTab K fa h)
    (a1 : PySem.W.nsIn K mainGlobals "_law_spread" = some (some (.ref f1)))
    (l1 : K.lookup f1 = some ⟨oc1, od1, .func (PySem.W.fnOf "_law_spread" "_law_spread" (defArgs sSpread) (defBody sSpread) (defScope sSpread) .none kV1 dc1 pm1 an1 cd1 ct1), sl1⟩)
    (c1 : PySem.W.codeIn K cd1 "_law_spread" = true) (k1 : PySem.W.keepIn K (.ref f1) = true)
    (a2 : PySem.W.nsIn K mainGlobals "_law_open" = some (some (.ref f2)))
    (l2 : K.lookup f2 = some ⟨oc2, od2, .func (PySem.W.fnOf "_law_open" "_law_open" (defArgs sOpen) (defBody sOpen) (defScope sOpen) .none kV2 dc2 pm2 an2 cd2 ct2), sl2⟩)
    (c2 : PySem.W.codeIn K cd2 "_law_open" = true) (k2 : PySem.W.keepIn K (.ref f2) = true)
    (a3 : PySem.W.nsIn K mainGlobals "_law_take" = some (some (.ref f3)))
    (l3 : K.lookup f3 = some ⟨oc3, od3, .func (PySem.W.fnOf "_law_take" "_law_take" (defArgs sTake) (defBody sTake) (defScope sTake) .none kV3 dc3 pm3 an3 cd3 ct3), sl3⟩)
    (c3 : PySem.W.codeIn K cd3 "_law_take" = true) (k3 : PySem.W.keepIn K (.ref f3) = true)
    (a4 : PySem.W.nsIn K mainGlobals "_law_x_pick" = some (some (.ref f4)))
    (l4 : K.lookup f4 = some ⟨oc4, od4, .func (PySem.W.fnOf "_law_x_pick" "_law_x_pick" (defArgs sPick) (defBody sPick) (defScope sPick) .none kV4 dc4 pm4 an4 cd4 ct4), sl4⟩)
    (c4 : PySem.W.codeIn K cd4 "_law_x_pick" = true) (k4 : PySem.W.keepIn K (.ref f4) = true)
    (a5 : PySem.W.nsIn K mainGlobals "number_of" = some (some (.ref f5)))
    (l5 : K.lookup f5 = some ⟨oc5, od5, .func (PySem.W.fnOf "number_of" "number_of" (defArgs sNumberOf) (defBody sNumberOf) (defScope sNumberOf) .none kV5 dc5 pm5 an5 cd5 ct5), sl5⟩)
    (c5 : PySem.W.codeIn K cd5 "number_of" = true) (k5 : PySem.W.keepIn K (.ref f5) = true)
    (a6 : PySem.W.nsIn K mainGlobals "plus" = some (some (.ref f6)))
    (l6 : K.lookup f6 = some ⟨oc6, od6, .func (PySem.W.fnOf "plus" "plus" (defArgs sPlus) (defBody sPlus) (defScope sPlus) .none kV6 dc6 pm6 an6 cd6 ct6), sl6⟩)
    (c6 : PySem.W.codeIn K cd6 "plus" = true) (k6 : PySem.W.keepIn K (.ref f6) = true)
    (a7 : PySem.W.nsIn K mainGlobals "minus" = some (some (.ref f7)))
    (l7 : K.lookup f7 = some ⟨oc7, od7, .func (PySem.W.fnOf "minus" "minus" (defArgs sMinus) (defBody sMinus) (defScope sMinus) .none kV7 dc7 pm7 an7 cd7 ct7), sl7⟩)
    (c7 : PySem.W.codeIn K cd7 "minus" = true) (k7 : PySem.W.keepIn K (.ref f7) = true)
    (a8 : PySem.W.nsIn K mainGlobals "compared" = some (some (.ref f8)))
    (l8 : K.lookup f8 = some ⟨oc8, od8, .func (PySem.W.fnOf "compared" "compared" (defArgs sCompared) (defBody sCompared) (defScope sCompared) .none kV8 dc8 pm8 an8 cd8 ct8), sl8⟩)
    (c8 : PySem.W.codeIn K cd8 "compared" = true) (k8 : PySem.W.keepIn K (.ref f8) = true)
    (a9 : PySem.W.nsIn K mainGlobals "is_whole" = some (some (.ref f9)))
    (l9 : K.lookup f9 = some ⟨oc9, od9, .func (PySem.W.fnOf "is_whole" "is_whole" (defArgs sIsWhole) (defBody sIsWhole) (defScope sIsWhole) .none kV9 dc9 pm9 an9 cd9 ct9), sl9⟩)
    (c9 : PySem.W.codeIn K cd9 "is_whole" = true) (k9 : PySem.W.keepIn K (.ref f9) = true)
    (a10 : PySem.W.nsIn K mainGlobals "is_number" = some (some (.ref f10)))
    (l10 : K.lookup f10 = some ⟨oc10, od10, .func (PySem.W.fnOf "is_number" "is_number" (defArgs sIsNumber) (defBody sIsNumber) (defScope sIsNumber) .none kV10 dc10 pm10 an10 cd10 ct10), sl10⟩)
    (c10 : PySem.W.codeIn K cd10 "is_number" = true) (k10 : PySem.W.keepIn K (.ref f10) = true)
    (a11 : PySem.W.nsIn K mainGlobals "need_number" = some (some (.ref f11)))
    (l11 : K.lookup f11 = some ⟨oc11, od11, .func (PySem.W.fnOf "need_number" "need_number" (defArgs sNeed) (defBody sNeed) (defScope sNeed) .none kV11 dc11 pm11 an11 cd11 ct11), sl11⟩)
    (c11 : PySem.W.codeIn K cd11 "need_number" = true) (k11 : PySem.W.keepIn K (.ref f11) = true)
    (a12 : PySem.W.nsIn K mainGlobals "lowest" = some (some (.ref f12)))
    (l12 : K.lookup f12 = some ⟨oc12, od12, .func (PySem.W.fnOf "lowest" "lowest" (defArgs sLowest) (defBody sLowest) (defScope sLowest) .none kV12 dc12 pm12 an12 cd12 ct12), sl12⟩)
    (c12 : PySem.W.codeIn K cd12 "lowest" = true) (k12 : PySem.W.keepIn K (.ref f12) = true)
    (a60 : PySem.W.nsIn K mainGlobals "difference" = some (some (.ref f60)))
    (l60 : K.lookup f60 = some ⟨oc60, od60, .func (PySem.W.fnOf "difference" "difference" (defArgs sDifference) (defBody sDifference) (defScope sDifference) .none kV60 dc60 pm60 an60 cd60 ct60), sl60⟩)
    (c60 : PySem.W.codeIn K cd60 "difference" = true) (k60 : PySem.W.keepIn K (.ref f60) = true)
    (a13 : PySem.W.nsIn K mainGlobals "_law_x_number" = some (some (.ref f13)))
    (l13 : K.lookup f13 = some ⟨oc13, od13, .func (PySem.W.fnOf "_law_x_number" "_law_x_number" (defArgs sXNumber) (defBody sXNumber) (defScope sXNumber) .none kV13 dc13 pm13 an13 cd13 ct13), sl13⟩)
    (c13 : PySem.W.codeIn K cd13 "_law_x_number" = true) (k13 : PySem.W.keepIn K (.ref f13) = true)
    (a14 : PySem.W.nsIn K mainGlobals "_law_x_word" = some (some (.ref f14)))
    (l14 : K.lookup f14 = some ⟨oc14, od14, .func (PySem.W.fnOf "_law_x_word" "_law_x_word" (defArgs sWord) (defBody sWord) (defScope sWord) .none kV14 dc14 pm14 an14 cd14 ct14), sl14⟩)
    (c14 : PySem.W.codeIn K cd14 "_law_x_word" = true) (k14 : PySem.W.keepIn K (.ref f14) = true)
    (a19 : PySem.W.nsIn K mainGlobals "law" = some (some (.ref f19)))
    (l19 : K.lookup f19 = some ⟨oc19, od19, .func (PySem.W.fnOf "law" "law" (defArgs sLaw) (defBody sLaw) (defScope sLaw) .none kV19 dc19 pm19 an19 cd19 ct19), sl19⟩)
    (c19 : PySem.W.codeIn K cd19 "law" = true) (k19 : PySem.W.keepIn K (.ref f19) = true)
    (e0 : PySem.W.nsIn K mainGlobals "NoMachine" = some (some (.ref C0)))
    (e1 : PySem.W.nsIn K mainGlobals "NoPlain" = some (some (.ref C1)))
    (e2 : PySem.W.nsIn K mainGlobals "NoLetters" = some (some (.ref C2)))
    (e3 : PySem.W.nsIn K mainGlobals "NoRule" = some (some (.ref C3)))
    (e4 : PySem.W.nsIn K mainGlobals "NoRow" = some (some (.ref C4)))
    (e5 : PySem.W.nsIn K mainGlobals "NoWord" = some (some (.ref C5)))
    (e6 : PySem.W.nsIn K mainGlobals "NoNumber" = some (some (.ref C6)))
    (e7 : PySem.W.nsIn K mainGlobals "NoDivisor" = some (some (.ref C7)))
    (e8 : PySem.W.nsIn K mainGlobals "NoMatch" = some (some (.ref C8)))
    (e9 : PySem.W.nsIn K mainGlobals "TooGreat" = some (some (.ref C9)))
    (e10 : PySem.W.nsIn K mainGlobals "NoLimit" = some (some (.ref C10)))
    (e11 : PySem.W.nsIn K mainGlobals "HasRow" = some (some (.ref C11)))
    (eL : PySem.W.nsIn K mainGlobals "LaterError" = some (some (.ref CL))) (gcd : PySem.W.nsIn K mainGlobals "gcd" = some (some (.builtin "math.gcd")))
    (kall : kitW K [C0, C1, C2, C3, C4, C5, C6, C7, C8, C9, C10, C11] = true) (kup : upW K [C0, C1, C2, C3, C4, C5, C6, C7, C8, C9, C10, C11] CL = true)
    (hcd : cd19 = .ref cL) (hcL : K.lookup cL = some ⟨eC, ddC, .fields vsC, slC⟩) (hvs : vsC[11]? = some (.ref PT)) (hhd : PySem.W.codeHdIn K cL PT = true) (hPT : K.lookup PT = none)
    (z0 : PySem.W.nsIn K mainGlobals "int" = some none)
    (z1 : PySem.W.nsIn K mainGlobals "list" = some none)
    (z2 : PySem.W.nsIn K mainGlobals "len" = some none)
    (z3 : PySem.W.nsIn K mainGlobals "enumerate" = some none)
    (z4 : PySem.W.nsIn K mainGlobals "type" = some none)
    (z5 : PySem.W.nsIn K mainGlobals "tuple" = some none)
    (z6 : PySem.W.nsIn K mainGlobals "abs" = some none)
    (z7 : PySem.W.nsIn K mainGlobals "range" = some none)
    (z8 : PySem.W.nsIn K mainGlobals "isinstance" = some none)
    (z9 : PySem.W.nsIn K mainGlobals "ValueError" = some none) :
    LamX.LawAtS l w K CX0 7 63 "script" mg fa h := by
  cases hfa.symm.trans (PySem.W.mg_of X G a19)
  have F1 := fun_mk (st := sSpread) l1 c1 k1
  have b1 := F1.binds (ps := ["cell", "at"]) fun _ _ _ _ _ _ us hl => match us, hl with | [_, _], _ => rfl
  have F2 := fun_mk (st := sOpen) l2 c2 k2
  have b2 := F2.binds (ps := ["script"]) fun _ _ _ _ _ _ us hl => match us, hl with | [_], _ => rfl
  have F3 := fun_mk (st := sTake) l3 c3 k3
  have b3 := F3.binds (ps := ["pen", "many"]) fun _ _ _ _ _ _ us hl => match us, hl with | [_, _], _ => rfl
  have F4 := fun_mk (st := sPick) l4 c4 k4
  have b4 := F4.binds (ps := ["pen", "some"]) fun _ _ _ _ _ _ us hl => match us, hl with | [_, _], _ => rfl
  have F5 := fun_mk (st := sNumberOf) l5 c5 k5
  have b5 := F5.binds (ps := ["n", "d"]) fun _ _ _ _ _ _ us hl => match us, hl with | [_, _], _ => rfl
  have F6 := fun_mk (st := sPlus) l6 c6 k6
  have b6 := F6.binds (ps := ["a", "b"]) fun _ _ _ _ _ _ us hl => match us, hl with | [_, _], _ => rfl
  have F7 := fun_mk (st := sMinus) l7 c7 k7
  have b7 := F7.binds (ps := ["a", "b"]) fun _ _ _ _ _ _ us hl => match us, hl with | [_, _], _ => rfl
  have F8 := fun_mk (st := sCompared) l8 c8 k8
  have b8 := F8.binds (ps := ["a", "b"]) fun _ _ _ _ _ _ us hl => match us, hl with | [_, _], _ => rfl
  have F9 := fun_mk (st := sIsWhole) l9 c9 k9
  have b9 := F9.binds (ps := ["thing"]) fun _ _ _ _ _ _ us hl => match us, hl with | [_], _ => rfl
  have F10 := fun_mk (st := sIsNumber) l10 c10 k10
  have b10 := F10.binds (ps := ["thing"]) fun _ _ _ _ _ _ us hl => match us, hl with | [_], _ => rfl
  have F11 := fun_mk (st := sNeed) l11 c11 k11
  have b11 := F11.binds (ps := ["thing", "name"]) fun _ _ _ _ _ _ us hl => match us, hl with | [_, _], _ => rfl
  have F12 := fun_mk (st := sLowest) l12 c12 k12
  have b12 := F12.binds (ps := ["n", "d"]) fun _ _ _ _ _ _ us hl => match us, hl with | [_, _], _ => rfl
  have F60 := fun_mk (st := sDifference) l60 c60 k60
  have b60 := F60.binds (ps := ["a", "b"]) fun _ _ _ _ _ _ us hl => match us, hl with | [_, _], _ => rfl
  have F13 := fun_mk (st := sXNumber) l13 c13 k13
  have b13 := F13.binds (ps := ["n", "d"]) fun _ _ _ _ _ _ us hl => match us, hl with | [_, _], _ => rfl
  have F14 := fun_mk (st := sWord) l14 c14 k14
  have b14 := F14.binds (ps := ["act"]) fun _ _ _ _ _ _ us hl => match us, hl with | [_], _ => rfl
  have F19 := fun_mk (st := sLaw) l19 c19 k19
  have b19 := F19.binds (ps := ["script"]) fun _ _ _ _ _ _ us hl => match us, hl with | [_], _ => rfl
  have mk : ∀ i, i < 12 → mkFacts K ([C0, C1, C2, C3, C4, C5, C6, C7, C8, C9, C10, C11].getD i 0) = true := fun i hi => (upW_of kup hi).1
  have TP : PenTxt K mg f1 f2 f3 f4 _ _ _ _ := { int := PySem.W.mg_none_of X G z0, list := PySem.W.mg_none_of X G z1, len := PySem.W.mg_none_of X G z2, enumerate := PySem.W.mg_none_of X G z3, FSpread := F1, bSpread := b1, gSpread := PySem.W.mg_of X G a1, FOpen := F2, bOpen := b2, gOpen := PySem.W.mg_of X G a2, FTake := F3, bTake := b3, gTake := PySem.W.mg_of X G a3, FPick := F4, bPick := b4, gPick := PySem.W.mg_of X G a4 }
  have TN : NumTxt K mg f5 f6 f7 f8 f9 f10 f11 f12 C6 C7 _ _ _ _ _ _ _ _ := { type := PySem.W.mg_none_of X G z4, int := PySem.W.mg_none_of X G z0, tuple := PySem.W.mg_none_of X G z5, len := PySem.W.mg_none_of X G z2, gcd := PySem.W.mg_of X G gcd, diff := ⟨f60, _, F60, b60, PySem.W.mg_of X G a60⟩, number := excC_of (PySem.W.mg_of X G e6) (mk 6 (by decide)), divisor := excC_of (PySem.W.mg_of X G e7) (mk 7 (by decide)), FNumberOf := F5, bNumberOf := b5, gNumberOf := PySem.W.mg_of X G a5, FPlus := F6, bPlus := b6, gPlus := PySem.W.mg_of X G a6, FMinus := F7, bMinus := b7, gMinus := PySem.W.mg_of X G a7, FCompared := F8, bCompared := b8, gCompared := PySem.W.mg_of X G a8, FIsWhole := F9, bIsWhole := b9, gIsWhole := PySem.W.mg_of X G a9, FIsNumber := F10, bIsNumber := b10, gIsNumber := PySem.W.mg_of X G a10, FNeed := F11, bNeed := b11, gNeed := PySem.W.mg_of X G a11, FLowest := F12, bLowest := b12, gLowest := PySem.W.mg_of X G a12 }
  have TX : XN K mg f13 _ := { int := PySem.W.mg_none_of X G z0, abs := PySem.W.mg_none_of X G z6, FXNumber := F13, bXNumber := b13, gXNumber := PySem.W.mg_of X G a13 }
  have TE : WordTxt K mg C0 C1 C2 C3 C4 C5 C6 C7 C8 C9 C10 C11 CL := { isi := PySem.W.mg_none_of X G z8, ve := PySem.W.mg_none_of X G z9, later := PySem.W.mg_of X G eL, c0 := PySem.W.mg_of X G e0, c1 := PySem.W.mg_of X G e1, c2 := PySem.W.mg_of X G e2, c3 := PySem.W.mg_of X G e3, c4 := PySem.W.mg_of X G e4, c5 := PySem.W.mg_of X G e5, c6 := PySem.W.mg_of X G e6, c7 := PySem.W.mg_of X G e7, c8 := PySem.W.mg_of X G e8, c9 := PySem.W.mg_of X G e9, c10 := PySem.W.mg_of X G e10, c11 := PySem.W.mg_of X G e11, all := kall, up := kup }
  have TW : WT K mg f14 _ := { range := PySem.W.mg_none_of X G z7, FWord := F14, bWord := b14, gWord := PySem.W.mg_of X G a14 }
  have hP := own cL PT _ _ eC ddC vsC slC l19 rfl hcd hcL hvs
  refine ⟨_, [(cL, PT)], spLaw K PT, fun p hp => ?_, fun p hp => ?_, fun p hp => ?_, fun s v => .of_eq rfl, fun H a ns hl _ hT hS => ⟨a, ns, rfl, hS, hl, hT _ (.head _), fun _ => rfl⟩, fun base _ _ TB => ok_law F19 hcd TP TN TX TE TW (TB _ (.head _))⟩
  · cases List.mem_singleton.mp hp
    exact hP
  · cases List.mem_singleton.mp hp
    exact hPT
  · cases List.mem_singleton.mp hp
    exact PySem.W.codeHd_of_K X hhd
end My
open PySem PySem.W PyProof.Rows
set_option maxHeartbeats 0 in
theorem PySem.Challenge.cw_laterless_k32_numbers_refused_holds : PySem.Challenge.rw_laterless_k32_numbers_refused.Holds := by
  w_on; o_law; k_head; (case hw => w_witness2)
  k_fill
  refine LamX.walk_ofOwn (l := PySem.Challenge.rw_laterless_k32_numbers_refused) (n := 63) (k := 7) (x := "script") (CX := fun _ => L2.CX0) rfl (by decide) rfl ⟨rfl, by decide, by decide⟩ ?hrec (fun w h Y => PySem.W.km_in_of Y) ?F (fun _ _ _ _ _ h => h)
  case hrec => kernel_rfl
  case F =>
    intro w mg fa h _ KX G hmg own
    refine' My.all_mk KX G hmg own ?a1 ?l1 ?c1 ?k1 ?a2 ?l2 ?c2 ?k2 ?a3 ?l3 ?c3 ?k3 ?a4 ?l4 ?c4 ?k4 ?a5 ?l5 ?c5 ?k5 ?a6 ?l6 ?c6 ?k6 ?a7 ?l7 ?c7 ?k7 ?a8 ?l8 ?c8 ?k8 ?a9 ?l9 ?c9 ?k9 ?a10 ?l10 ?c10 ?k10 ?a11 ?l11 ?c11 ?k11 ?a12 ?l12 ?c12 ?k12 ?a60 ?l60 ?c60 ?k60 ?a13 ?l13 ?c13 ?k13 ?a14 ?l14 ?c14 ?k14 ?a19 ?l19 ?c19 ?k19 ?e0 ?e1 ?e2 ?e3 ?e4 ?e5 ?e6 ?e7 ?e8 ?e9 ?e10 ?e11 ?eL ?gcd ?kall ?kup ?hcd ?hcL ?hvs ?hhd ?hPT ?z0 ?z1 ?z2 ?z3 ?z4 ?z5 ?z6 ?z7 ?z8 ?z9
    (case a1 => k_is); (case l1 => k_is); (case c1 => k_is); (case k1 => k_is)
    (case a2 => k_is); (case l2 => k_is); (case c2 => k_is); (case k2 => k_is)
    (case a3 => k_is); (case l3 => k_is); (case c3 => k_is); (case k3 => k_is)
    (case a4 => k_is); (case l4 => k_is); (case c4 => k_is); (case k4 => k_is)
    (case a5 => k_is); (case l5 => k_is); (case c5 => k_is); (case k5 => k_is)
    (case a6 => k_is); (case l6 => k_is); (case c6 => k_is); (case k6 => k_is)
    (case a7 => k_is); (case l7 => k_is); (case c7 => k_is); (case k7 => k_is)
    (case a8 => k_is); (case l8 => k_is); (case c8 => k_is); (case k8 => k_is)
    (case a9 => k_is); (case l9 => k_is); (case c9 => k_is); (case k9 => k_is)
    (case a10 => k_is); (case l10 => k_is); (case c10 => k_is); (case k10 => k_is)
    (case a11 => k_is); (case l11 => k_is); (case c11 => k_is); (case k11 => k_is)
    (case a12 => k_is); (case l12 => k_is); (case c12 => k_is); (case k12 => k_is)
    (case a60 => k_is); (case l60 => k_is); (case c60 => k_is); (case k60 => k_is)
    (case a13 => k_is); (case l13 => k_is); (case c13 => k_is); (case k13 => k_is)
    (case a14 => k_is); (case l14 => k_is); (case c14 => k_is); (case k14 => k_is)
    (case a19 => k_is); (case l19 => k_is); (case c19 => k_is); (case k19 => k_is)
    (case e0 => k_is); (case e1 => k_is); (case e2 => k_is); (case e3 => k_is); (case e4 => k_is); (case e5 => k_is); (case e6 => k_is); (case e7 => k_is); (case e8 => k_is); (case e9 => k_is); (case e10 => k_is); (case e11 => k_is)
    (case eL => k_is); (case gcd => k_is)
    (case kall => kernel_rfl); (case kup => kernel_rfl)
    (case hcd => rfl)
    (case hcL => k_is)
    (case hvs => rfl)
    (case hhd => kernel_rfl)
    (case hPT => kernel_rfl)
    (case z0 => k_is); (case z1 => k_is); (case z2 => k_is); (case z3 => k_is); (case z4 => k_is); (case z5 => k_is); (case z6 => k_is); (case z7 => k_is); (case z8 => k_is); (case z9 => k_is)
