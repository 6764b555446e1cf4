import PyProof.Rows.All
import Wide.All
import OpenK.AllK
import Wide.FinOn
import HandS.ForMost
import HandS.ForExc
import HandS.Wide
import HandS.Gcd
import HandS.Evl
import HandS.Walk
import HandS.More
import HandS.FStr
import HandS.IsInst
import HandS.RaiseMore
import HandS.Style
import HandS.ExcValue
import HandS.ExcIs
import HandS.Lambda
import HandS.EndTab
import HandS.EndOwn
import PyProof.TypeEq
import PyProof.ReprLen
import PySem.Challenge.RW_laterless_k33_errors_by_hand
set_option Elab.async false
set_option linter.all false
set_option maxRecDepth 100000
set_option maxHeartbeats 4000000
namespace My
open PySem PySem.Spec PyProof.Rows L2
/-! ### the text by places -/
def topS (i : Nat) : Stmt := PySem.Challenge.pw_laterless_k33_errors_by_hand.main.body.getD i (.Pass ⟨0, 0, 0, 0⟩)
abbrev sSpread : Stmt := topS 28
abbrev sOpen : Stmt := topS 29
abbrev sTake : Stmt := topS 30
abbrev sPick : Stmt := topS 31
theorem scSpread : FnScope ["cell", "at", "primes", "one", "two", "three"] ["cell", "at"] (defScope sSpread) := ⟨rfl, rfl, rfl, by decide +kernel, rfl, by decide +kernel, by decide +kernel⟩
theorem scOpen : FnScope ["script", "cells", "nth", "cell"] ["script"] (defScope sOpen) := ⟨rfl, rfl, rfl, by decide +kernel, rfl, by decide +kernel, by decide +kernel⟩
theorem scTake : FnScope ["pen", "many", "at", "cell", "found"] ["pen", "many"] (defScope sTake) := ⟨rfl, rfl, rfl, by decide +kernel, rfl, by decide +kernel, by decide +kernel⟩
theorem scPick : FnScope ["pen", "some"] ["pen", "some"] (defScope sPick) := ⟨rfl, rfl, rfl, by decide +kernel, rfl, by decide +kernel, by decide +kernel⟩
/-! ### heaps -/
theorem same_upd {H : Hp} {p : Addr} {o : HO} (h : H p = none) : Same H (upd H p o) := fun b x e => by
  rw [upd_ne (ne_of_none e h)]
  exact e
/-- all tracked things but the one at p stand as they stood -/
def But (p : Addr) (H H' : Hp) : Prop := ∀ b o, b ≠ p → H b = some o → H' b = some o
theorem But.of {p : Addr} {H H' : Hp} (s : Same H H') : But p H H' := fun b o _ e => s b o e
theorem But.trans {p : Addr} {H H1 H2 : Hp} (a : But p H H1) (b : But p H1 H2) : But p H H2 := fun c o n e => b c o n (a c o n e)
theorem but_upd {H : Hp} {p : Addr} {o : HO} : But p H (upd H p o) := fun b x n e => by
  rw [upd_ne n]
  exact e
/-- a pen stands at p: a list of the list of cells (at c), the number of cells read so far, at most n, and what is left of the last one -/
structure Pen (H : Hp) (p : Addr) (n : Nat) : Prop where
  ex : ∃ (c : Addr) (cs : List Int) (a r : Int), H p = some (.lst [.ref c, .int a, .int r]) ∧ H c = some (.lst (cs.map V.int)) ∧ c ≠ p ∧ cs.length ≤ 12 ∧ 0 ≤ a ∧ a ≤ (n : Int) ∧ 0 ≤ r
theorem Pen.same {H H' : Hp} {p : Addr} {n : Nat} (h : Pen H p n) (s : Same H H') : Pen H' p n := by
  obtain ⟨c, cs, a, r, h1, h2, h3⟩ := h.ex
  exact ⟨c, cs, a, r, s _ _ h1, s _ _ h2, h3⟩
theorem Pen.mono {H : Hp} {p : Addr} {n m : Nat} (h : Pen H p n) (l : n ≤ m) : Pen H p m := by
  obtain ⟨c, cs, a, r, h1, h2, h3, h4, h5, h6, h7⟩ := h.ex
  exact ⟨c, cs, a, r, h1, h2, h3, h4, h5, by omega, h7⟩
theorem Pen.ls {H : Hp} {p : Addr} {n : Nat} (h : Pen H p n) : ∃ xs, H p = some (.lst xs) := by
  obtain ⟨c, cs, a, r, h1, _⟩ := h.ex
  exact ⟨_, h1⟩
/-! ### the promises -/
def spSpread : Sp := fun vs H Q _ => ∃ (c a : Int), vs = [.int c, .int a] ∧ 0 ≤ a ∧ a < 1048576 ∧ ∀ H' r, Same H H' → 0 ≤ r → Q (.int r) H'
def spOpen (K : PySem.W.Frag) : Sp := fun vs H Q _ => ∃ (a : Addr) (ns : List Int), vs = [.ref a] ∧ SqL K H a (ns.map V.int) ∧ ns.length ≤ 63 ∧ ∀ H' p, Same H H' → H p = none → Pen H' p 0 → Q (.ref p) H'
def spTake : Sp := fun vs H Q _ => ∃ (p : Addr) (many : Int) (n : Nat), vs = [.ref p, .int many] ∧ Pen H p n ∧ n < 1048000 ∧ 0 < many ∧ many.natAbs.log2 < 9000 ∧ ∀ H' k, But p H H' → Pen H' p (n + 1) → 0 ≤ k → k < many → Q (.int k) H'
def spPick (K : PySem.W.Frag) : Sp := fun vs H Q _ => ∃ (p s : Addr) (xs : List V) (n : Nat), vs = [.ref p, .ref s] ∧ Pen H p n ∧ n < 1048000 ∧ SqL K H s xs ∧ s ≠ p ∧ 0 < xs.length ∧ xs.length ≤ 1000 ∧ ∀ (H' : Hp) (k : Nat) (v : V), But p H H' → Pen H' p (n + 1) → xs[(k : Nat)]? = some (v : V) → Q v H'
def primesV : List V := ([.int 2147483629, .int 2147483587, .int 2147483579, .int 2147483563, .int 2147483549, .int 2147483543, .int 2147483497, .int 2147483489] : List V) ++ [.int 2147483477, .int 2147483423, .int 2147483399, .int 2147483353, .int 2147483323]
theorem prime_at {k : Int} (h0 : 0 ≤ k) (h1 : k < 13) : ∃ m : Int, atI primesV k = some (.int m) ∧ 0 < m ∧ m < 2147483648 := by
  have h : k = 0 ∨ k = 1 ∨ k = 2 ∨ k = 3 ∨ k = 4 ∨ k = 5 ∨ k = 6 ∨ k = 7 ∨ k = 8 ∨ k = 9 ∨ k = 10 ∨ k = 11 ∨ k = 12 := by omega
  rcases h with rfl | rfl | rfl | rfl | rfl | rfl | rfl | rfl | rfl | rfl | rfl | rfl | rfl <;> exact ⟨_, rfl, by decide, by decide⟩
theorem ixN_of {n : Nat} {i : Int} (h0 : 0 ≤ i) (h1 : i < (n : Int)) : ixN n i = some i.toNat := by
  unfold ixN
  rw [if_pos h0, if_pos h1]
theorem atI_int {cs : List Int} {i : Int} (h0 : 0 ≤ i) (h1 : i < (cs.length : Int)) : ∃ z : Int, atI (cs.map V.int) i = some (.int z) := by
  have h2 : i.toNat < cs.length := by omega
  refine ⟨cs[i.toNat], ?_⟩
  unfold atI
  rw [List.length_map, ixN_of h0 h1]
  show (cs.map V.int)[i.toNat]? = _
  rw [List.getElem?_map, List.getElem?_eq_getElem h2]
  rfl
theorem cut_ints (ns : List Int) (lo hi : Option Int) : cutV (ns.map V.int) lo hi = ((ns.drop (HT.sIx ns.length 0 lo)).take (HT.sIx ns.length ns.length hi - HT.sIx ns.length 0 lo)).map V.int := by
  unfold cutV
  rw [List.length_map, List.map_take, List.map_drop]
theorem cut_len (ns : List Int) (lo hi : Option Int) : ((ns.drop (HT.sIx ns.length 0 lo)).take (HT.sIx ns.length ns.length hi - HT.sIx ns.length 0 lo)).length = min (HT.sIx ns.length ns.length hi - HT.sIx ns.length 0 lo) (ns.length - HT.sIx ns.length 0 lo) := by
  rw [List.length_take, List.length_drop]
theorem int_of {ds : List Int} {i : Nat} {y : V} (h : (ds.map V.int)[i]? = some y) : i < ds.length ∧ ∃ d : Int, y = .int d := by
  rw [List.getElem?_map] at h
  cases e : ds[i]? with
  | none =>
    rw [e] at h
    cases h
  | some d =>
    rw [e] at h
    exact ⟨(List.getElem?_eq_some_iff.mp e).1, d, (Option.some.inj h).symm⟩
theorem mul_bd {x y m : Int} (h0 : 0 ≤ x) (h1 : x ≤ m) (h2 : 0 ≤ y) : 0 ≤ x * y ∧ x * y ≤ m * y := ⟨Int.mul_nonneg h0 h2, Int.mul_le_mul_of_nonneg_right h1 h2⟩
/-- what the top has left of the pen's defs and the built-ins that they call -/
structure PenTxt (K : PySem.W.Frag) (mg : Str → Option Value) (f1 f2 f3 f4 : Addr) (d1 d2 d3 d4 : FuncData) : Prop where
  int : mg "int" = none
  list : mg "list" = none
  len : mg "len" = none
  enumerate : mg "enumerate" = none
  FSpread : Fun K "_law_spread" "_law_spread" sSpread f1 d1
  bSpread : Binds K d1 ["cell", "at"] []
  gSpread : mg "_law_spread" = some (.ref f1)
  FOpen : Fun K "_law_open" "_law_open" sOpen f2 d2
  bOpen : Binds K d2 ["script"] []
  gOpen : mg "_law_open" = some (.ref f2)
  FTake : Fun K "_law_take" "_law_take" sTake f3 d3
  bTake : Binds K d3 ["pen", "many"] []
  gTake : mg "_law_take" = some (.ref f3)
  FPick : Fun K "_law_x_pick" "_law_x_pick" sPick f4 d4
  bPick : Binds K d4 ["pen", "some"] []
  gPick : mg "_law_x_pick" = some (.ref f4)
section
variable {P : Program} {w : World} {K : PySem.W.Frag} {mg : Str → Option Value} {base : Heap} {f1 f2 f3 f4 : Addr} {d1 d2 d3 d4 : FuncData}
theorem ok_spread (T : PenTxt K mg f1 f2 f3 f4 d1 d2 d3 d4) {k : Nat} : FnOk P w K mg base CX0 (k + 1) f1 d1 ["cell", "at"] spSpread := by
  have F := T.FSpread
  refine F.ok scSpread (fun vs H Q E h => ?_) (fun cdv A outer s H vs Q E hr h => ?_)
  · obtain ⟨c, a, rfl, _⟩ := h
    rfl
  · obtain ⟨c, a, rfl, a0, a1, q⟩ := h
    refine ⟨_, (pss_cons (ps_if (pt_cmpR op_ge (pv 0) (pe_op op_pow pe_int pe_int) (nomark _)) (pss_one (ps_ret (pv 0))) pss_nil)
 (pss_cons (ps_set (i := 2) scSpread.nd rfl (.inl rfl) (pe_lst (pa_cons pe_int (pa_cons pe_int (pa_cons pe_int (pa_cons pe_int (pa_cons pe_int (pa_cons pe_int (pa_cons pe_int (pa_cons pe_int pa_nil))))))))))
 (Evl.pss_cut (ps_set (i := 2) scSpread.nd rfl (.inl rfl) (pe_op op_cat (pv 2) (pe_lst (pa_cons pe_int (pa_cons pe_int (pa_cons pe_int (pa_cons pe_int (pa_cons pe_int pa_nil))))))))
 (Evl.pss_cut (ps_set (i := 3) scSpread.nd rfl (.inl rfl) (pe_op op_mul (pe_op op_mod (pe_callTy call_int1 (by rfl) T.int (by decide +kernel) (pa_cons (pv 0) pa_nil)) pe_int) (pe_op op_add (pe_op op_mul pe_int (pv 1)) pe_int)))
 (Evl.pss_cut (ps_set (i := 3) scSpread.nd rfl (.inl rfl) (pe_op op_mod (pe_callTy call_int1 (by rfl) T.int (by decide +kernel) (pa_cons (pe_op op_pow (pe_op op_add (pe_op op_add (pv 3) (pe_op op_mul (pv 1) pe_int)) pe_int) pe_int) pa_nil)) (pe_ix ix_list (pv 2) (pe_op op_mod (pe_callTy call_int1 (by rfl) T.int (by decide +kernel) (pa_cons (pv 1) pa_nil)) pe_int) (fun _ _ => rfl))))
 (Evl.pss_cut (ps_set (i := 4) scSpread.nd rfl (.inl rfl) (pe_op op_mod (pe_callTy call_int1 (by rfl) T.int (by decide +kernel) (pa_cons (pe_op op_pow (pe_op op_add (pe_op op_add (pe_op op_mul (pv 3) (pe_op op_add (pv 1) pe_int)) (pe_op op_mod (pe_callTy call_int1 (by rfl) T.int (by decide +kernel) (pa_cons (pv 0) pa_nil)) pe_int)) pe_int) pe_int) pa_nil)) (pe_ix ix_list (pv 2) (pe_op op_mod (pe_callTy call_int1 (by rfl) T.int (by decide +kernel) (pa_cons (pe_op op_add (pv 1) pe_int) pa_nil)) pe_int) (fun _ _ => rfl))))
 (Evl.pss_cut (ps_set (i := 5) scSpread.nd rfl (.inl rfl) (pe_op op_mod (pe_callTy call_int1 (by rfl) T.int (by decide +kernel) (pa_cons (pe_op op_pow (pe_op op_add (pe_op op_add (pv 4) (pe_op op_mod (pe_callTy call_int1 (by rfl) T.int (by decide +kernel) (pa_cons (pv 3) pa_nil)) pe_int)) (pv 1)) pe_int) pa_nil)) (pe_ix ix_list (pv 2) (pe_op op_mod (pe_callTy call_int1 (by rfl) T.int (by decide +kernel) (pa_cons (pe_op op_add (pv 1) pe_int) pa_nil)) pe_int) (fun _ _ => rfl))))
 (pss_one (ps_ret (pe_op op_add (pe_op op_mul (pe_op op_add (pe_op op_mul (pv 3) pe_int) (pv 4)) pe_int) (pv 5))))))))))), ?_⟩
    refine ⟨.int c, rfl, 10, 18, rfl, rfl, ⟨by decide, by decide, by decide⟩, c, _, rfl, rfl, _, rfl, ite2 (fun e => ?_) (fun e => ?_)⟩
    · have e' := of_decide_eq_true e
      exact ⟨_, rfl, q H c (Same.refl H) (Int.le_trans (by decide) e')⟩
    · refine ⟨(by show 8 ≤ sizeLine; decide), fun p hp => ?_⟩
      refine ⟨fun σ H' => ∃ l, σ = [some (.int c), some (.int a), some (.ref l), none, none, none] ∧ Same H H' ∧ SqL K H' l primesV, ?_, ?_⟩
      · refine ⟨_, rfl, (by show 5 ≤ sizeLine; decide), fun p2 hp2 => ?_⟩
        have n12 : p ≠ p2 := ne_of_none upd_same hp2
        exact ⟨p, p2, _, _, rfl, rfl, (by rw [upd_ne n12]; exact upd_same), upd_same, (by show 13 ≤ sizeLine; decide), fun l hl => ⟨l, rfl, ((same_upd hp).trans (same_upd hp2)).trans (same_upd hl), SqL.of upd_same⟩⟩
      rintro σ H3 ⟨l, rfl, s3, hS⟩
      -- one
      refine ⟨fun σ H' => ∃ one : Int, σ = [some (.int c), some (.int a), some (.ref l), some (.int one), none, none] ∧ H' = H3 ∧ 0 ≤ one ∧ one ≤ 1000000006 * (2 * a + 69069), ?_, ?_⟩
      · have c1 := Int.emod_nonneg c (show (1000000007 : Int) ≠ 0 by decide)
        have c2 := Int.emod_lt_of_pos c (show (0 : Int) < 1000000007 by decide)
        obtain ⟨o1, o2⟩ := mul_bd c1 (show c % 1000000007 ≤ 1000000006 by omega) (show 0 ≤ 2 * a + 69069 by omega)
        exact ⟨_, rfl, .inl ⟨_, rfl, _, _, rfl, rfl, (by show (0 : Int) < 1000000007; decide), _, rfl, _, _, rfl, rfl, .inl ⟨by decide, by decide⟩, _, _, rfl, rfl, _, _, rfl, rfl, .inl ⟨(by omega), (by omega)⟩, _, rfl, rfl, o1, o2⟩⟩
      rintro σ H3 ⟨one, rfl, rfl, o1, o2⟩
      refine ⟨fun σ H' => ∃ one : Int, σ = [some (.int c), some (.int a), some (.ref l), some (.int one), none, none] ∧ H' = H3 ∧ 0 ≤ one ∧ one < 2147483648, ?_, ?_⟩
      · obtain ⟨m, hm, m0, m1⟩ := prime_at (Int.emod_nonneg a (show (13 : Int) ≠ 0 by decide)) (Int.emod_lt_of_pos a (show (0 : Int) < 13 by decide))
        have u1 := Int.emod_nonneg ((one + a * 40503 + 977) ^ (3 : Int).toNat) (show m ≠ 0 by omega)
        have u2 := Int.emod_lt_of_pos ((one + a * 40503 + 977) ^ (3 : Int).toNat) m0
        refine ⟨_, rfl, _, rfl, _, _, rfl, rfl, .inl ⟨(by omega), (by omega)⟩, _, _, rfl, rfl, _, _, rfl, rfl, _, _, rfl, rfl, ⟨by decide, by decide, (by omega)⟩, .inl ⟨_, rfl, ?_⟩⟩
        exact ⟨_, rfl, _, rfl, .inl ⟨_, rfl, _, _, rfl, rfl, (by show (0 : Int) < 13; decide), l, _, _, _, rfl, rfl, hS, hm, _, _, rfl, rfl, m0, _, rfl, rfl, u1, Int.lt_trans u2 m1⟩⟩
      rintro σ H3 ⟨one, rfl, rfl, p1, p2⟩
      -- two
      refine ⟨fun σ H' => ∃ two : Int, σ = [some (.int c), some (.int a), some (.ref l), some (.int one), some (.int two), none] ∧ H' = H3 ∧ 0 ≤ two ∧ two < 2147483648, ?_, ?_⟩
      · have d1 := Int.emod_nonneg c (show (65537 : Int) ≠ 0 by decide)
        have d2 := Int.emod_lt_of_pos c (show (0 : Int) < 65537 by decide)
        obtain ⟨o1, o2⟩ := mul_bd p1 (show one ≤ 2147483647 by omega) (show 0 ≤ a + 3 by omega)
        obtain ⟨m, hm, m0, m1⟩ := prime_at (Int.emod_nonneg (a + 5) (show (13 : Int) ≠ 0 by decide)) (Int.emod_lt_of_pos (a + 5) (show (0 : Int) < 13 by decide))
        have u1 := Int.emod_nonneg ((one * (a + 3) + c % 65537 + 5) ^ (5 : Int).toNat) (show m ≠ 0 by omega)
        have u2 := Int.emod_lt_of_pos ((one * (a + 3) + c % 65537 + 5) ^ (5 : Int).toNat) m0
        refine ⟨_, rfl, _, rfl, _, _, rfl, rfl, _, _, rfl, rfl, .inl ⟨(by omega), (by omega)⟩, _, rfl, .inl ⟨_, rfl, _, _, rfl, rfl, (by show (0 : Int) < 65537; decide), _, _, rfl, rfl, _, _, rfl, rfl, _, _, rfl, rfl, ⟨by decide, by decide, (by omega)⟩, .inl ⟨_, rfl, ?_⟩⟩⟩
        exact ⟨_, rfl, _, rfl, _, _, rfl, rfl, .inl ⟨_, rfl, _, _, rfl, rfl, (by show (0 : Int) < 13; decide), l, _, _, _, rfl, rfl, hS, hm, _, _, rfl, rfl, m0, _, rfl, rfl, u1, Int.lt_trans u2 m1⟩⟩
      rintro σ H3 ⟨two, rfl, rfl, q1, q2⟩
      -- three
      refine ⟨fun σ H' => ∃ three : Int, σ = [some (.int c), some (.int a), some (.ref l), some (.int one), some (.int two), some (.int three)] ∧ H' = H3 ∧ 0 ≤ three, ?_, ?_⟩
      · have e1 := Int.emod_nonneg one (show (1009 : Int) ≠ 0 by decide)
        have e2 := Int.emod_lt_of_pos one (show (0 : Int) < 1009 by decide)
        obtain ⟨m, hm, m0, m1⟩ := prime_at (Int.emod_nonneg (a + 7) (show (13 : Int) ≠ 0 by decide)) (Int.emod_lt_of_pos (a + 7) (show (0 : Int) < 13 by decide))
        have u1 := Int.emod_nonneg ((two + one % 1009 + a) ^ (3 : Int).toNat) (show m ≠ 0 by omega)
        refine ⟨_, rfl, _, rfl, .inl ⟨_, rfl, _, _, rfl, rfl, (by show (0 : Int) < 1009; decide), _, _, rfl, rfl, _, rfl, _, _, rfl, rfl, _, _, rfl, rfl, ⟨by decide, by decide, (by omega)⟩, .inl ⟨_, rfl, ?_⟩⟩⟩
        exact ⟨_, rfl, _, rfl, _, _, rfl, rfl, .inl ⟨_, rfl, _, _, rfl, rfl, (by show (0 : Int) < 13; decide), l, _, _, _, rfl, rfl, hS, hm, _, _, rfl, rfl, m0, _, rfl, rfl, u1⟩⟩
      rintro σ H3 ⟨three, rfl, rfl, r1⟩
      exact ⟨_, rfl, _, _, rfl, rfl, .inr ⟨by decide, by decide⟩, _, rfl, _, _, rfl, rfl, _, _, rfl, rfl, .inr ⟨by decide, by decide⟩, _, rfl, _, _, rfl, rfl, q H3 _ s3 (by omega)⟩
theorem ok_open (T : PenTxt K mg f1 f2 f3 f4 d1 d2 d3 d4) {k : Nat} : FnOk P w K mg base CX0 (k + 1) f2 d2 ["script"] (spOpen K) := by
  have F := T.FOpen
  refine F.ok scOpen (fun vs H Q E h => ?_) (fun cdv A outer s H vs Q E hr h => ?_)
  · obtain ⟨c, a, rfl, _⟩ := h
    rfl
  · obtain ⟨a, ns, rfl, hS, hl, q⟩ := h
    refine ⟨_, (Evl.pss_cut (ps_set (i := 1) scOpen.nd rfl (.inl rfl) (pe_callTy call_list_of (by rfl) T.list (by decide +kernel) (pa_cons (pe_slice sl_list (pv 0) po_none (po_some pe_int)) pa_nil)))
 (pss_cons (ps_for PassesOwn.never rfl (pi_enum (by rfl) T.enumerate (pa_cons (pe_slice sl_list (pv 0) (po_some pe_int) (po_some pe_int)) pa_nil)) (pg_tup rfl (pgs_cons (pg_name (i := 2) scOpen.nd rfl (.inl rfl)) (pgs_cons (pg_name (i := 3) scOpen.nd rfl (.inl rfl)) pgs_nil)))
 (pss_one (ps_asg (pe_op op_add (pe_ix ix_list (pv 1) (pe_op op_mod (pe_callTy call_int1 (by rfl) T.int (by decide +kernel) (pa_cons (pv 2) pa_nil)) pe_int) (fun _ _ => rfl)) (pv 3)) (pg_sub (pv 1) (pe_op op_mod (pe_callTy call_int1 (by rfl) T.int (by decide +kernel) (pa_cons (pv 2) pa_nil)) pe_int) set_list))))
 (pss_one (ps_ret (pe_lst (pa_cons (pv 1) (pa_cons pe_int (pa_cons pe_int pa_nil)))))))), ?_⟩
    -- cells
    refine ⟨fun σ H' => ∃ (c : Addr) (cs : List Int), σ = [some (.ref a), some (.ref c), none, none] ∧ Same H H' ∧ H c = none ∧ H' c = some (.lst (cs.map V.int)) ∧ cs.length = min 12 ns.length, ?_, ?_⟩
    · refine ⟨.ref a, rfl, 12, rfl, a, ns.map V.int, rfl, hS, fun c nc => ⟨c, _, rfl, .inl (SqL.of upd_same), fun l hl => ⟨l, (ns.drop (HT.sIx ns.length 0 none)).take (HT.sIx ns.length ns.length (some 12) - HT.sIx ns.length 0 none), rfl, (same_upd nc).trans (same_upd hl), (same_upd nc).free hl, ?_, ?_⟩⟩⟩
      · rw [upd_same, cut_ints]
      · rw [cut_len]
        rw [HT.sIx_none, show HT.sIx ns.length ns.length (some 12) = min 12 ns.length from HT.sIx_nat ns.length ns.length 12]
        omega
    rintro σ H1 ⟨c, cs, rfl, s1, nc, hC, lC⟩
    have hS1 : SqL K H1 a (ns.map V.int) := s1.seq hS
    refine ⟨.ref a, rfl, 12, rfl, 63, rfl, a, ns.map V.int, rfl, hS1, fun d nd => ⟨d, _, rfl, SqL.of upd_same, ?_⟩⟩
    have s2 : Same H1 (upd H1 d (.lst (cutV (ns.map V.int) (some 12) (some 63)))) := same_upd nd
    rw [cut_ints] at s2 ⊢
    have l2 := cut_len ns (some 12) (some 63)
    rw [show HT.sIx ns.length 0 (some 12) = min 12 ns.length from HT.sIx_nat ns.length 0 12] at l2 s2 ⊢
    have hd : (upd H1 d (.lst ((List.take (HT.sIx ns.length ns.length (some 63) - min 12 ns.length) (List.drop (min 12 ns.length) ns)).map V.int))) d = some (.lst ((List.take (HT.sIx ns.length ns.length (some 63) - min 12 ns.length) (List.drop (min 12 ns.length) ns)).map V.int)) := upd_same
    generalize (List.take (HT.sIx ns.length ns.length (some 63) - min 12 ns.length) (List.drop (min 12 ns.length) ns)) = ds at s2 l2 hd ⊢
    have ncd : c ≠ d := ne_of_none hC nd
    refine for_it (walk_enum (K := K) (a := d) (xs := ds.map V.int)) (fun i σ H' => ∃ (v2 v3 : Option V) (cs : List Int), σ = [some (.ref a), some (.ref c), v2, v3] ∧ Same H H' ∧ H' c = some (.lst (cs.map V.int)) ∧ cs.length = min 12 ns.length ∧ H' d = some (.lst (ds.map V.int)))
      ⟨none, none, cs, rfl, s1.trans s2, s2 _ _ hC, lC, hd⟩ ?_ ?_ ?_
    · rintro i σ H' _ ⟨_, _, _, _, _, _, _, h⟩
      exact SqL.of h
    · rintro i x σ H' H'' hi ⟨v2, v3, cs, rfl, s3, hC, lC, hD⟩ ⟨T, x1, y, rfl, nT, rfl, ex, ey⟩
      obtain rfl : V.int (i : Nat) = x1 := Option.some.inj ex
      obtain ⟨hi2, z, rfl⟩ := int_of ey
      have c12 : cs.length = 12 := by omega
      have sT : Same H' (upd H' T (.tup [.int (i : Nat), .int z])) := same_upd nT
      have hC' := sT _ _ hC
      have m0 := Int.emod_nonneg ((i : Nat) : Int) (show (12 : Int) ≠ 0 by decide)
      have m1 := Int.emod_lt_of_pos ((i : Nat) : Int) (show (0 : Int) < 12 by decide)
      obtain ⟨u, hu⟩ := atI_int (cs := cs) m0 (by omega)
      refine ⟨T, _, rfl, SqT.of upd_same, rfl, _, _, rfl, _, _, rfl, rfl, ?_⟩
      refine ⟨_, rfl, _, rfl, .inl ⟨_, rfl, _, _, rfl, rfl, (by show (0 : Int) < 12; decide), c, _, _, _, rfl, rfl, SqL.of hC', hu, _, rfl, _, _, rfl, rfl, _, rfl, _, rfl, .inl ⟨_, rfl, _, _, rfl, rfl, (by show (0 : Int) < 12; decide), c, _, _, _, rfl, rfl, hC', ixN_of m0 (by rw [List.length_map]; omega), ?_⟩⟩⟩
      refine ⟨_, _, cs.set ((i : Int) % 12).toNat (u + z), rfl, fun b o e => ?_, ?_, by rw [List.length_set]; exact lC, ?_⟩
      · have nb : b ≠ c := fun q => by
          rw [q, nc] at e
          cases e
        rw [upd_ne nb]
        exact sT _ _ (s3 _ _ e)
      · rw [upd_same, List.map_set]
      · rw [upd_ne ncd.symm]
        exact sT _ _ hD
    · rintro σ H' ⟨v2, v3, cs, rfl, s3, hC, lC, hD⟩
      refine ⟨_, rfl, (by show 3 ≤ sizeLine; decide), fun p hp => q _ p (s3.trans (same_upd hp)) (s3.free hp) ⟨c, cs, 0, 0, upd_same, ?_, ne_of_none hC hp, by omega, by decide, by decide, by decide⟩⟩
      exact same_upd hp _ _ hC
theorem ok_take (T : PenTxt K mg f1 f2 f3 f4 d1 d2 d3 d4) {k : Nat} : FnOk P w K mg base CX0 (k + 2) f3 d3 ["pen", "many"] spTake := by
  have F := T.FTake
  have GS : FnOk P w K mg base CX0 (k + 1) f1 d1 ["cell", "at"] spSpread := ok_spread T
  refine F.ok scTake (fun vs H Q E h => ?_) (fun cdv A outer s H vs Q E hr h => ?_)
  · obtain ⟨c, a, n, rfl, _⟩ := h
    rfl
  · obtain ⟨p, many, n, rfl, hP, hn, m0, m1, q⟩ := h
    refine ⟨_, (Evl.pss_cut (ps_if (pt_cmpR op_lt (pe_ix ix_list (pv 0) pe_int (fun _ _ => rfl)) (pv 1) (nomark _)) (pss_cons (ps_set (i := 2) scTake.nd rfl (.inl rfl) (pe_ix ix_list (pv 0) pe_int (fun _ _ => rfl)))
 (pss_cons (ps_set (i := 3) scTake.nd rfl (.inl rfl) pe_int)
 (Evl.pss_cut (ps_if (pt_cmpR op_lt (pv 2) (pe_callB call_len_seq (by rfl) T.len PySem.boot_len (pa_cons (pe_ix ix_list (pv 0) pe_int (fun _ _ => rfl)) pa_nil)) (nomark _)) (pss_one (ps_set (i := 3) scTake.nd rfl (.inl rfl) (pe_ix ix_list (pe_ix ix_list (pv 0) pe_int (fun _ _ => rfl)) (pv 2) (fun _ _ => rfl)))) (pss_one (ps_if (pt_cmpR op_gt (pe_callB call_len_seq (by rfl) T.len PySem.boot_len (pa_cons (pe_ix ix_list (pv 0) pe_int (fun _ _ => rfl)) pa_nil)) pe_int (nomark _)) (pss_one (ps_set (i := 3) scTake.nd rfl (.inl rfl) (pe_op op_mod (pe_callTy call_int1 (by rfl) T.int (by decide +kernel) (pa_cons (pe_ix ix_list (pe_ix ix_list (pv 0) pe_int (fun _ _ => rfl)) (pe_op op_mod (pe_callTy call_int1 (by rfl) T.int (by decide +kernel) (pa_cons (pe_op op_add (pe_op op_mul (pv 2) pe_int) pe_int) pa_nil)) (pe_callB call_len_seq (by rfl) T.len PySem.boot_len (pa_cons (pe_ix ix_list (pv 0) pe_int (fun _ _ => rfl)) pa_nil))) (fun _ _ => rfl)) pa_nil)) (pe_op op_add (pe_op op_pow pe_int pe_int) (pv 2))))) pss_nil)))
 (pss_cons (ps_asg (pe_op op_add (pv 2) pe_int) (pg_sub (pv 0) pe_int set_list))
 (pss_one (ps_asg (pe_call GS hr (by rfl) T.gSpread T.FSpread.kp T.bSpread .nil pass0 (pa_cons (pv 3) (pa_cons (pv 2) pa_nil))) (pg_sub (pv 0) pe_int set_list))))))) pss_nil)
 (pss_cons (ps_set (i := 4) scTake.nd rfl (.inl rfl) (pe_op op_mod (pe_callTy call_int1 (by rfl) T.int (by decide +kernel) (pa_cons (pe_ix ix_list (pv 0) pe_int (fun _ _ => rfl)) pa_nil)) (pv 1)))
 (pss_cons (ps_asg (pe_op op_fdivW (pe_ix ix_list (pv 0) pe_int (fun _ _ => rfl)) (pv 1)) (pg_sub (pv 0) pe_int set_list))
 (pss_one (ps_ret (pv 4)))))), ?_⟩
    obtain ⟨c, cs, a, r, hp, hc, ncp, lc, a0, a1, r0⟩ := hP.ex
    refine ⟨fun σ H' => ∃ v2 v3, σ = [some (.ref p), some (.int many), v2, v3, none] ∧ But p H H' ∧ Pen H' p (n + 1), ?_, ?_⟩
    · refine ⟨_, rfl, p, _, 2, .int r, rfl, rfl, SqL.of hp, atI_nat (j := 2) rfl, _, rfl, _, _, rfl, rfl, _, rfl, ite2 (fun _ => ?_) (fun _ => ?_)⟩
      · refine ⟨_, rfl, p, _, 1, .int a, rfl, rfl, SqL.of hp, atI_nat (j := 1) rfl, ?_⟩
        refine ⟨fun σ H' => ∃ z : Int, σ = [some (.ref p), some (.int many), some (.int a), some (.int z), none] ∧ H' = H, ?_, ?_⟩
        · refine ⟨_, rfl, _, rfl, p, _, 0, .ref c, rfl, rfl, SqL.of hp, atI_nat (j := 0) rfl, c, _, rfl, .inl (SqL.of hc), _, _, rfl, rfl, _, rfl, ite2 (fun e => ?_) (fun e => ?_)⟩
          · have e' := of_decide_eq_true e
            rw [List.length_map] at e'
            obtain ⟨z, hz⟩ := atI_int (cs := cs) a0 e'
            exact ⟨_, rfl, p, _, 0, .ref c, rfl, rfl, SqL.of hp, atI_nat (j := 0) rfl, _, rfl, c, _, _, _, rfl, rfl, SqL.of hc, hz, z, rfl, rfl⟩
          · refine ⟨_, rfl, p, _, 0, .ref c, rfl, rfl, SqL.of hp, atI_nat (j := 0) rfl, c, _, rfl, .inl (SqL.of hc), _, _, rfl, rfl, _, rfl, ite2 (fun e => ?_) (fun e => ?_)⟩
            · have e' := of_decide_eq_true e
              rw [List.length_map] at e'
              have k0 := Int.emod_nonneg (a * 5 + 3) (show (cs.length : Int) ≠ 0 by omega)
              have k1 := Int.emod_lt_of_pos (a * 5 + 3) e'
              obtain ⟨z, hz⟩ := atI_int (cs := cs) k0 k1
              have el : (List.map V.int cs).length = cs.length := List.length_map ..
              refine ⟨_, rfl, p, _, 0, .ref c, rfl, rfl, SqL.of hp, atI_nat (j := 0) rfl, _, rfl, _, _, rfl, rfl, .inr ⟨by decide, by decide⟩, _, _, rfl, rfl, .inl ⟨_, rfl, _, rfl, p, _, 0, .ref c, rfl, rfl, SqL.of hp, atI_nat (j := 0) rfl, c, _, rfl, .inl (SqL.of hc), _, _, rfl, rfl, (by rw [el]; exact e'), c, _, _, _, rfl, rfl, SqL.of hc, (by rw [el]; exact hz), .inl ⟨_, rfl, _, _, rfl, rfl, ⟨by decide, by decide, by decide⟩, _, rfl, _, _, rfl, rfl, _, _, rfl, rfl, ?_, _, rfl, rfl⟩⟩⟩
              have : (10 : Int) ^ (17 : Int).toNat = 100000000000000000 := by decide
              show 0 < (10 : Int) ^ (17 : Int).toNat + a
              omega
            · exact ⟨0, rfl, rfl⟩
        rintro σ H ⟨z, rfl, rfl⟩
        refine ⟨_, rfl, _, _, rfl, rfl, _, rfl, p, _, 1, 1, rfl, rfl, hp, rfl, ?_⟩
        refine ⟨_, rfl, _, rfl, z, a, rfl, a0, by omega, fun H2 r2 s2 r20 => ?_⟩
        have hp2 := s2 _ _ upd_same
        refine ⟨_, rfl, p, _, 2, 2, rfl, rfl, hp2, rfl, _, _, rfl, ?_, ⟨c, cs, a + 1, r2, upd_same, ?_, ncp, lc, by omega, by omega, r20⟩⟩
        · exact (but_upd.trans (But.of s2)).trans but_upd
        · rw [upd_ne ncp]
          exact s2 _ _ (by rw [upd_ne ncp]; exact hc)
      · exact ⟨_, _, rfl, fun _ _ _ e => e, hP.mono (Nat.le_succ n)⟩
    rintro σ H1 ⟨v2, v3, rfl, b1, hP1⟩
    obtain ⟨c, cs, a, r, hp, hc, ncp, lc, a0, a1, r0⟩ := hP1.ex
    refine ⟨_, rfl, p, _, 2, .int r, rfl, rfl, SqL.of hp, atI_nat (j := 2) rfl, .inl ⟨_, rfl, _, rfl, _, _, rfl, rfl, m0, ?_⟩⟩
    refine ⟨_, rfl, p, _, 2, .int r, rfl, rfl, SqL.of hp, atI_nat (j := 2) rfl, _, rfl, _, _, rfl, rfl, ⟨m0, m1⟩, _, rfl, p, _, 2, 2, rfl, rfl, hp, rfl, ?_⟩
    refine ⟨_, rfl, q _ _ (b1.trans but_upd) ⟨c, cs, a, r / many, upd_same, ?_, ncp, lc, a0, a1, Int.ediv_nonneg r0 (Int.le_of_lt m0)⟩ (Int.emod_nonneg _ (by omega)) (Int.emod_lt_of_pos _ m0)⟩
    rw [upd_ne ncp]
    exact hc
theorem ok_pick (T : PenTxt K mg f1 f2 f3 f4 d1 d2 d3 d4) {k : Nat} : FnOk P w K mg base CX0 (k + 3) f4 d4 ["pen", "some"] (spPick K) := by
  have F := T.FPick
  have GT : FnOk P w K mg base CX0 (k + 2) f3 d3 ["pen", "many"] spTake := ok_take T
  refine F.ok scPick (fun vs H Q E h => ?_) (fun cdv A outer s H vs Q E hr h => ?_)
  · obtain ⟨c, a, xs, n, rfl, _⟩ := h
    rfl
  · obtain ⟨p, l, xs, n, rfl, hP, hn, hS, nlp, l0, l1, q⟩ := h
    refine ⟨_, (pss_one (ps_ret (pe_ix ix_list (pv 1) (pe_call GT hr (by rfl) T.gTake T.FTake.kp T.bTake .nil pass0 (pa_cons (pv 0) (pa_cons (pe_callB call_len_seq (by rfl) T.len PySem.boot_len (pa_cons (pv 1) pa_nil)) pa_nil))) (fun _ _ => rfl)))), ?_⟩
    refine ⟨_, rfl, _, rfl, _, rfl, l, xs, rfl, .inl hS, p, _, n, rfl, hP, hn, by omega, ?_, fun H1 k b1 hP1 k0 k1 => ?_⟩
    · have h2 : ((xs.length : Int)).natAbs ≤ 1000 := by omega
      have h3 : ((xs.length : Int)).natAbs.log2 ≤ ((xs.length : Int)).natAbs := Nat.log2_le_self _
      omega
    · have hk : k.toNat < xs.length := by omega
      have e : xs[k.toNat]? = some xs[k.toNat] := List.getElem?_eq_getElem hk
      have hS1 : SqL K H1 l xs := by
        rcases hS with (h | ⟨o, h⟩) | h
        · exact .inl (.inl (b1 _ _ nlp h))
        · exact .inl (.inr ⟨o, b1 _ _ nlp h⟩)
        · exact .inr h
      exact ⟨l, xs, k, _, rfl, rfl, hS1, at_of (by omega) e, q H1 k.toNat _ b1 hP1 e⟩
end
end My
/-! ### == and != of two built-in classes -/
namespace My
open PySem PySem.Spec PyProof.Rows L2 PySem.TypeEq
theorem ty_ne1 : Slot "type" (cmpInfo .NotEq).2.1 "object.__ne__" := .of (owner := "object") (n := "__ne__")
  (by rw [typeLookup_type, builtinLookup_eq_fast]; kernel_rfl) (by decide +kernel) (by decide +kernel) (by decide +kernel) (by first | exact .inr (by decide +kernel) | exact .inl (by decide +kernel))
  (by rw [isSubtype_type]; kernel_rfl)
theorem ty_ne2 : Slot "type" (cmpInfo .NotEq).2.2 "object.__ne__" := .of (owner := "object") (n := "__ne__")
  (by rw [typeLookup_type, builtinLookup_eq_fast]; kernel_rfl) (by decide +kernel) (by decide +kernel) (by decide +kernel) (by first | exact .inr (by decide +kernel) | exact .inl (by decide +kernel))
  (by rw [isSubtype_type]; kernel_rfl)
section
variable {prog : Program} {w : World} {A : Around} {E : Value → Shared → Prop} {s : Shared}
theorem objNe_body {X : String} {b : Value} {Q : Fin → Shared → Prop} (hX : ∀ s' : Shared, s'.TypeIs (.type X) "type") (hv : [Value.type X, b].any Value.onHeap = false)
    (hc : wpAny (model prog w) A (call (.builtin "object.__eq__") [.type X, b]) (fun v s' => (v = .notImplemented ∧ Q (.done (.ret .notImplemented)) s') ∨ ∃ k, v = .bool k ∧ Q (.done (.ret (.bool (!k)))) s') E s) :
    wpAny (model prog w) A (Builtin.«object.__ne__» ⟨[.type X, b], []⟩) Q E s := by
  unfold Builtin.«object.__ne__»
  refine wpAny_bind (m := slotArgs "__ne__" 1 ⟨[.type X, b], []⟩) (wpAny_pure ?_)
  dsimp only
  refine wpAny_bind (wpAny_cRoomFor_or (.inl hv) ?_)
  refine wpAny_bind (m := callSpecialIfBound? (.type X) (Str.ofString "__eq__") [b]) (wpAny_callSpecialIfBound?_slot (T := "type") (hX s) slot_type_eq (wpAny_mono hc (fun v s' h => ?_) fun _ _ e => e))
  rcases h with ⟨rfl, h⟩ | ⟨k, rfl, h⟩
  · exact wpAny_pure h
  · exact wpAny_bind (wpAny_truthy_bool (wpAny_pure h))
theorem ne_ty_same {X : String} {Q : Value → Shared → Prop} (hX : ∀ s' : Shared, s'.TypeIs (.type X) "type") (h : Q (.bool false) s) : wpAny (model prog w) A (compareOp .NotEq (.type X) (.type X)) Q E s := by
  show wpAny _ A (richCompare .NotEq _ _) Q E s
  refine wpAny_richCompare_same (T := "type") (hX s) (hX s) ty_ne1 (wpAny_call_entry ty_ne1 (hX s) F.entry_object_ne (objNe_body hX rfl ?_) (F.args_object_ne_2 _ _))
  exact call_gives slot_type_eq (hX s) F.entry_object_eq (F.args_object_eq_2 _ _) (object_eq_same rfl (by simp)) (.inr ⟨true, rfl, _, rfl, (by intro e; cases e), h⟩)
theorem ne_ty_other {X Y : String} {Q : Value → Shared → Prop} (hX : ∀ s' : Shared, s'.TypeIs (.type X) "type") (hY : ∀ s' : Shared, s'.TypeIs (.type Y) "type")
    (hne : (Value.type X == Value.type Y) = false) (hen : (Value.type Y == Value.type X) = false) (h : Q (.bool true) s) : wpAny (model prog w) A (compareOp .NotEq (.type X) (.type Y)) Q E s := by
  show wpAny _ A (richCompare .NotEq _ _) Q E s
  have k1 := ty_ne1
  have k2 := ty_ne2
  rcases hi : cmpInfo CmpOp.NotEq with ⟨sym, f, r⟩
  rw [hi] at k1 k2
  simp only [richCompare, hi, (hX s).oneThing_none]
  try with_reducible refine wpAny_holding ?_
  refine wpAny_bind (wpAny_cRoomFor_or (.inl rfl) ?_)
  refine wpAny_bind (wpAny_typeOf (hX s) ?_)
  refine wpAny_bind (wpAny_typeOf (hY s) ?_)
  simp only [bne_self_eq_false, Bool.false_eq_true, if_false, pure_bind, Bool.not_false, if_true]
  refine wpAny_bind (m := tryCompare (.type X) _ (.type Y)) (wpAny_tryCompare_declines (hX s) k1 ?_)
  refine wpAny_call_entry k1 (hX s) F.entry_object_ne (objNe_body hX rfl ?_) (F.args_object_ne_2 _ _)
  refine call_gives slot_type_eq (hX s) F.entry_object_eq (F.args_object_eq_2 _ _) (object_eq_other rfl hne) (.inl ⟨rfl, _, rfl, rfl, ?_⟩)
  refine wpAny_bind (m := tryCompare (.type Y) _ (.type X)) (wpAny_tryCompare_declines (hY s) k2 ?_)
  refine wpAny_call_entry k2 (hY s) F.entry_object_ne (objNe_body hY rfl ?_) (F.args_object_ne_2 _ _)
  refine call_gives slot_type_eq (hY s) F.entry_object_eq (F.args_object_eq_2 _ _) (object_eq_other rfl hen) (.inl ⟨rfl, _, rfl, rfl, ?_⟩)
  refine wpAny_bind (wpAny_rule (wpAny_bind (wpAny_of_eq (isSame_plain rfl) (wpAny_pure ?_))))
  rw [hne]
  exact h
end
/-- the built-in classes that are compared -/
def isTy (T : String) : Prop := ∀ s' : Shared, s'.TypeIs (.type T) "type"
theorem tyB_ty {K : PySem.W.Frag} {H : Hp} {x : V} {T : String} (h : TyB K H x T) : isTy T := by
  cases h with
  | non => exact meta_NoneType
  | bl => exact meta_bool
  | int => exact meta_int
  | str => exact meta_str
  | byt => exact meta_bytes
  | lst => exact meta_list
  | tup => exact meta_tuple
  | dK => exact meta_dict
section
variable {X : Cx}
def rTyEq : R2 := fun x y H Q => ∃ a b, x = .ty a ∧ y = .ty b ∧ isTy a ∧ isTy b ∧ Q (.bl (decide (a = b))) H
def rTyNe : R2 := fun x y H Q => ∃ a b, x = .ty a ∧ y = .ty b ∧ isTy a ∧ isTy b ∧ Q (.bl (!decide (a = b))) H
theorem op_eqTy : OpR X (compareOp .Eq) rTyEq := by
  intro pins s σ H x y v u Q I rx ry h
  obtain ⟨a, b, rfl, rfl, ha, hb, q⟩ := h
  obtain rfl : v = Value.type a := rx
  obtain rfl : u = Value.type b := ry
  by_cases e : a = b
  · subst e
    exact eq_type_same ha ⟨.bl true, H, I, rfl, by rw [decide_eq_true rfl] at q; exact q⟩
  · exact eq_type_other ha hb ((ty_beq a b).trans (decide_eq_false e)) ⟨.bl false, H, I, rfl, by rw [decide_eq_false e] at q; exact q⟩
theorem op_neTy : OpR X (compareOp .NotEq) rTyNe := by
  intro pins s σ H x y v u Q I rx ry h
  obtain ⟨a, b, rfl, rfl, ha, hb, q⟩ := h
  obtain rfl : v = Value.type a := rx
  obtain rfl : u = Value.type b := ry
  by_cases e : a = b
  · subst e
    exact ne_ty_same ha ⟨.bl false, H, I, rfl, by rw [decide_eq_true rfl] at q; exact q⟩
  · exact ne_ty_other ha hb ((ty_beq a b).trans (decide_eq_false e)) ((ty_beq b a).trans (decide_eq_false fun z => e z.symm)) ⟨.bl true, H, I, rfl, by rw [decide_eq_false e] at q; exact q⟩
end
end My
/-! ### numbers: the mathematics -/
namespace My
open PySem PySem.Spec PyProof.Rows L2
def gg (n d : Int) : Int := ((Nat.gcd n.natAbs d.natAbs : Nat) : Int)
def rn (n d : Int) : Int := n / gg n d
def rd (n d : Int) : Int := d / gg n d
/-- n / d, without a common divisor -/
structure Low (n d : Int) : Prop where
  pos : 0 < d
  one : gg n d = 1
theorem gg_pos {n d : Int} (h : 0 < d) : 0 < gg n d := by
  have : 0 < Nat.gcd n.natAbs d.natAbs := Nat.gcd_pos_of_pos_right _ (by omega)
  unfold gg
  omega
theorem gg_n (n d : Int) : ∃ k, n = gg n d * k := by
  obtain ⟨c, hc⟩ := Nat.gcd_dvd_left n.natAbs d.natAbs
  rcases Int.natAbs_eq n with e | e
  · exact ⟨(c : Int), by unfold gg; rw [← Int.natCast_mul, ← hc]; exact e⟩
  · exact ⟨-(c : Int), by unfold gg; rw [Int.mul_neg, ← Int.natCast_mul, ← hc]; exact e⟩
theorem gg_d (n d : Int) : ∃ k, d = gg n d * k := by
  obtain ⟨c, hc⟩ := Nat.gcd_dvd_right n.natAbs d.natAbs
  rcases Int.natAbs_eq d with e | e
  · exact ⟨(c : Int), by unfold gg; rw [← Int.natCast_mul, ← hc]; exact e⟩
  · exact ⟨-(c : Int), by unfold gg; rw [Int.mul_neg, ← Int.natCast_mul, ← hc]; exact e⟩
theorem rn_mul {n d : Int} (h : 0 < d) : n = gg n d * rn n d := by
  obtain ⟨k, hk⟩ := gg_n n d
  have g := gg_pos (n := n) h
  have e : rn n d = k := by
    unfold rn
    rw [Int.ediv_eq_of_eq_mul_right (by omega) hk]
  rw [e]; exact hk
theorem rd_mul {n d : Int} (h : 0 < d) : d = gg n d * rd n d := by
  obtain ⟨k, hk⟩ := gg_d n d
  have g := gg_pos (n := n) h
  have e : rd n d = k := by
    unfold rd
    rw [Int.ediv_eq_of_eq_mul_right (by omega) hk]
  rw [e]; exact hk
theorem rd_pos {n d : Int} (h : 0 < d) : 0 < rd n d := by
  have g := gg_pos (n := n) h
  have e := rd_mul (n := n) h
  refine Int.lt_of_not_ge fun z => ?_
  have : gg n d * rd n d ≤ 0 := Int.mul_nonpos_of_nonneg_of_nonpos (by omega) z
  omega
theorem low_r {n d : Int} (h : 0 < d) : Low (rn n d) (rd n d) := by
  refine ⟨rd_pos h, ?_⟩
  have g := gg_pos (n := n) h
  have e1 : n.natAbs = (gg n d).natAbs * (rn n d).natAbs := by rw [← Int.natAbs_mul, ← rn_mul h]
  have e2 : d.natAbs = (gg n d).natAbs * (rd n d).natAbs := by rw [← Int.natAbs_mul, ← rd_mul h]
  have e3 : Nat.gcd n.natAbs d.natAbs = (gg n d).natAbs * Nat.gcd (rn n d).natAbs (rd n d).natAbs := by
    rw [← Nat.gcd_mul_left, ← e1, ← e2]
  have e4 : (gg n d).natAbs = Nat.gcd n.natAbs d.natAbs := by unfold gg; exact Int.natAbs_natCast _
  rw [← e4] at e3
  have e5 : Nat.gcd (rn n d).natAbs (rd n d).natAbs = 1 := by
    have e6 : (gg n d).natAbs * 1 = (gg n d).natAbs * Nat.gcd (rn n d).natAbs (rd n d).natAbs := by rw [Nat.mul_one]; exact e3
    exact (Nat.eq_of_mul_eq_mul_left (by omega) e6).symm
  show ((Nat.gcd (rn n d).natAbs (rd n d).natAbs : Nat) : Int) = 1
  rw [e5]; rfl
theorem cross {n d : Int} (h : 0 < d) : rn n d * d = n * rd n d := by
  have e1 := rn_mul (n := n) h
  have e2 := rd_mul (n := n) h
  calc rn n d * d = rn n d * (gg n d * rd n d) := by rw [← e2]
    _ = gg n d * rn n d * rd n d := by rw [Int.mul_comm (gg n d) (rn n d), Int.mul_assoc]
    _ = n * rd n d := by rw [← e1]
/-- a number has one spelling without a common divisor -/
theorem low_uniq {p q r s : Int} (h1 : Low p q) (h2 : Low r s) (e : p * s = r * q) : p = r ∧ q = s := by
  have c1 : Nat.Coprime p.natAbs q.natAbs := by
    have := h1.one
    unfold gg at this
    exact Int.ofNat_inj.mp this
  have c2 : Nat.Coprime r.natAbs s.natAbs := by
    have := h2.one
    unfold gg at this
    exact Int.ofNat_inj.mp this
  have en : p.natAbs * s.natAbs = r.natAbs * q.natAbs := by rw [← Int.natAbs_mul, ← Int.natAbs_mul, e]
  have d1 : q.natAbs ∣ s.natAbs := c1.symm.dvd_of_dvd_mul_left (by rw [en]; exact Nat.dvd_mul_left _ _)
  have d2 : s.natAbs ∣ q.natAbs := c2.symm.dvd_of_dvd_mul_left (by rw [← en]; exact Nat.dvd_mul_left _ _)
  have eq : q.natAbs = s.natAbs := Nat.dvd_antisymm d1 d2
  have hq := h1.pos
  have hs := h2.pos
  have qs : q = s := by omega
  refine ⟨?_, qs⟩
  rw [qs] at e
  exact Int.eq_of_mul_eq_mul_right (by omega) e
theorem low_eq {n d m e : Int} (hd : 0 < d) (he : 0 < e) (h : n * e = m * d) : rn n d = rn m e ∧ rd n d = rd m e := by
  refine low_uniq (low_r hd) (low_r he) ?_
  have c1 := cross (n := n) hd
  have c2 := cross (n := m) he
  refine Int.eq_of_mul_eq_mul_right (a := d * e) (by have := Int.mul_pos hd he; omega) ?_
  calc rn n d * rd m e * (d * e) = (rn n d * d) * (rd m e * e) := by rw [Int.mul_assoc, Int.mul_left_comm (rd m e) d e, ← Int.mul_assoc]
    _ = (n * e) * (rd n d * rd m e) := by rw [c1, Int.mul_assoc, Int.mul_assoc, Int.mul_comm (rd m e) e, Int.mul_left_comm (rd n d) e (rd m e)]
    _ = (m * d) * (rd n d * rd m e) := by rw [h]
    _ = m * rd m e * (rd n d * d) := by rw [Int.mul_assoc, Int.mul_assoc, Int.mul_comm (rd n d) (rd m e), Int.mul_left_comm d (rd m e) (rd n d), Int.mul_comm d (rd n d)]
    _ = rn m e * rd n d * (d * e) := by rw [← c2, Int.mul_assoc, Int.mul_assoc, Int.mul_left_comm e (rd n d) d, Int.mul_comm e d]
theorem low_id {n d : Int} (h : Low n d) : rn n d = n ∧ rd n d = d := by
  unfold rn rd
  rw [h.one]
  exact ⟨Int.ediv_one _, Int.ediv_one _⟩
theorem rn_abs {n d : Int} (h : 0 < d) : (rn n d).natAbs ≤ n.natAbs := by
  have e : n.natAbs = (gg n d).natAbs * (rn n d).natAbs := by rw [← Int.natAbs_mul, ← rn_mul h]
  have g := gg_pos (n := n) h
  have : 1 * (rn n d).natAbs ≤ (gg n d).natAbs * (rn n d).natAbs := Nat.mul_le_mul_right _ (by omega)
  omega
theorem rd_abs {n d : Int} (h : 0 < d) : (rd n d).natAbs ≤ d.natAbs := by
  have e : d.natAbs = (gg n d).natAbs * (rd n d).natAbs := by rw [← Int.natAbs_mul, ← rd_mul h]
  have g := gg_pos (n := n) h
  have : 1 * (rd n d).natAbs ≤ (gg n d).natAbs * (rd n d).natAbs := Nat.mul_le_mul_right _ (by omega)
  omega
theorem gg_le {n d : Int} (h : 0 < d) : gg n d ≤ d := by
  have : Nat.gcd n.natAbs d.natAbs ≤ d.natAbs := Nat.gcd_le_right _ (by omega)
  unfold gg
  omega
end My
/-! ### the program's number_of -/
namespace My
open PySem PySem.Spec PyProof.Rows L2
abbrev sNumberOf : Stmt := topS 24
abbrev sIsWhole : Stmt := topS 25
abbrev sLowest : Stmt := topS 26
theorem scNumberOf : FnScope ["n", "d"] ["n", "d"] (defScope sNumberOf) := ⟨rfl, rfl, rfl, by decide +kernel, rfl, by decide +kernel, by decide +kernel⟩
theorem scIsWhole : FnScope ["thing"] ["thing"] (defScope sIsWhole) := ⟨rfl, rfl, rfl, by decide +kernel, rfl, by decide +kernel, by decide +kernel⟩
theorem scLowest : FnScope ["n", "d", "common"] ["n", "d"] (defScope sLowest) := ⟨rfl, rfl, rfl, by decide +kernel, rfl, by decide +kernel, by decide +kernel⟩
/-- an own class of errors over ValueError, without an __init__ -/
structure ExcC (K : PySem.W.Frag) (mg : Str → Option Value) (x : Str) (C : Addr) : Prop where
  g : mg x = some (.ref C)
  q : PySem.W.excIn K C [.type "ValueError", .type "Exception", .type "BaseException", .type "object"] "ValueError.__new__" = true
  k : PySem.W.keepIn K (.ref C) = true
  b : PySem.W.subIn K (.ref C) (.type "BaseException") = some true
  t : PySem.W.typeIn K (.ref C) = some (.type "type")
structure NumC (K : PySem.W.Frag) (mg : Str → Option Value) (g1 g5 g8 CN CD : Addr) (e1 e5 e8 : FuncData) : Prop where
  type : mg "type" = none
  int : mg "int" = none
  gcd : mg "gcd" = some (.builtin "math.gcd")
  number : ExcC K mg "NoNumber" CN
  divisor : ExcC K mg "NoDivisor" CD
  FNumberOf : Fun K "number_of" "number_of" sNumberOf g1 e1
  bNumberOf : Binds K e1 ["n", "d"] []
  gNumberOf : mg "number_of" = some (.ref g1)
  FIsWhole : Fun K "is_whole" "is_whole" sIsWhole g5 e5
  bIsWhole : Binds K e5 ["thing"] []
  gIsWhole : mg "is_whole" = some (.ref g5)
  FLowest : Fun K "lowest" "lowest" sLowest g8 e8
  bLowest : Binds K e8 ["n", "d"] []
  gLowest : mg "lowest" = some (.ref g8)
def spIsWhole (K : PySem.W.Frag) : Sp := fun vs H Q _ => ∃ x T, vs = [x] ∧ TyB K H x T ∧ Q (.bl (decide (T = "int"))) H
def spLowest : Sp := fun vs H Q _ => ∃ n d, vs = [.int n, .int d] ∧ 0 < d ∧ d.natAbs < 2 ^ 8900 ∧ ∀ t, H t = none → Q (.ref t) (upd H t (.tup [.int (rn n d), .int (rd n d)]))
section
variable {P : Program} {w : World} {K : PySem.W.Frag} {mg : Str → Option Value} {base : Heap} {g1 g5 g8 CN CD : Addr} {e1 e5 e8 : FuncData}
theorem ok_isWhole (T : NumC K mg g1 g5 g8 CN CD e1 e5 e8) {k : Nat} : FnOk P w K mg base CX0 (k + 1) g5 e5 ["thing"] (spIsWhole K) := by
  refine T.FIsWhole.ok scIsWhole (fun vs H Q E h => ?_) (fun cdv A outer s H vs Q E hr h => ?_)
  · obtain ⟨x, t, rfl, _⟩ := h
    rfl
  · obtain ⟨x, t, rfl, ht, q⟩ := h
    refine ⟨_, (pss_one (ps_ret (pe_cmpR op_eqTy (pe_callTy call_type1 (by rfl) T.type (by decide +kernel) (pa_cons (pv 0) pa_nil)) (pe_bltn (v := .ty "int") (by rfl) T.int (by decide +kernel) rfl) (nomark _)))), ?_⟩
    exact ⟨_, rfl, _, _, rfl, ht, _, _, rfl, rfl, tyB_ty ht, TypeEq.meta_int, q⟩
theorem ok_lowest (T : NumC K mg g1 g5 g8 CN CD e1 e5 e8) {k : Nat} : FnOk P w K mg base CX0 (k + 1) g8 e8 ["n", "d"] spLowest := by
  refine T.FLowest.ok scLowest (fun vs H Q E h => ?_) (fun cdv A outer s H vs Q E hr h => ?_)
  · obtain ⟨n, d, rfl, _⟩ := h
    rfl
  · obtain ⟨n, d, rfl, d0, d1, q⟩ := h
    refine ⟨_, (pss_cons (ps_set (i := 2) scLowest.nd rfl (.inl rfl) (pe_callBfun cr_gcd (by rfl) T.gcd (pa_cons (pv 0) (pa_cons (pv 1) pa_nil))))
 (pss_one (ps_ret (pe_tup (pa_cons (pe_op op_fdivW (pv 0) (pv 2)) (pa_cons (pe_op op_fdivW (pv 1) (pv 2)) pa_nil)))))), ?_⟩
    have c : CDivW n (gg n d) := wide_div (gg_pos d0) (b := 8900) (Nat.lt_of_le_of_lt (by have := gg_le (n := n) d0; have := gg_pos (n := n) d0; omega) d1) (by decide) (by decide)
    exact ⟨_, rfl, _, rfl, n, d, rfl, _, rfl, _, rfl, _, _, rfl, rfl, c, _, rfl, _, rfl, _, _, rfl, rfl, c, (by show 2 ≤ sizeLine; decide), fun t ht => q t ht⟩
def spNumberOf (K : PySem.W.Frag) (CN CD : Addr) : Sp := fun vs H Q E => ∃ x y, vs = [x, y] ∧
  ((∃ n d, x = .int n ∧ y = .int d ∧ 0 < d ∧ d.natAbs < 2 ^ 8900 ∧ ∀ t, H t = none → Q (.ref t) (upd H t (.tup [.int (rn n d), .int (rd n d)]))) ∨
   (∃ Ty, TyB K H x Ty ∧ Ty ≠ "int" ∧ E (.ref CN) none H) ∨ (∃ n Ty, x = .int n ∧ TyB K H y Ty ∧ Ty ≠ "int" ∧ E (.ref CD) none H) ∨ (∃ n d, x = .int n ∧ y = .int d ∧ d < 1 ∧ E (.ref CD) none H))
theorem ok_numberOf (T : NumC K mg g1 g5 g8 CN CD e1 e5 e8) {k : Nat} : FnOk P w K mg base (L2.CX P w) (k + 2) g1 e1 ["n", "d"] (spNumberOf K CN CD) := by
  have GW : FnOk P w K mg base CX0 (k + 1) g5 e5 ["thing"] (spIsWhole K) := ok_isWhole T
  have GL : FnOk P w K mg base CX0 (k + 1) g8 e8 ["n", "d"] spLowest := ok_lowest T
  refine T.FNumberOf.okX scNumberOf (fun vs H Q E h => ?_) (fun cdv A outer s H vs Q E hr h => ?_)
  · obtain ⟨x, y, rfl, _⟩ := h
    rfl
  · obtain ⟨x, y, rfl, h⟩ := h
    refine ⟨_, (pss_cons (ps_if (pt_not (pt_val (pe_call GW hr (by rfl) T.gIsWhole T.FIsWhole.kp T.bIsWhole .nil pass0 (pa_cons (pv 0) pa_nil)))) (pss_one (ps_raise rfl (takes_of rfl rfl rfl rfl) (SkE.pmk_own1 PySem.F.excBase_ValueError T.number.q T.number.g T.number.k (raises_own T.number.b T.number.t) (by exact rfl) pe_str))) pss_nil)
 (pss_cons (ps_if (PW.pt (pw_or (pt_not (pt_val (pe_call GW hr (by rfl) T.gIsWhole T.FIsWhole.kp T.bIsWhole .nil pass0 (pa_cons (pv 1) pa_nil)))) (pw_or1 (pt_cmpR op_lt (pv 1) pe_int (nomark _))))) (pss_one (ps_raise rfl (takes_of rfl rfl rfl rfl) (SkE.pmk_own1 PySem.F.excBase_ValueError T.divisor.q T.divisor.g T.divisor.k (raises_own T.divisor.b T.divisor.t) (by exact rfl) pe_str))) pss_nil)
 (pss_one (ps_ret (pe_call GL hr (by rfl) T.gLowest T.FLowest.kp T.bLowest .nil pass0 (pa_cons (pv 0) (pa_cons (pv 1) pa_nil))))))), ?_⟩
    rcases h with ⟨n, d, rfl, rfl, d0, d1, q⟩ | ⟨Ty, hT, hne, e⟩ | ⟨n, Ty, rfl, hT, hne, e⟩ | ⟨n, d, rfl, rfl, d0, e⟩
    · refine ⟨_, rfl, _, _, rfl, TyB.int n, _, rfl, iteF ?_⟩
      refine ⟨_, rfl, _, _, rfl, TyB.int d, _, rfl, iteF ⟨_, rfl, _, _, rfl, rfl, _, rfl, ?_⟩⟩
      rw [decide_eq_false (show ¬ d < 1 by omega)]
      exact iteF ⟨_, rfl, _, rfl, n, d, rfl, d0, d1, q⟩
    · refine ⟨_, rfl, _, _, rfl, hT, _, rfl, ?_⟩
      rw [decide_eq_false hne]
      exact iteT e
    · refine ⟨_, rfl, _, _, rfl, TyB.int n, _, rfl, iteF ?_⟩
      refine ⟨_, rfl, _, _, rfl, hT, _, rfl, ?_⟩
      rw [decide_eq_false hne]
      exact iteT (iteT e)
    · refine ⟨_, rfl, _, _, rfl, TyB.int n, _, rfl, iteF ?_⟩
      refine ⟨_, rfl, _, _, rfl, TyB.int d, _, rfl, iteF ⟨_, rfl, _, _, rfl, rfl, _, rfl, ?_⟩⟩
      rw [decide_eq_true d0]
      exact iteT e
end
end My
/-! ### an error that is caught is kept: try: .. except X as n: m = n -/
namespace My
open PySem PySem.Spec PyProof.Rows L2
/-- an error of the class at C stands at a -/
def IsErr (C a : Addr) (h : Heap) : Prop := ∃ (oe : Obj) (vs : Array Value), h.get? a = some oe ∧ Zc (.ref C) none oe ∧ oe.data = .fields vs
def ErrV (C a : Addr) : HO := .ext (IsErr C a)
theorem err_ok {P : Program} {w : World} {H : Hp} {h : Heap} {C a : Addr} (e : IsErr C a h) : ObjOk P w H h a (ErrV C a) := by
  obtain ⟨oe, vs, e1, e2, e3⟩ := id e
  exact ⟨e, ⟨oe, e1⟩, fun _ _ ⟨o, v, q, r⟩ k => ⟨o, v, k o q, r⟩⟩
section
variable {X : Cx} {pins : List (Addr × Obj)} {σ : L2.St} {H : Hp} {s : Shared}
/-- what stands there anyway, and is tracked by nothing, may be tracked -/
theorem inv_track (I : Inv X pins σ H s) {a : Addr} {o : HO} {oe : Obj} {vs : Array Value} (n0 : X.s_0.heap.get? a = none) (ha : s.heap.get? a = some oe) (hd : oe.data = .fields vs) (na : H a = none)
    (nL : a ≠ X.env.locals) (np : ∀ p ∈ X.pn ++ pins, p.1 ≠ a) (new : ObjOk X.prog X.w (upd H a o) s.heap a o) : Inv X pins σ (upd H a o) s where
  ok := I.ok
  os := I.os
  bare := I.bare
  base := by
    have ne : ∀ b u, X.s_0.heap.get? b = some u → b ≠ a := fun b u e z => by
      rw [z, n0] at e
      cases e
    exact {
      keep := I.base.keep, slot := I.base.slot, there := I.base.there,
      free := fun b u e n x => by rw [upd_ne (ne b u e)]; exact I.base.free b u e n x,
      tups := fun b xs e => (by have q := I.base.tups b xs e; rw [upd_ne (ne_of_none q na)]; exact q),
      frzs := fun b u x e => (by have q := I.base.frzs b u x e; rw [upd_ne (ne_of_none q na)]; exact q),
      tbls := fun b ps e => (by obtain ⟨m, q⟩ := I.base.tbls b ps e; exact ⟨m, by rw [upd_ne (ne_of_none q na)]; exact q⟩) }
  loc := I.loc
  cell := I.cell
  free := by rw [upd_ne nL.symm]; exact I.free
  freeC := fun x c e => by
    have ne : c ≠ a := fun z => by
      obtain ⟨v, oc, hc, hv⟩ := I.cell x c e
      rw [z, ha] at hc
      cases hc
      rw [hd] at hv
      cases hv
    rw [upd_ne ne]
    exact I.freeC x c e
  pin := fun p hp => by
    obtain ⟨p1, p2, p3, p4, p5⟩ := I.pin p hp
    exact ⟨p1, by rw [upd_ne (np p hp)]; exact p2, p3, p4, p5⟩
  hok := I.hok.laidN (fun _ _ e => e) na new
  len := I.len
end
/-- the wish: the class is the clause's, what the suite does with it, and the error is tracked behind -/
def wKeep (K : PySem.W.Frag) (c : Value) (i : Nat) (ts : TS) (D : Ends) : WX := fun cls d σ H =>
  PySem.W.exmOne K cls c = some true ∧ d = none ∧ ∃ C, cls = .ref C ∧ ∀ a, H a = none → ts { nx := fun σ' H' => H' a = none → D.nx (σ'.set i none) (upd H' a (ErrV C a)), rt := fun _ _ => False } (σ.set i (some (.ref a))) H
section
variable {X : Cx} {x n : Str} {c : Value} {i : Nat} {body suite : List Stmt} {b₀ : Stmt} {np pos pos' : Pos} {tb : WX → TS} {ts : TS}
theorem ps_try_keep (hs : X.stack = X.env :: X.outer) (hf : X.env.frame = some X.env.locals) (hex : X.ex = []) (hN : X.N.Nodup) (hi : X.N[i]? = some n) (hln : X.env.kindOf n = some .local) (hc : Names X x c)
    (hb : ∀ (W : WX) (pl : List (Addr × Obj)) (ex : Value → Shared → Prop), Takes (X.tr pl ex) W → PassesOwn (model X.prog X.w) X.A X.env ex → PSs (X.tr pl ex) body (tb W))
    (hsu : ∀ (a : Addr) (oe : Obj) (pl : List (Addr × Obj)), PSs (X.suite a ((a, oe) :: pl)) (b₀ :: suite) ts) :
    PS X (.Try body [.ExceptHandler (some (.Name x np)) (some n) (b₀ :: suite) pos'] [] [] pos) (fun D σ H => tb (wKeep X.K c i ts D) D σ H) := by
  constructor
  intro pins s σ H D I h
  have okX := I.ok
  have frames : X.A.frames = some (X.env :: X.outer) := okX.frames.trans (congrArg some hs)
  refine wpAny_Try_except ?_
  refine wpAny_mono ((hb (wKeep X.K c i ts D) (X.pn ++ pins)
    (fun e s₁ => wpAny (model X.prog X.w) X.A (noteFrame e X.env) (fun _ s₂ => wpAny (model X.prog X.w) X.A (setFlight e none) (fun _ s₃ =>
      wpAny (model X.prog X.w) X.A (handleBy e X.env [.ExceptHandler (some (.Name x np)) (some n) (b₀ :: suite) pos']) (SP X pins D) X.xe s₃) X.xe s₂) X.xe s₁)
    (fun u s2 air => ?caught) PassesOwn.looking).run [] s σ H D (I.toTry _) h) (fun f s1 ends => ?through) (fun e s1 he => he)
  case caught =>
    obtain ⟨a, B, sI, pins2, σ2, H2, cls, d, rfl, I2, under, upto, sky, freeA, osE, bareG, match1, dn, C, rfl, go⟩ := air
    subst dn
    have J := I2.ofTry okX
    rw [hs] at sky
    show wpAny (model X.prog X.w) X.A (noteFrame (.ref a) X.env) _ _ _
    refine Sky.land Zc.steady frames hf sky fun h3 fly3 upto3 => ?_
    obtain ⟨oe3, vs3, at3, cls3, data3⟩ := fly3.there
    have noFrame : ∀ {hh : Heap} {oo : Obj} {vv : Array Value}, hh.FunFrames B (X.env :: X.outer) → hh.get? a = some oo → oo.data = .fields vv → a ∉ frs (X.env :: X.outer) := by
      intro hh oo vv ff e1 e2 mem
      obtain ⟨_, o2, e3, bad⟩ := ff.mem mem
      rw [e1] at e3
      cases e3
      exact bad _ e2
    have nfr := noFrame fly3.2.2.1 at3 data3
    have nL : a ≠ X.env.locals := by
      intro z
      refine nfr (List.mem_filterMap.mpr ⟨X.env, List.mem_cons_self, ?_⟩)
      rw [hf, z]
    have nF : a ∉ X.fs := by
      intro mem
      obtain ⟨e, he, q⟩ := List.mem_filterMap.mp mem
      exact nfr (List.mem_filterMap.mpr ⟨e, List.mem_cons_of_mem _ he, q⟩)
    -- it is new: it does not stand in the state without it
    have newI : sI.heap.get? a = none := by
      cases q : sI.heap.get? a with
      | none => rfl
      | some u =>
        have z := under a u q (by rw [hs]; exact nfr)
        rw [fly3.2.1] at z
        cases z
    have new0 : X.s_0.heap.get? a = none := by
      cases q : X.s_0.heap.get? a with
      | none => rfl
      | some u =>
        obtain ⟨u2, z⟩ := J.base.there a u q (by rw [hex]; exact fun z => nomatch z)
        rw [newI] at z
        cases z
    have offPins : ∀ p ∈ X.pn ++ pins, p.1 ≠ a := by
      intro p hp z
      have q := (J.pin p hp).1
      rw [z, newI] at q
      cases q
    have J3 : Inv X pins σ2 H2 { s2 with heap := h3 } := J.landed under fly3.1 (upto.trans upto3) osE bareG
    have S3 := J3.suite at3 data3 freeA nL nF
    refine wpAny_handleBy_cons (codeAny_handlers_test ?_) (fun q => by cases q)
    have typeIs : PySem.W.Looks (model X.prog X.w) h3 (typeOf (.ref a)) (.ref C) := fun A Q E st k q => wpAny_typeOf_ref (k _ _ at3) (by rw [cls3.1]; exact q)
    have looks := PySem.W.exm_one (M := model X.prog X.w) J3.kIn typeIs match1
    have nameIs : ∀ {Q : Value → Shared → Prop} {E : Value → Shared → Prop}, Q c { s2 with heap := h3 } → wpAny (model X.prog X.w) (X.A.mark (some (.ref a))) (eval (.Name x np) X.env) Q E { s2 with heap := h3 } := by
      intro Q E q
      rcases hc with ⟨g1, g2, m1 | ⟨m1, m2, m3⟩⟩
      · exact ld_glob (X := X.suite a ((a, oe3) :: (X.pn ++ pins))) S3 g1 m1 q g2
      · exact ld_blt (X := X.suite a ((a, oe3) :: (X.pn ++ pins))) S3 g1 m1 m2 q m3 g2
    refine nameIs (looks.here ?_)
    refine codeAny_handlers_suite_as ?_
    refine HandSPX.lands_againZ fly3 fun h4 fly4 upto4 => ?_
    have J4 : Inv X pins σ2 H2 { s2 with heap := h4 } := J.landed under fly4.1 ((upto.trans upto3).trans upto4) osE bareG
    obtain ⟨oe4, vs4, at4, cls4, data4⟩ := fly4.there
    have S4 := J4.suite at4 data4 freeA nL nF
    refine store_ok (X := X.suite a ((a, oe4) :: (X.pn ++ pins))) (v := .ref a) S4 hN hi (.inl hln) rfl (fun s5 S5 => ?_) (.inr hln)
    refine wpAny_mono ((hsu a oe4 (X.pn ++ pins)).run [] s5 _ H2 _ S5 (go a freeA)) (fun f s6 ends => ?_) (fun _ _ z => z.elim)
    match f, ends with
    | .ret _, ends => exact (let ⟨_, _, _, _, _, z⟩ := ends; z.elim)
    | .brk, ends => exact (let ⟨_, _, _, z⟩ := ends; z.elim)
    | .cont, ends => exact (let ⟨_, _, _, z⟩ := ends; z.elim)
    | .next, ends =>
      obtain ⟨σ6, H6, S6, q6⟩ := ends
      obtain ⟨at6, free6, _⟩ := S6.pin (a, oe4) (List.mem_append.mpr (.inl List.mem_cons_self))
      have J6 := inv_track (o := ErrV C a) (S6.unsuite okX) new0 at6 data4 free6 nL offPins (err_ok ⟨oe4, vs4, at6, cls4, data4⟩)
      exact gone_ok J6 hN hi hln fun s7 J7 => ⟨_, _, J7, q6 free6⟩
  case through =>
    match f, ends with
    | .next, ⟨σ', H', J', q⟩ => exact wpAny_execs_nil ⟨σ', H', J'.ofTry okX, q⟩
    | .brk, ⟨σ', H', J', q⟩ => exact ⟨σ', H', J'.ofTry okX, q⟩
    | .cont, ⟨σ', H', J', q⟩ => exact ⟨σ', H', J'.ofTry okX, q⟩
    | .ret u, ⟨v, σ', H', J', r, q⟩ => exact ⟨v, σ', H', J'.ofTry okX, r, q⟩
end
end My
/-! ### isinstance of an error that is tracked; a text times an int -/
namespace My
open PySem PySem.Spec PyProof.Rows L2
/-- what the classes D of errors must say: nothing of their own stands in isinstance's way -/
def errFacts (K : PySem.W.Frag) (D : Addr) : Bool :=
  (PySem.W.findIn K (.ref D) "__getattribute__" == some (some (.builtin "BaseException.__getattribute__"))) && ((PySem.W.findIn K (.ref D) "__getattr__" == some none) && ((PySem.W.subIn K (.ref D) (.type "BaseException") == some true) &&
  (PySem.W.hasDictIn K D && ((PySem.W.findIn K (.ref D) "__class__" == some (some (.builtin "object.__class__"))) && ((PySem.W.specialIn K (.builtin "object.__class__") "__get__" == some (some (.builtin "getset_descriptor.__get__"))) &&
  ((PySem.W.takesIn K (.builtin "object.__class__") == some true) && (PySem.W.mroIn K D (.type "object") == some true)))))))
theorem errFacts_to {K : PySem.W.Frag} {D : Addr} (h : errFacts K D = true) : L2.ExcC K D := by
  unfold errFacts at h
  simp only [Bool.and_eq_true, beq_iff_eq] at h
  obtain ⟨h1, h2, h3, h4, h5, h6, h7, h8⟩ := h
  exact ⟨h1, h2, h3, h4, h5, h6, h7, h8⟩
/-- what an error of the class at D needs to be raised, made, caught and asked for -/
def mkFacts (K : PySem.W.Frag) (D : Addr) : Bool :=
  PySem.W.excIn K D [.type "ValueError", .type "Exception", .type "BaseException", .type "object"] "ValueError.__new__" && (PySem.W.keepIn K (.ref D) && ((PySem.W.subIn K (.ref D) (.type "BaseException") == some true) && ((PySem.W.typeIn K (.ref D) == some (.type "type")) && errFacts K D)))
/-- it is of the class at c, or not -/
def kitB (K : PySem.W.Frag) (D : Addr) (c : Value) (b : Bool) : Bool := PySem.W.kitOne K (.ref D) c == some b
/-- a tracked thing at a is an error of the class at D -/
def ErrAt (H : Hp) (a D : Addr) : Prop := ∃ φ, H a = some (.ext φ) ∧ ∀ h, φ h → IsErr D a h
theorem ErrAt.same {H H' : Hp} {a D : Addr} (h : ErrAt H a D) (s : Same H H') : ErrAt H' a D := by
  obtain ⟨φ, e, q⟩ := h
  exact ⟨φ, s _ _ e, q⟩
theorem errV_at {H : Hp} {a D : Addr} : ErrAt (upd H a (ErrV D a)) a D := ⟨_, upd_same, fun _ h => h⟩
theorem exO_at {H : Hp} {a D : Addr} (e : H a = some (ExO (.ref D) a)) : ErrAt H a D := ⟨_, e, fun h ⟨oe, vs, h1, h2, h3, _⟩ => ⟨oe, vs, h1, h2, h3⟩⟩
section
variable {X : Cx}
def rIsErr (K : PySem.W.Frag) : List V → Hp → VK → Prop := fun xs H Q => ∃ (a D : Addr) (c : V) (u : Value) (b : Bool), xs = [.ref a, c] ∧ ErrAt H a D ∧ errFacts K D = true ∧ ClsV c u ∧ kitB K D u b = true ∧ Q (.bl b) H
theorem call_isErr : CallR X (.builtin "isinstance") (rIsErr X.K) := by
  intro pins s σ H xs us Q I r h
  obtain ⟨a, D, c, u, b, rfl, ⟨φ, ha, hφ⟩, hF, hc, hk, q⟩ := h
  have C := errFacts_to hF
  cases r with
  | cons r1 rr =>
    cases rr with
    | cons r2 r3 =>
      cases r3
      cases r1
      cases hc.eq r2
      obtain ⟨oe, vs, e1, ⟨e2, e3⟩, e4⟩ := hφ _ (I.hok a _ ha).1
      have J : PySem.W.InstAt s.heap a oe D none := by
        obtain ⟨oc, od, dt, sl⟩ := oe
        dsimp only at e2 e3 e4
        subst e2 e3 e4
        exact ⟨e1, rfl, rfl, trivial⟩
      exact PySem.W.kia_one (PySem.W.handS_kitx_exc C.hg C.hk C.hs C.hd C.ha C.hn C.ht C.hm) I.kIn J (beq_iff_eq.mp hk) (fun z => nomatch z) fun tk => ⟨.bl b, H, I.tok tk, rfl, q⟩
/-- s * n, of small ones: some text -/
theorem op_mulS : OpR X (binaryOp .Mult) (fun x y H Q => ∃ (z : Str) (n : Int), x = .str z ∧ y = .int n ∧ z.length ≤ 1000 ∧ -1000 ≤ n ∧ n ≤ 1000 ∧ ∀ t : Str, Q (.str t) H) := by
  intro pins s σ H x y v u Q I rx ry h
  obtain ⟨z, n, rfl, rfl, hz, h0, h1, q⟩ := h
  obtain ⟨t, rfl⟩ := rx
  obtain ⟨t', rfl⟩ := ry
  refine SB.mul ⟨?_, fun h2 _ => ?_, fun h2 _ => ?_⟩ fun t2 k => ⟨.str _, H, I.tok k, ⟨_, rfl⟩, q _⟩
  · rw [Bool.or_eq_false_iff]
    exact ⟨decide_eq_false (by omega), decide_eq_false (by omega)⟩
  · have h3 : (1000 : Int) ≤ (2 ^ 63 - 1) / n := (Int.le_ediv_iff_mul_le (by omega)).mpr (by omega)
    omega
  · have h4 : z.length * n.toNat ≤ 1000 * 1000 := Nat.mul_le_mul hz (by omega)
    exact decide_eq_false (by rw [sizeLine_eq]; omega)
end
end My
/-! ### the classes of errors -/
namespace My
open PySem PySem.Spec PyProof.Rows L2
abbrev sClasses : Stmt := topS 32
theorem scClasses : FnScope ["one", "found"] ["one"] (defScope sClasses) := ⟨rfl, rfl, rfl, by decide +kernel, rfl, by decide +kernel, by decide +kernel⟩
abbrev sLaw : Stmt := topS 33
theorem scLaw : FnScope ["script", "pen", "turn", "text", "errors", "caught", "e", "k", "one", "j"] ["script"] (defScope sLaw) := ⟨rfl, rfl, rfl, by decide +kernel, rfl, by decide +kernel, by decide +kernel⟩
def kitAll (K : PySem.W.Frag) (cs : List Addr) : Bool := (List.range 20).all fun i => (List.range 20).all fun j => kitB K (cs.getD i 0) (.ref (cs.getD j 0)) (decide (i = j))
def kitUp (K : PySem.W.Frag) (cs : List Addr) (CL : Addr) : Bool := (List.range 20).all fun i => mkFacts K (cs.getD i 0) && (kitB K (cs.getD i 0) (.ref CL) true && kitB K (cs.getD i 0) (.type "ValueError") true)
structure Err33 (K : PySem.W.Frag) (mg : Str → Option Value) (C0 C1 C2 C3 C4 C5 C6 C7 C8 C9 C10 C11 C12 C13 C14 C15 C16 C17 C18 C19 CL : Addr) (d1 : FuncData) (f1 : Addr) : Prop where
  isi : mg "isinstance" = none
  ve : mg "ValueError" = none
  range : mg "range" = none
  enumerate : mg "enumerate" = none
  later : mg "LaterError" = some (.ref CL)
  c0 : mg "NoMachine" = some (.ref C0)
  c1 : mg "NoPlain" = some (.ref C1)
  c2 : mg "NoLetters" = some (.ref C2)
  c3 : mg "NoRule" = some (.ref C3)
  c4 : mg "NoRow" = some (.ref C4)
  c5 : mg "NoWord" = some (.ref C5)
  c6 : mg "NoNumber" = some (.ref C6)
  c7 : mg "NoDivisor" = some (.ref C7)
  c8 : mg "NoArena" = some (.ref C8)
  c9 : mg "NoState" = some (.ref C9)
  c10 : mg "NoMatch" = some (.ref C10)
  c11 : mg "NoFactor" = some (.ref C11)
  c12 : mg "NoWorth" = some (.ref C12)
  c13 : mg "NoLetter" = some (.ref C13)
  c14 : mg "NoUndo" = some (.ref C14)
  c15 : mg "NoThings" = some (.ref C15)
  c16 : mg "NoRunner" = some (.ref C16)
  c17 : mg "NoLimit" = some (.ref C17)
  c18 : mg "HasRow" = some (.ref C18)
  c19 : mg "TooGreat" = some (.ref C19)
  all : kitAll K [C0, C1, C2, C3, C4, C5, C6, C7, C8, C9, C10, C11, C12, C13, C14, C15, C16, C17, C18, C19] = true
  up : kitUp K [C0, C1, C2, C3, C4, C5, C6, C7, C8, C9, C10, C11, C12, C13, C14, C15, C16, C17, C18, C19] CL = true
  exm : PySem.W.exmOne K (.ref C7) (.ref CL) = some true
  FClasses : Fun K "_law_x_classes" "_law_x_classes" sClasses f1 d1
  bClasses : Binds K d1 ["one"] []
  gClasses : mg "_law_x_classes" = some (.ref f1)
theorem kit_of {K : PySem.W.Frag} {cs : List Addr} (h : kitAll K cs = true) {i : Nat} (hi : i < 20) (j : Nat) (hj : j < 20) : kitB K (cs.getD i 0) (.ref (cs.getD j 0)) (decide (i = j)) = true := by
  unfold kitAll at h
  simp only [List.all_eq_true, List.mem_range] at h
  exact h i hi j hj
theorem up_of {K : PySem.W.Frag} {cs : List Addr} {CL : Addr} (h : kitUp K cs CL = true) {i : Nat} (hi : i < 20) : mkFacts K (cs.getD i 0) = true ∧ kitB K (cs.getD i 0) (.ref CL) true = true ∧ kitB K (cs.getD i 0) (.type "ValueError") true = true := by
  unfold kitUp at h
  simp only [List.all_eq_true, List.mem_range, Bool.and_eq_true] at h
  exact h i hi
theorem err_of {K : PySem.W.Frag} {D : Addr} (h : mkFacts K D = true) : errFacts K D = true := by
  unfold mkFacts at h
  simp only [Bool.and_eq_true] at h
  exact h.2.2.2.2
/-- which of the twenty it is -/
def mark (i n : Nat) : List Bool := (List.range n).map fun j => decide (i = j)
def spClasses (cs : List Addr) : Sp := fun vs H Q _ => ∃ (a : Addr) (i : Nat), vs = [.ref a] ∧ i < 20 ∧ ErrAt H a (cs.getD i 0) ∧ ∀ (H' : Hp) (p : Addr), Same H H' → H p = none → H' p = some (.lst ((mark i 20).map V.bl)) → Q (.ref p) H'
section
variable {P : Program} {w : World} {K : PySem.W.Frag} {mg : Str → Option Value} {base : Heap} {C0 C1 C2 C3 C4 C5 C6 C7 C8 C9 C10 C11 C12 C13 C14 C15 C16 C17 C18 C19 CL : Addr} {d1 : FuncData} {f1 : Addr}
theorem ok_classes (T : Err33 K mg C0 C1 C2 C3 C4 C5 C6 C7 C8 C9 C10 C11 C12 C13 C14 C15 C16 C17 C18 C19 CL d1 f1) {k : Nat} : FnOk P w K mg base CX0 (k + 1) f1 d1 ["one"] (spClasses [C0, C1, C2, C3, C4, C5, C6, C7, C8, C9, C10, C11, C12, C13, C14, C15, C16, C17, C18, C19]) := by
  refine T.FClasses.ok scClasses (fun vs H Q E h => ?_) (fun cdv A outer s H vs Q E hr h => ?_)
  · obtain ⟨a, i, rfl, _⟩ := h
    rfl
  · obtain ⟨a, i, rfl, hi, hE, q⟩ := h
    have hF := err_of (up_of T.up hi).1
    have hk := kit_of T.all hi
    refine ⟨_, (Evl.pss_cut (ps_set (i := 1) scClasses.nd rfl (.inl rfl) (pe_lst (pa_cons (pe_callB call_isErr (by rfl) T.isi (by decide +kernel) (pa_cons (pv 0) (pa_cons (pe_glob (v := .ref C0) (by rfl) T.c0 rfl) pa_nil))) (pa_cons (pe_callB call_isErr (by rfl) T.isi (by decide +kernel) (pa_cons (pv 0) (pa_cons (pe_glob (v := .ref C1) (by rfl) T.c1 rfl) pa_nil))) (pa_cons (pe_callB call_isErr (by rfl) T.isi (by decide +kernel) (pa_cons (pv 0) (pa_cons (pe_glob (v := .ref C2) (by rfl) T.c2 rfl) pa_nil))) (pa_cons (pe_callB call_isErr (by rfl) T.isi (by decide +kernel) (pa_cons (pv 0) (pa_cons (pe_glob (v := .ref C3) (by rfl) T.c3 rfl) pa_nil))) pa_nil))))))
 (Evl.pss_cut (ps_set (i := 1) scClasses.nd rfl (.inl rfl) (pe_op op_cat (pv 1) (pe_lst (pa_cons (pe_callB call_isErr (by rfl) T.isi (by decide +kernel) (pa_cons (pv 0) (pa_cons (pe_glob (v := .ref C4) (by rfl) T.c4 rfl) pa_nil))) (pa_cons (pe_callB call_isErr (by rfl) T.isi (by decide +kernel) (pa_cons (pv 0) (pa_cons (pe_glob (v := .ref C5) (by rfl) T.c5 rfl) pa_nil))) (pa_cons (pe_callB call_isErr (by rfl) T.isi (by decide +kernel) (pa_cons (pv 0) (pa_cons (pe_glob (v := .ref C6) (by rfl) T.c6 rfl) pa_nil))) pa_nil))))))
 (Evl.pss_cut (ps_set (i := 1) scClasses.nd rfl (.inl rfl) (pe_op op_cat (pv 1) (pe_lst (pa_cons (pe_callB call_isErr (by rfl) T.isi (by decide +kernel) (pa_cons (pv 0) (pa_cons (pe_glob (v := .ref C7) (by rfl) T.c7 rfl) pa_nil))) (pa_cons (pe_callB call_isErr (by rfl) T.isi (by decide +kernel) (pa_cons (pv 0) (pa_cons (pe_glob (v := .ref C8) (by rfl) T.c8 rfl) pa_nil))) (pa_cons (pe_callB call_isErr (by rfl) T.isi (by decide +kernel) (pa_cons (pv 0) (pa_cons (pe_glob (v := .ref C9) (by rfl) T.c9 rfl) pa_nil))) pa_nil))))))
 (Evl.pss_cut (ps_set (i := 1) scClasses.nd rfl (.inl rfl) (pe_op op_cat (pv 1) (pe_lst (pa_cons (pe_callB call_isErr (by rfl) T.isi (by decide +kernel) (pa_cons (pv 0) (pa_cons (pe_glob (v := .ref C10) (by rfl) T.c10 rfl) pa_nil))) (pa_cons (pe_callB call_isErr (by rfl) T.isi (by decide +kernel) (pa_cons (pv 0) (pa_cons (pe_glob (v := .ref C11) (by rfl) T.c11 rfl) pa_nil))) (pa_cons (pe_callB call_isErr (by rfl) T.isi (by decide +kernel) (pa_cons (pv 0) (pa_cons (pe_glob (v := .ref C12) (by rfl) T.c12 rfl) pa_nil))) pa_nil))))))
 (Evl.pss_cut (ps_set (i := 1) scClasses.nd rfl (.inl rfl) (pe_op op_cat (pv 1) (pe_lst (pa_cons (pe_callB call_isErr (by rfl) T.isi (by decide +kernel) (pa_cons (pv 0) (pa_cons (pe_glob (v := .ref C13) (by rfl) T.c13 rfl) pa_nil))) (pa_cons (pe_callB call_isErr (by rfl) T.isi (by decide +kernel) (pa_cons (pv 0) (pa_cons (pe_glob (v := .ref C14) (by rfl) T.c14 rfl) pa_nil))) (pa_cons (pe_callB call_isErr (by rfl) T.isi (by decide +kernel) (pa_cons (pv 0) (pa_cons (pe_glob (v := .ref C15) (by rfl) T.c15 rfl) pa_nil))) pa_nil))))))
 (Evl.pss_cut (ps_set (i := 1) scClasses.nd rfl (.inl rfl) (pe_op op_cat (pv 1) (pe_lst (pa_cons (pe_callB call_isErr (by rfl) T.isi (by decide +kernel) (pa_cons (pv 0) (pa_cons (pe_glob (v := .ref C16) (by rfl) T.c16 rfl) pa_nil))) (pa_cons (pe_callB call_isErr (by rfl) T.isi (by decide +kernel) (pa_cons (pv 0) (pa_cons (pe_glob (v := .ref C17) (by rfl) T.c17 rfl) pa_nil))) (pa_cons (pe_callB call_isErr (by rfl) T.isi (by decide +kernel) (pa_cons (pv 0) (pa_cons (pe_glob (v := .ref C18) (by rfl) T.c18 rfl) pa_nil))) pa_nil))))))
 (pss_one (ps_ret (pe_op op_cat (pv 1) (pe_lst (pa_cons (pe_callB call_isErr (by rfl) T.isi (by decide +kernel) (pa_cons (pv 0) (pa_cons (pe_glob (v := .ref C19) (by rfl) T.c19 rfl) pa_nil))) pa_nil))))))))))), ?_⟩
    refine ⟨fun σ H' => ∃ p, σ = [some (.ref a), some (.ref p)] ∧ Same H H' ∧ H p = none ∧ H' p = some (.lst ((mark i 4).map V.bl)), ?_, ?_⟩
    · have hE' := hE
      exact ⟨_, rfl, a, _, _, _, _, rfl, hE', hF, .own _, hk 0 (by decide), _, rfl, a, _, _, _, _, rfl, hE', hF, .own _, hk 1 (by decide), _, rfl, a, _, _, _, _, rfl, hE', hF, .own _, hk 2 (by decide), _, rfl, a, _, _, _, _, rfl, hE', hF, .own _, hk 3 (by decide), (by show 4 ≤ sizeLine; decide), fun p hp => ⟨p, rfl, same_upd hp, hp, upd_same⟩⟩
    rintro σ H1 ⟨p, rfl, s0, hp0, hp⟩
    refine ⟨fun σ H' => ∃ p, σ = [some (.ref a), some (.ref p)] ∧ Same H H' ∧ H p = none ∧ H' p = some (.lst ((mark i 7).map V.bl)), ?_, ?_⟩
    · have hE' := hE.same s0
      refine ⟨_, rfl, _, rfl, a, _, _, _, _, rfl, hE', hF, .own _, hk 4 (by decide), _, rfl, a, _, _, _, _, rfl, hE', hF, .own _, hk 5 (by decide), _, rfl, a, _, _, _, _, rfl, hE', hF, .own _, hk 6 (by decide), (by show 3 ≤ sizeLine; decide), fun q2 hq2 => ?_⟩
      refine ⟨p, q2, _, _, rfl, rfl, same_upd hq2 _ _ hp, upd_same, (by show 7 ≤ sizeLine; decide), fun r hr2 => ⟨r, rfl, (s0.trans (same_upd hq2)).trans (same_upd hr2), (s0.trans (same_upd hq2)).free hr2, upd_same⟩⟩
    rintro σ H1 ⟨p, rfl, s0, hp0, hp⟩
    refine ⟨fun σ H' => ∃ p, σ = [some (.ref a), some (.ref p)] ∧ Same H H' ∧ H p = none ∧ H' p = some (.lst ((mark i 10).map V.bl)), ?_, ?_⟩
    · have hE' := hE.same s0
      refine ⟨_, rfl, _, rfl, a, _, _, _, _, rfl, hE', hF, .own _, hk 7 (by decide), _, rfl, a, _, _, _, _, rfl, hE', hF, .own _, hk 8 (by decide), _, rfl, a, _, _, _, _, rfl, hE', hF, .own _, hk 9 (by decide), (by show 3 ≤ sizeLine; decide), fun q2 hq2 => ?_⟩
      refine ⟨p, q2, _, _, rfl, rfl, same_upd hq2 _ _ hp, upd_same, (by show 10 ≤ sizeLine; decide), fun r hr2 => ⟨r, rfl, (s0.trans (same_upd hq2)).trans (same_upd hr2), (s0.trans (same_upd hq2)).free hr2, upd_same⟩⟩
    rintro σ H1 ⟨p, rfl, s0, hp0, hp⟩
    refine ⟨fun σ H' => ∃ p, σ = [some (.ref a), some (.ref p)] ∧ Same H H' ∧ H p = none ∧ H' p = some (.lst ((mark i 13).map V.bl)), ?_, ?_⟩
    · have hE' := hE.same s0
      refine ⟨_, rfl, _, rfl, a, _, _, _, _, rfl, hE', hF, .own _, hk 10 (by decide), _, rfl, a, _, _, _, _, rfl, hE', hF, .own _, hk 11 (by decide), _, rfl, a, _, _, _, _, rfl, hE', hF, .own _, hk 12 (by decide), (by show 3 ≤ sizeLine; decide), fun q2 hq2 => ?_⟩
      refine ⟨p, q2, _, _, rfl, rfl, same_upd hq2 _ _ hp, upd_same, (by show 13 ≤ sizeLine; decide), fun r hr2 => ⟨r, rfl, (s0.trans (same_upd hq2)).trans (same_upd hr2), (s0.trans (same_upd hq2)).free hr2, upd_same⟩⟩
    rintro σ H1 ⟨p, rfl, s0, hp0, hp⟩
    refine ⟨fun σ H' => ∃ p, σ = [some (.ref a), some (.ref p)] ∧ Same H H' ∧ H p = none ∧ H' p = some (.lst ((mark i 16).map V.bl)), ?_, ?_⟩
    · have hE' := hE.same s0
      refine ⟨_, rfl, _, rfl, a, _, _, _, _, rfl, hE', hF, .own _, hk 13 (by decide), _, rfl, a, _, _, _, _, rfl, hE', hF, .own _, hk 14 (by decide), _, rfl, a, _, _, _, _, rfl, hE', hF, .own _, hk 15 (by decide), (by show 3 ≤ sizeLine; decide), fun q2 hq2 => ?_⟩
      refine ⟨p, q2, _, _, rfl, rfl, same_upd hq2 _ _ hp, upd_same, (by show 16 ≤ sizeLine; decide), fun r hr2 => ⟨r, rfl, (s0.trans (same_upd hq2)).trans (same_upd hr2), (s0.trans (same_upd hq2)).free hr2, upd_same⟩⟩
    rintro σ H1 ⟨p, rfl, s0, hp0, hp⟩
    refine ⟨fun σ H' => ∃ p, σ = [some (.ref a), some (.ref p)] ∧ Same H H' ∧ H p = none ∧ H' p = some (.lst ((mark i 19).map V.bl)), ?_, ?_⟩
    · have hE' := hE.same s0
      refine ⟨_, rfl, _, rfl, a, _, _, _, _, rfl, hE', hF, .own _, hk 16 (by decide), _, rfl, a, _, _, _, _, rfl, hE', hF, .own _, hk 17 (by decide), _, rfl, a, _, _, _, _, rfl, hE', hF, .own _, hk 18 (by decide), (by show 3 ≤ sizeLine; decide), fun q2 hq2 => ?_⟩
      refine ⟨p, q2, _, _, rfl, rfl, same_upd hq2 _ _ hp, upd_same, (by show 19 ≤ sizeLine; decide), fun r hr2 => ⟨r, rfl, (s0.trans (same_upd hq2)).trans (same_upd hr2), (s0.trans (same_upd hq2)).free hr2, upd_same⟩⟩
    rintro σ H1 ⟨p, rfl, s0, hp0, hp⟩
    have hE' := hE.same s0
    refine ⟨_, rfl, _, rfl, a, _, _, _, _, rfl, hE', hF, .own _, hk 19 (by decide), (by show 1 ≤ sizeLine; decide), fun q2 hq2 => ?_⟩
    refine ⟨p, q2, _, _, rfl, rfl, same_upd hq2 _ _ hp, upd_same, (by show 20 ≤ sizeLine; decide), fun r hr2 => ?_⟩
    exact q _ r ((s0.trans (same_upd hq2)).trans (same_upd hr2)) ((s0.trans (same_upd hq2)).free hr2) upd_same
end
end My
/-! ### the law -/
namespace My
open PySem PySem.Spec PyProof.Rows L2
theorem dp_bools {K : PySem.W.Frag} {H : Hp} : ∀ bs : List Bool, DpAll K H (bs.map V.bl) (bs.map PyData.bool)
  | [] => .nil
  | b :: r => .cons (.bl b) (dp_bools r)
theorem shaped_bools (bs : List Bool) : SeqAt.shaped (.list (bs.map PyData.bool)) = true := by
  have h1 : ∀ l : List Bool, PyData.canLayAll0 (l.map PyData.bool) = true := by
    intro l
    induction l with
    | nil => rfl
    | cons b r ih => simp [PyData.canLayAll0, PyData.canLay0, ih]
  have h2 : ∀ l : List Bool, PyData.depthAll (l.map PyData.bool) = 0 := by
    intro l
    induction l with
    | nil => rfl
    | cons b r ih => simp [PyData.depthAll, PyData.depth, ih]
  simp [SeqAt.shaped, PyData.canLay0, PyData.depth, h1, h2]
theorem neL (bs : List Bool) : V.bl (!PyData.eqv (.list (bs.map PyData.bool)) (.list (bs.map PyData.bool))) = V.bl false := by
  rw [PySem.SeqAt.eqv_refl _ (SeqAt.canLay_of_shaped (shaped_bools bs))]
  rfl
theorem dp_list {K : PySem.W.Frag} {H : Hp} {p : Addr} {bs : List Bool} (h : H p = some (.lst (bs.map V.bl))) : Dp K H (.ref p) (.list (bs.map PyData.bool)) := .lst (SqL.of h) (dp_bools bs)
theorem mark_more (i n : Nat) : (mark i n).map V.bl ++ [V.bl (decide (i = n))] = (mark i (n + 1)).map V.bl := by
  unfold mark
  rw [List.range_succ, List.map_append, List.map_append]
  rfl
theorem dec_nat (i n : Nat) : decide (V.int (0 + (n : Int)) = V.int (i : Int)) = decide (i = n) := by
  by_cases h : i = n
  · subst h
    rw [decide_eq_true rfl]
    exact decide_eq_true (by congr 1; omega)
  · rw [decide_eq_false h]
    exact decide_eq_false fun z => h (by have := V.int.inj z; omega)
/-- the list holds an error of each class, in order -/
def Errs (cs : List Addr) (H : Hp) (xs : List V) : Prop := ∀ (i : Nat) (v : V), xs[i]? = some v → ∃ a, v = .ref a ∧ ErrAt H a (cs.getD i 0)
theorem Errs.nil (cs : List Addr) (H : Hp) : Errs cs H [] := fun i v h => by simp at h
theorem Errs.same {cs : List Addr} {H H' : Hp} {xs : List V} (h : Errs cs H xs) (s : Same H H') : Errs cs H' xs := fun i v e => by
  obtain ⟨a, e1, e2⟩ := h i v e
  exact ⟨a, e1, e2.same s⟩
theorem Errs.snoc {cs : List Addr} {H : Hp} {xs : List V} {a D : Addr} (h : Errs cs H xs) (e : ErrAt H a D) (hD : D = cs.getD xs.length 0) : Errs cs H (xs ++ [.ref a]) := fun i v q => by
  by_cases hi : i < xs.length
  · rw [List.getElem?_append_left hi] at q
    exact h i v q
  · have hj : i = xs.length := by
      have := (List.getElem?_eq_some_iff.mp q).1
      rw [List.length_append, List.length_singleton] at this
      omega
    subst hj
    rw [List.getElem?_append_right (Nat.le_refl _), Nat.sub_self] at q
    obtain rfl := Option.some.inj q
    exact ⟨a, rfl, hD ▸ e⟩
theorem new_ne {H : Hp} {p l : Addr} {n : Nat} (h : Pen H p n) (hl : H l = none) : l ≠ p := by
  obtain ⟨xs, e⟩ := h.ls
  exact (ne_of_none e hl).symm
theorem mk_q {K : PySem.W.Frag} {D : Addr} (h : mkFacts K D = true) : PySem.W.excIn K D [.type "ValueError", .type "Exception", .type "BaseException", .type "object"] "ValueError.__new__" = true ∧ PySem.W.keepIn K (.ref D) = true := by
  unfold mkFacts at h
  simp only [Bool.and_eq_true] at h
  exact ⟨h.1, h.2.1⟩
section
variable {P : Program} {w : World} {K : PySem.W.Frag} {mg : Str → Option Value} {base : Heap} {f1 f2 f3 f4 : Addr} {d1 d2 d3 d4 : FuncData} {g1 g5 g8 CN CD : Addr} {e1 e5 e8 : FuncData} {C0 C1 C2 C3 C4 C5 C6 C7 C8 C9 C10 C11 C12 C13 C14 C15 C16 C17 C18 C19 CL : Addr} {dC : FuncData} {fC : Addr}
def spLaw (K : PySem.W.Frag) : Sp := fun vs H Q _ => ∃ (a : Addr) (ns : List Int), vs = [.ref a] ∧ SqL K H a (ns.map V.int) ∧ ns.length ≤ 63 ∧ ∀ H', Q (.bl true) H'
theorem ok_law {f : Addr} {fd : FuncData} (F : Fun K "law" "law" sLaw f fd) (TP : PenTxt K mg f1 f2 f3 f4 d1 d2 d3 d4) (TN : NumC K mg g1 g5 g8 CN C7 e1 e5 e8) (TE : Err33 K mg C0 C1 C2 C3 C4 C5 C6 C7 C8 C9 C10 C11 C12 C13 C14 C15 C16 C17 C18 C19 CL dC fC) :
    FnOk P w K mg base CX0 6 f fd ["script"] (spLaw K) := by
  have GO : FnOk P w K mg base CX0 5 f2 d2 ["script"] (spOpen K) := ok_open TP (k := 4)
  have GT : FnOk P w K mg base CX0 5 f3 d3 ["pen", "many"] spTake := ok_take TP (k := 3)
  have GP : FnOk P w K mg base CX0 5 f4 d4 ["pen", "some"] (spPick K) := ok_pick TP (k := 2)
  have GC : FnOk P w K mg base CX0 5 fC dC ["one"] (spClasses [C0, C1, C2, C3, C4, C5, C6, C7, C8, C9, C10, C11, C12, C13, C14, C15, C16, C17, C18, C19]) := ok_classes TE (k := 4)
  have GN : FnOk P w K mg base (L2.CX P w) 5 g1 e1 ["n", "d"] (spNumberOf K CN C7) := ok_numberOf TN (k := 3)
  have mk : ∀ i, i < 20 → mkFacts K ([C0, C1, C2, C3, C4, C5, C6, C7, C8, C9, C10, C11, C12, C13, C14, C15, C16, C17, C18, C19].getD i 0) = true := fun i hi => (up_of TE.up hi).1
  have m0 := mk_q (mk 0 (by decide))
  have m1 := mk_q (mk 1 (by decide))
  have m2 := mk_q (mk 2 (by decide))
  have m3 := mk_q (mk 3 (by decide))
  have m4 := mk_q (mk 4 (by decide))
  have m5 := mk_q (mk 5 (by decide))
  have m6 := mk_q (mk 6 (by decide))
  have m7 := mk_q (mk 7 (by decide))
  have m8 := mk_q (mk 8 (by decide))
  have m9 := mk_q (mk 9 (by decide))
  have m10 := mk_q (mk 10 (by decide))
  have m11 := mk_q (mk 11 (by decide))
  have m12 := mk_q (mk 12 (by decide))
  have m13 := mk_q (mk 13 (by decide))
  have m14 := mk_q (mk 14 (by decide))
  have m15 := mk_q (mk 15 (by decide))
  have m16 := mk_q (mk 16 (by decide))
  have m17 := mk_q (mk 17 (by decide))
  have m18 := mk_q (mk 18 (by decide))
  have m19 := mk_q (mk 19 (by decide))
  refine F.ok scLaw (fun vs H Q E h => ?_) (fun cdv A outer s H vs Q E hr h => ?_)
  · obtain ⟨a, ns, rfl, _⟩ := h
    rfl
  · obtain ⟨a, ns, rfl, hS, hl, q⟩ := h
    have hu : (A.deeper (envOfC "law" (defScope sLaw) s.heap.objs.size f cdv)).units + 64 < cLine := by have := hr.un; omega
    refine ⟨_, (pss_cons (ps_set (i := 1) scLaw.nd rfl (.inl rfl) (pe_call GO hr (by rfl) TP.gOpen TP.FOpen.kp TP.bOpen .nil pass0 (pa_cons (pv 0) pa_nil)))
 (pss_cons (ps_for PassesOwn.never rfl (pi_range1 (by rfl) TE.range (pa_cons pe_int pa_nil)) (pg_name (i := 2) scLaw.nd rfl (.inl rfl))
 (Evl.pss_cut (ps_set (i := 3) scLaw.nd rfl (.inl rfl) (pe_call GP hr (by rfl) TP.gPick TP.FPick.kp TP.bPick .nil pass0 (pa_cons (pv 1) (pa_cons (pe_lst (pa_cons pe_str (pa_cons pe_str (pa_cons pe_str (pa_cons (pe_op op_mulS pe_str (pe_call GT hr (by rfl) TP.gTake TP.FTake.kp TP.bTake .nil pass0 (pa_cons (pv 1) (pa_cons pe_int pa_nil)))) pa_nil))))) pa_nil))))
 (Evl.pss_cut (ps_set (i := 4) scLaw.nd rfl (.inl rfl) (pe_lst (pa_cons (pe_exc1 PySem.F.excBase_ValueError m0.1 TE.c0 m0.2 (by rfl) (pv 3)) (pa_cons (pe_exc1 PySem.F.excBase_ValueError m1.1 TE.c1 m1.2 (by rfl) (pv 3)) (pa_cons (pe_exc1 PySem.F.excBase_ValueError m2.1 TE.c2 m2.2 (by rfl) (pv 3)) (pa_cons (pe_exc1 PySem.F.excBase_ValueError m3.1 TE.c3 m3.2 (by rfl) (pv 3)) (pa_cons (pe_exc1 PySem.F.excBase_ValueError m4.1 TE.c4 m4.2 (by rfl) (pv 3)) (pa_cons (pe_exc1 PySem.F.excBase_ValueError m5.1 TE.c5 m5.2 (by rfl) (pv 3)) pa_nil))))))))
 (Evl.pss_cut (ps_set (i := 4) scLaw.nd rfl (.inl rfl) (pe_op op_cat (pv 4) (pe_lst (pa_cons (pe_exc1 PySem.F.excBase_ValueError m6.1 TE.c6 m6.2 (by rfl) (pv 3)) (pa_cons (pe_exc1 PySem.F.excBase_ValueError m7.1 TE.c7 m7.2 (by rfl) (pv 3)) (pa_cons (pe_exc1 PySem.F.excBase_ValueError m8.1 TE.c8 m8.2 (by rfl) (pv 3)) (pa_cons (pe_exc1 PySem.F.excBase_ValueError m9.1 TE.c9 m9.2 (by rfl) (pv 3)) (pa_cons (pe_exc1 PySem.F.excBase_ValueError m10.1 TE.c10 m10.2 (by rfl) (pv 3)) pa_nil))))))))
 (Evl.pss_cut (ps_set (i := 4) scLaw.nd rfl (.inl rfl) (pe_op op_cat (pv 4) (pe_lst (pa_cons (pe_exc1 PySem.F.excBase_ValueError m11.1 TE.c11 m11.2 (by rfl) (pv 3)) (pa_cons (pe_exc1 PySem.F.excBase_ValueError m12.1 TE.c12 m12.2 (by rfl) (pv 3)) (pa_cons (pe_exc1 PySem.F.excBase_ValueError m13.1 TE.c13 m13.2 (by rfl) (pv 3)) (pa_cons (pe_exc1 PySem.F.excBase_ValueError m14.1 TE.c14 m14.2 (by rfl) (pv 3)) (pa_cons (pe_exc1 PySem.F.excBase_ValueError m15.1 TE.c15 m15.2 (by rfl) (pv 3)) pa_nil))))))))
 (Evl.pss_cut (ps_set (i := 4) scLaw.nd rfl (.inl rfl) (pe_op op_cat (pv 4) (pe_lst (pa_cons (pe_exc1 PySem.F.excBase_ValueError m16.1 TE.c16 m16.2 (by rfl) (pv 3)) (pa_cons (pe_exc1 PySem.F.excBase_ValueError m17.1 TE.c17 m17.2 (by rfl) (pv 3)) (pa_cons (pe_exc1 PySem.F.excBase_ValueError m18.1 TE.c18 m18.2 (by rfl) (pv 3)) (pa_cons (pe_exc1 PySem.F.excBase_ValueError m19.1 TE.c19 m19.2 (by rfl) (pv 3)) pa_nil)))))))
 (Evl.pss_cut (ps_set (i := 5) scLaw.nd rfl (.inl rfl) pe_non)
 (Evl.pss_cut (ps_try_keep (i := 6) rfl rfl rfl scLaw.nd rfl rfl ⟨rfl, by decide, .inl TE.later⟩ (fun W pl ex tk _ => (pss_one (ps_expr (pe_callS GN hr (by rfl) TN.gNumberOf TN.FNumberOf.kp TN.bNumberOf (fun σ => passAt tk σ) (pa_cons pe_int (pa_cons (pe_un un_neg (pe_call GT hr (by rfl) TP.gTake TP.FTake.kp TP.bTake .nil pass0 (pa_cons (pv 1) (pa_cons pe_int pa_nil)))) pa_nil)))))) (fun a oe pl => (pss_one (ps_set (i := 5) scLaw.nd rfl (.inl rfl) (pv 6)))))
 (Evl.pss_cut (ps_if (PW.pt (pw_or (pt_cmpR op_isN (pv 5) pe_non (nomark _)) (pw_or1 (pt_cmpR (op_neD hu) (pe_call GC hr (by rfl) TE.gClasses TE.FClasses.kp TE.bClasses .nil pass0 (pa_cons (pv 5) pa_nil)) (pe_lc (own := [("j", 9)]) (g := gName 9) (tt := tYes) (by rfl) scLaw.nd (pi_range1 (by rfl) TE.range (pa_cons pe_int pa_nil)) (blkOk_by (N := ["script", "pen", "turn", "text", "errors", "caught", "e", "k", "one", "j"]) (sc := defScope sLaw) (by decide +kernel)) (fun _ _ _ _ _ => pg_name (i := 9) scLaw.nd rfl (Or.inl rfl)) (fun _ _ _ _ _ => pts_nil) (fun _ _ _ _ _ => (pe_cmpR op_eq (pv 9) pe_int (nomark _)))) (nomark _))))) (pss_one (ps_ret pe_bl)) pss_nil)
 (pss_one (ps_for PassesOwn.never rfl (pi_enum (by rfl) TE.enumerate (pa_cons (pv 4) pa_nil)) (pg_tup rfl (pgs_cons (pg_name (i := 7) scLaw.nd rfl (.inr rfl)) (pgs_cons (pg_name (i := 8) scLaw.nd rfl (.inl rfl)) pgs_nil)))
 (Evl.pss_cut (ps_if (pt_cmpR (op_neD hu) (pe_call GC hr (by rfl) TE.gClasses TE.FClasses.kp TE.bClasses .nil pass0 (pa_cons (pv 8) pa_nil)) (pe_lc (own := [("j", 9)]) (g := gName 9) (tt := tYes) (by rfl) scLaw.nd (pi_range1 (by rfl) TE.range (pa_cons pe_int pa_nil)) (blkOk_by (N := ["script", "pen", "turn", "text", "errors", "caught", "e", "k", "one", "j"]) (sc := defScope sLaw) (by decide +kernel)) (fun _ _ _ _ _ => pg_name (i := 9) scLaw.nd rfl (Or.inl rfl)) (fun _ _ _ _ _ => pts_nil) (fun _ _ _ _ _ => (pe_cmpR op_eq (pv 9) (pv 7) (nomark _)))) (nomark _)) (pss_one (ps_ret pe_bl)) pss_nil)
 (pss_one (ps_if (PW.pt (pw_or (pt_not (pt_val (pe_callB call_isErr (by rfl) TE.isi (by decide +kernel) (pa_cons (pv 8) (pa_cons (pe_glob (v := .ref CL) (by rfl) TE.later rfl) pa_nil))))) (pw_or1 (pt_not (pt_val (pe_callB call_isErr (by rfl) TE.isi (by decide +kernel) (pa_cons (pv 8) (pa_cons (pe_bltn (v := .ty "ValueError") (by rfl) TE.ve (by decide +kernel) rfl) pa_nil)))))))) (pss_one (ps_ret pe_bl)) pss_nil))))))))))))))
 (pss_one (ps_ret pe_bl)))), ?_⟩
    refine ⟨_, rfl, a, ns, rfl, hS, hl, fun H0 p s0 np hP0 => ?_⟩
    refine ⟨2, rfl, by decide, by decide, for_range (lo := 0) (n := 2) (fun i σ H' => ∃ v2 v3 v4 v5 v6 v7 v8 v9 : Option V, σ = [some (.ref a), some (.ref p), v2, v3, v4, v5, v6, v7, v8, v9] ∧ Pen H' p (3 * i))
      ⟨none, none, none, none, none, none, none, none, rfl, hP0⟩ ?_ ?_⟩
    · rintro i σ H hi ⟨v2, v3, v4, v5, v6, v7, v8, v9, rfl, hP⟩
      -- text
      refine ⟨fun σ H' => ∃ z : Str, σ = [some (.ref a), some (.ref p), some (.int (0 + (i : Int))), some (.str z), v4, v5, v6, v7, v8, v9] ∧ Pen H' p (3 * i + 2), ?_, ?_⟩
      · refine ⟨_, rfl, _, rfl, p, 99, 3 * i, rfl, hP, by omega, by decide, by decide, fun H1 k b1 hP1 k0 k1 => ⟨_, k, rfl, rfl, (by decide +kernel), by omega, by omega, fun t => ?_⟩⟩
        refine ⟨(by show 4 ≤ sizeLine; decide), fun l hl => ?_⟩
        refine ⟨p, l, _, 3 * i + 1, rfl, hP1.same (same_upd hl), by omega, SqL.of upd_same, new_ne hP1 hl, (by show 0 < 4; decide), (by show 4 ≤ 1000; decide), fun H2 k2 v b2 hP2 hv => ?_⟩
        have hm := List.mem_of_getElem? hv
        simp only [List.mem_cons, List.not_mem_nil, or_false] at hm
        rcases hm with rfl | rfl | rfl | rfl
        · exact ⟨_, rfl, hP2⟩
        · exact ⟨_, rfl, hP2⟩
        · exact ⟨_, rfl, hP2⟩
        · exact ⟨_, rfl, hP2⟩
      rintro σ H ⟨z, rfl, hP⟩
      -- the errors
      refine ⟨fun σ H' => ∃ (le : Addr) (es : List V), σ = [some (.ref a), some (.ref p), some (.int (0 + (i : Int))), some (.str z), some (.ref le), v5, v6, v7, v8, v9] ∧ H' le = some (.lst es) ∧ le ≠ p ∧ es.length = 6 ∧ Errs [C0, C1, C2, C3, C4, C5, C6, C7, C8, C9, C10, C11, C12, C13, C14, C15, C16, C17, C18, C19] H' es ∧ Pen H' p (3 * i + 2), ?_, ?_⟩
      · refine ⟨_, rfl, fun a0 n0 => ⟨_, rfl, fun a1 n1 => ⟨_, rfl, fun a2 n2 => ⟨_, rfl, fun a3 n3 => ⟨_, rfl, fun a4 n4 => ⟨_, rfl, fun a5 n5 => ⟨(by show 6 ≤ sizeLine; decide), fun l hl => ?_⟩⟩⟩⟩⟩⟩⟩
        have E0 := Errs.nil [C0, C1, C2, C3, C4, C5, C6, C7, C8, C9, C10, C11, C12, C13, C14, C15, C16, C17, C18, C19] H
        have E1 := (E0.same (same_upd (o := ExO (.ref C0) a0) n0)).snoc (exO_at upd_same) (D := C0) rfl
        have E2 := (E1.same (same_upd (o := ExO (.ref C1) a1) n1)).snoc (exO_at upd_same) (D := C1) rfl
        have E3 := (E2.same (same_upd (o := ExO (.ref C2) a2) n2)).snoc (exO_at upd_same) (D := C2) rfl
        have E4 := (E3.same (same_upd (o := ExO (.ref C3) a3) n3)).snoc (exO_at upd_same) (D := C3) rfl
        have E5 := (E4.same (same_upd (o := ExO (.ref C4) a4) n4)).snoc (exO_at upd_same) (D := C4) rfl
        have E6 := (E5.same (same_upd (o := ExO (.ref C5) a5) n5)).snoc (exO_at upd_same) (D := C5) rfl
        have st := (((((same_upd (o := ExO (.ref C0) a0) n0).trans (same_upd (o := ExO (.ref C1) a1) n1)).trans (same_upd (o := ExO (.ref C2) a2) n2)).trans (same_upd (o := ExO (.ref C3) a3) n3)).trans (same_upd (o := ExO (.ref C4) a4) n4)).trans (same_upd (o := ExO (.ref C5) a5) n5)
        exact ⟨l, _, rfl, upd_same, new_ne (hP.same st) hl, rfl, E6.same (same_upd hl), (hP.same st).same (same_upd hl)⟩
      rintro σ H ⟨le, es, rfl, hle, nle, hlen, hE, hP⟩
      refine ⟨fun σ H' => ∃ (le : Addr) (es : List V), σ = [some (.ref a), some (.ref p), some (.int (0 + (i : Int))), some (.str z), some (.ref le), v5, v6, v7, v8, v9] ∧ H' le = some (.lst es) ∧ le ≠ p ∧ es.length = 11 ∧ Errs [C0, C1, C2, C3, C4, C5, C6, C7, C8, C9, C10, C11, C12, C13, C14, C15, C16, C17, C18, C19] H' es ∧ Pen H' p (3 * i + 2), ?_, ?_⟩
      · refine ⟨_, rfl, _, rfl, fun a6 n6 => ⟨_, rfl, fun a7 n7 => ⟨_, rfl, fun a8 n8 => ⟨_, rfl, fun a9 n9 => ⟨_, rfl, fun a10 n10 => ⟨(by show 5 ≤ sizeLine; decide), fun l hl => ?_⟩⟩⟩⟩⟩⟩
        have E7 := (hE.same (same_upd (o := ExO (.ref C6) a6) n6)).snoc (exO_at upd_same) (D := C6) (by simp only [List.length_append, List.length_cons, List.length_nil, hlen]; rfl)
        have E8 := (E7.same (same_upd (o := ExO (.ref C7) a7) n7)).snoc (exO_at upd_same) (D := C7) (by simp only [List.length_append, List.length_cons, List.length_nil, hlen]; rfl)
        have E9 := (E8.same (same_upd (o := ExO (.ref C8) a8) n8)).snoc (exO_at upd_same) (D := C8) (by simp only [List.length_append, List.length_cons, List.length_nil, hlen]; rfl)
        have E10 := (E9.same (same_upd (o := ExO (.ref C9) a9) n9)).snoc (exO_at upd_same) (D := C9) (by simp only [List.length_append, List.length_cons, List.length_nil, hlen]; rfl)
        have E11 := (E10.same (same_upd (o := ExO (.ref C10) a10) n10)).snoc (exO_at upd_same) (D := C10) (by simp only [List.length_append, List.length_cons, List.length_nil, hlen]; rfl)
        have st := (((((same_upd (o := ExO (.ref C6) a6) n6).trans (same_upd (o := ExO (.ref C7) a7) n7)).trans (same_upd (o := ExO (.ref C8) a8) n8)).trans (same_upd (o := ExO (.ref C9) a9) n9)).trans (same_upd (o := ExO (.ref C10) a10) n10))
        refine ⟨le, l, es, _, rfl, rfl, same_upd hl _ _ (st _ _ hle), upd_same, (by rw [hlen]; show 11 ≤ sizeLine; decide), fun r hr2 => ?_⟩
        have s5 := (st.trans (same_upd (o := HO.lst [V.ref a6, V.ref a7, V.ref a8, V.ref a9, V.ref a10]) hl)).trans (same_upd (o := HO.lst (es ++ [V.ref a6, V.ref a7, V.ref a8, V.ref a9, V.ref a10])) hr2)
        refine ⟨r, _, rfl, upd_same, new_ne ((hP.same st).same (same_upd hl)) hr2, ?_, ?_, hP.same s5⟩
        · simp only [List.length_append, List.length_cons, List.length_nil, hlen]
        · have E' := (E11.same (same_upd (o := HO.lst [V.ref a6, V.ref a7, V.ref a8, V.ref a9, V.ref a10]) hl)).same (same_upd (o := HO.lst (es ++ [V.ref a6, V.ref a7, V.ref a8, V.ref a9, V.ref a10])) hr2)
          simp only [List.append_assoc, List.cons_append, List.nil_append] at E'
          exact E'
      rintro σ H ⟨le, es, rfl, hle, nle, hlen, hE, hP⟩
      refine ⟨fun σ H' => ∃ (le : Addr) (es : List V), σ = [some (.ref a), some (.ref p), some (.int (0 + (i : Int))), some (.str z), some (.ref le), v5, v6, v7, v8, v9] ∧ H' le = some (.lst es) ∧ le ≠ p ∧ es.length = 16 ∧ Errs [C0, C1, C2, C3, C4, C5, C6, C7, C8, C9, C10, C11, C12, C13, C14, C15, C16, C17, C18, C19] H' es ∧ Pen H' p (3 * i + 2), ?_, ?_⟩
      · refine ⟨_, rfl, _, rfl, fun a11 n11 => ⟨_, rfl, fun a12 n12 => ⟨_, rfl, fun a13 n13 => ⟨_, rfl, fun a14 n14 => ⟨_, rfl, fun a15 n15 => ⟨(by show 5 ≤ sizeLine; decide), fun l hl => ?_⟩⟩⟩⟩⟩⟩
        have E12 := (hE.same (same_upd (o := ExO (.ref C11) a11) n11)).snoc (exO_at upd_same) (D := C11) (by simp only [List.length_append, List.length_cons, List.length_nil, hlen]; rfl)
        have E13 := (E12.same (same_upd (o := ExO (.ref C12) a12) n12)).snoc (exO_at upd_same) (D := C12) (by simp only [List.length_append, List.length_cons, List.length_nil, hlen]; rfl)
        have E14 := (E13.same (same_upd (o := ExO (.ref C13) a13) n13)).snoc (exO_at upd_same) (D := C13) (by simp only [List.length_append, List.length_cons, List.length_nil, hlen]; rfl)
        have E15 := (E14.same (same_upd (o := ExO (.ref C14) a14) n14)).snoc (exO_at upd_same) (D := C14) (by simp only [List.length_append, List.length_cons, List.length_nil, hlen]; rfl)
        have E16 := (E15.same (same_upd (o := ExO (.ref C15) a15) n15)).snoc (exO_at upd_same) (D := C15) (by simp only [List.length_append, List.length_cons, List.length_nil, hlen]; rfl)
        have st := (((((same_upd (o := ExO (.ref C11) a11) n11).trans (same_upd (o := ExO (.ref C12) a12) n12)).trans (same_upd (o := ExO (.ref C13) a13) n13)).trans (same_upd (o := ExO (.ref C14) a14) n14)).trans (same_upd (o := ExO (.ref C15) a15) n15))
        refine ⟨le, l, es, _, rfl, rfl, same_upd hl _ _ (st _ _ hle), upd_same, (by rw [hlen]; show 16 ≤ sizeLine; decide), fun r hr2 => ?_⟩
        have s5 := (st.trans (same_upd (o := HO.lst [V.ref a11, V.ref a12, V.ref a13, V.ref a14, V.ref a15]) hl)).trans (same_upd (o := HO.lst (es ++ [V.ref a11, V.ref a12, V.ref a13, V.ref a14, V.ref a15])) hr2)
        refine ⟨r, _, rfl, upd_same, new_ne ((hP.same st).same (same_upd hl)) hr2, ?_, ?_, hP.same s5⟩
        · simp only [List.length_append, List.length_cons, List.length_nil, hlen]
        · have E' := (E16.same (same_upd (o := HO.lst [V.ref a11, V.ref a12, V.ref a13, V.ref a14, V.ref a15]) hl)).same (same_upd (o := HO.lst (es ++ [V.ref a11, V.ref a12, V.ref a13, V.ref a14, V.ref a15])) hr2)
          simp only [List.append_assoc, List.cons_append, List.nil_append] at E'
          exact E'
      rintro σ H ⟨le, es, rfl, hle, nle, hlen, hE, hP⟩
      refine ⟨fun σ H' => ∃ (le : Addr) (es : List V), σ = [some (.ref a), some (.ref p), some (.int (0 + (i : Int))), some (.str z), some (.ref le), v5, v6, v7, v8, v9] ∧ H' le = some (.lst es) ∧ le ≠ p ∧ es.length = 20 ∧ Errs [C0, C1, C2, C3, C4, C5, C6, C7, C8, C9, C10, C11, C12, C13, C14, C15, C16, C17, C18, C19] H' es ∧ Pen H' p (3 * i + 2), ?_, ?_⟩
      · refine ⟨_, rfl, _, rfl, fun a16 n16 => ⟨_, rfl, fun a17 n17 => ⟨_, rfl, fun a18 n18 => ⟨_, rfl, fun a19 n19 => ⟨(by show 4 ≤ sizeLine; decide), fun l hl => ?_⟩⟩⟩⟩⟩
        have E17 := (hE.same (same_upd (o := ExO (.ref C16) a16) n16)).snoc (exO_at upd_same) (D := C16) (by simp only [List.length_append, List.length_cons, List.length_nil, hlen]; rfl)
        have E18 := (E17.same (same_upd (o := ExO (.ref C17) a17) n17)).snoc (exO_at upd_same) (D := C17) (by simp only [List.length_append, List.length_cons, List.length_nil, hlen]; rfl)
        have E19 := (E18.same (same_upd (o := ExO (.ref C18) a18) n18)).snoc (exO_at upd_same) (D := C18) (by simp only [List.length_append, List.length_cons, List.length_nil, hlen]; rfl)
        have E20 := (E19.same (same_upd (o := ExO (.ref C19) a19) n19)).snoc (exO_at upd_same) (D := C19) (by simp only [List.length_append, List.length_cons, List.length_nil, hlen]; rfl)
        have st := ((((same_upd (o := ExO (.ref C16) a16) n16).trans (same_upd (o := ExO (.ref C17) a17) n17)).trans (same_upd (o := ExO (.ref C18) a18) n18)).trans (same_upd (o := ExO (.ref C19) a19) n19))
        refine ⟨le, l, es, _, rfl, rfl, same_upd hl _ _ (st _ _ hle), upd_same, (by rw [hlen]; show 20 ≤ sizeLine; decide), fun r hr2 => ?_⟩
        have s5 := (st.trans (same_upd (o := HO.lst [V.ref a16, V.ref a17, V.ref a18, V.ref a19]) hl)).trans (same_upd (o := HO.lst (es ++ [V.ref a16, V.ref a17, V.ref a18, V.ref a19])) hr2)
        refine ⟨r, _, rfl, upd_same, new_ne ((hP.same st).same (same_upd hl)) hr2, ?_, ?_, hP.same s5⟩
        · simp only [List.length_append, List.length_cons, List.length_nil, hlen]
        · have E' := (E20.same (same_upd (o := HO.lst [V.ref a16, V.ref a17, V.ref a18, V.ref a19]) hl)).same (same_upd (o := HO.lst (es ++ [V.ref a16, V.ref a17, V.ref a18, V.ref a19])) hr2)
          simp only [List.append_assoc, List.cons_append, List.nil_append] at E'
          exact E'
      rintro σ H ⟨le, es, rfl, hle, nle, hlen, hE, hP⟩
      -- caught
      refine ⟨fun σ H' => σ = [some (.ref a), some (.ref p), some (.int (0 + (i : Int))), some (.str z), some (.ref le), some .non, v6, v7, v8, v9] ∧ H' = H, ⟨rfl, rfl⟩, ?_⟩
      rintro σ H ⟨rfl, rfl⟩
      refine ⟨fun σ H' => ∃ ea : Addr, σ = [some (.ref a), some (.ref p), some (.int (0 + (i : Int))), some (.str z), some (.ref le), some (.ref ea), none, v7, v8, v9] ∧ H' le = some (.lst es) ∧ Errs [C0, C1, C2, C3, C4, C5, C6, C7, C8, C9, C10, C11, C12, C13, C14, C15, C16, C17, C18, C19] H' es ∧ ErrAt H' ea C7 ∧ Pen H' p (3 * i + 3), ?_, ?_⟩
      · refine ⟨_, rfl, p, 9, 3 * i + 2, rfl, hP, by omega, by decide, by decide, fun H1 k b1 hP1 k0 k1 => ⟨_, rfl, _, _, rfl, .inr (.inr (.inr ⟨7, -k, rfl, rfl, by omega, ?_⟩))⟩⟩
        refine ⟨TE.exm, rfl, C7, rfl, fun ea ha => ⟨_, rfl, fun ha2 => ?_⟩⟩
        have hE1 : Errs [C0, C1, C2, C3, C4, C5, C6, C7, C8, C9, C10, C11, C12, C13, C14, C15, C16, C17, C18, C19] H1 es := fun j v hv => by
          obtain ⟨b, e1, φ, e2, e3⟩ := hE j v hv
          obtain ⟨ys, e4⟩ := hP.ls
          exact ⟨b, e1, φ, b1 _ _ (ne_of e2 e4 (by intro z; cases z)) e2, e3⟩
        exact ⟨ea, rfl, same_upd ha _ _ (b1 _ _ nle hle), hE1.same (same_upd ha), errV_at, hP1.same (same_upd ha)⟩
      rintro σ H ⟨ea, rfl, hle, hE, hEa, hP⟩
      -- the caught one
      refine ⟨fun σ H' => σ = [some (.ref a), some (.ref p), some (.int (0 + (i : Int))), some (.str z), some (.ref le), some (.ref ea), none, v7, v8, v9] ∧ Same H H', ?_, ?_⟩
      · refine ⟨_, rfl, rfl, false, congrArg V.bl (decide_eq_false (by intro z; cases z)), iteF ?_⟩
        refine ⟨_, rfl, ea, 7, rfl, by decide, hEa, fun H2 p2 s2 n2 h2 => ?_⟩
        refine ⟨20, rfl, by decide, by decide, fun D nD => lc_range (lo := 0) (n := 20) (fun j H' => Same H2 H' ∧ H' D = some (.lst ((mark 7 j).map V.bl))) ⟨same_upd nD, upd_same⟩ ?_ ?_⟩
        · rintro j H' hj ⟨sj, hD⟩
          refine ⟨rfl, _, rfl, rfl, _, hD, ?_, fun b o e => ?_, ?_⟩
          · rw [List.length_map]
            unfold mark
            rw [List.length_map, List.length_range, sizeLine_eq]
            omega
          · rw [upd_ne (ne_of_none e nD)]
            exact sj _ _ e
          · rw [upd_same, ← mark_more, ← dec_nat]
            rfl
        · rintro H' ⟨sj, hD⟩
          exact ⟨_, _, dp_list (sj _ _ h2), dp_list hD, shaped_bools _, shaped_bools _, false, neL _, iteF ⟨rfl, s2.trans sj⟩⟩
      rintro σ H3 ⟨rfl, s3⟩
      -- each of the twenty
      refine ⟨_, rfl, le, es, rfl, SqL.of (s3 _ _ hle), for_it (walk_enum (K := K) (a := le) (xs := es)) (fun i2 σ H' => ∃ v7 v8 v9 : Option V, σ = [some (.ref a), some (.ref p), some (.int (0 + (i : Int))), some (.str z), some (.ref le), some (.ref ea), none, v7, v8, v9] ∧ Same H3 H')
        ⟨_, _, _, rfl, Same.refl _⟩ ?_ ?_ ?_⟩
      · rintro i2 σ H' _ ⟨_, _, _, _, sj⟩
        exact SqL.of (sj _ _ (s3 _ _ hle))
      · rintro i2 x σ H' H'' hi2 ⟨v7, v8, v9, rfl, sj⟩ ⟨T, x1, y, rfl, nT, rfl, ex, ey⟩
        obtain rfl : V.int (i2 : Nat) = x1 := Option.some.inj ex
        obtain ⟨b, rfl, hb⟩ := hE i2 y ey
        rw [hlen] at hi2
        have hF := err_of (mk i2 hi2)
        obtain ⟨_, hkL, hkV⟩ := up_of TE.up hi2
        have sT := (s3.trans sj).trans (same_upd (o := HO.tup [.int (i2 : Nat), .ref b]) nT)
        have hbT := hb.same sT
        refine ⟨T, _, rfl, SqT.of upd_same, rfl, _, _, rfl, _, _, rfl, rfl, ?_⟩
        have s6 := sj.trans (same_upd (o := HO.tup [.int (i2 : Nat), .ref b]) nT)
        refine ⟨fun σ H' => ∃ v9, σ = [some (.ref a), some (.ref p), some (.int (0 + (i : Int))), some (.str z), some (.ref le), some (.ref ea), none, some (.int (i2 : Nat)), some (.ref b), v9] ∧ Same (upd H' T (HO.tup [.int (i2 : Nat), .ref b])) (upd H' T (HO.tup [.int (i2 : Nat), .ref b])) ∧ Same H3 H' ∧ ErrAt H' b ([C0, C1, C2, C3, C4, C5, C6, C7, C8, C9, C10, C11, C12, C13, C14, C15, C16, C17, C18, C19].getD i2 0), ?_, ?_⟩
        · refine ⟨_, rfl, b, i2, rfl, hi2, hbT, fun H2 p2 s2 n2 h2 => ?_⟩
          refine ⟨20, rfl, by decide, by decide, fun D nD => lc_range (lo := 0) (n := 20) (fun j H' => Same H2 H' ∧ H' D = some (.lst ((mark i2 j).map V.bl))) ⟨same_upd nD, upd_same⟩ ?_ ?_⟩
          · rintro j H' hj ⟨sj2, hD⟩
            refine ⟨rfl, _, rfl, _, rfl, rfl, _, hD, ?_, fun b o e => ?_, ?_⟩
            · rw [List.length_map]
              unfold mark
              rw [List.length_map, List.length_range, sizeLine_eq]
              omega
            · rw [upd_ne (ne_of_none e nD)]
              exact sj2 _ _ e
            · rw [upd_same, ← mark_more, ← dec_nat]
          · rintro H' ⟨sj2, hD⟩
            exact ⟨_, _, dp_list (sj2 _ _ h2), dp_list hD, shaped_bools _, shaped_bools _, false, neL _, iteF ⟨_, rfl, Same.refl _, s6.trans (s2.trans sj2), hbT.same (s2.trans sj2)⟩⟩
        rintro σ H4 ⟨v9, rfl, _, s7, hb4⟩
        exact ⟨_, rfl, b, _, _, _, _, rfl, hb4, hF, .own _, hkL, _, rfl, iteF ⟨_, rfl, b, _, _, _, _, rfl, hb4, hF, .ty _, hkV, _, rfl, iteF ⟨_, _, _, rfl, s7⟩⟩⟩
      · rintro σ H' ⟨v7, v8, v9, rfl, sj⟩
        exact ⟨_, _, _, _, _, _, _, _, rfl, ((hP.same s3).same sj).mono (by omega)⟩
    · rintro σ H' ⟨v2, v3, v4, v5, v6, v7, v8, v9, rfl, _⟩
      exact q _
end
end My
/-! ### what the top has written, the head -/
namespace My
open PySem PySem.Spec PyProof.Rows L2
theorem excC_of {K : PySem.W.Frag} {mg : Str → Option Value} {x : Str} {D : Addr} (g : mg x = some (.ref D)) (h : mkFacts K D = true) : ExcC K mg x D := by
  unfold mkFacts at h
  simp only [Bool.and_eq_true, beq_iff_eq] at h
  exact ⟨g, h.1, h.2.1, h.2.2.1, h.2.2.2.1⟩
theorem all_mk {l : PySem.W.OpenLaw} {w : World} {K : PySem.W.Frag} {h : Heap} {mg : Str → Option Value} {fa C0 C1 C2 C3 C4 C5 C6 C7 C8 C9 C10 C11 C12 C13 C14 C15 C16 C17 C18 C19 CL : Addr} {f1 f2 f3 f4 f5 f9 f12 f13 f19 : Addr} {od1 od2 od3 od4 od5 od9 od12 od13 od19 an1 an2 an3 an4 an5 an9 an12 an13 an19 : Option Addr} {sl1 sl2 sl3 sl4 sl5 sl9 sl12 sl13 sl19 : Array (Option Value)} {oc1 oc2 oc3 oc4 oc5 oc9 oc12 oc13 oc19 kV1 kV2 kV3 kV4 kV5 kV9 kV12 kV13 kV19 dc1 dc2 dc3 dc4 dc5 dc9 dc12 dc13 dc19 pm1 pm2 pm3 pm4 pm5 pm9 pm12 pm13 pm19 cd1 cd2 cd3 cd4 cd5 cd9 cd12 cd13 cd19 ct1 ct2 ct3 ct4 ct5 ct9 ct12 ct13 ct19 : Value}
    (X : K.In h) (G : h.Ns mainGlobals mg) (hfa : mg "law" = some (.ref fa))
    (a1 : PySem.W.nsIn K mainGlobals "_law_spread" = some (some (.ref f1)))
    (l1 : K.lookup f1 = some ⟨oc1, od1, .func (PySem.W.fnOf "_law_spread" "_law_spread" (defArgs sSpread) (defBody sSpread) (defScope sSpread) .none kV1 dc1 pm1 an1 cd1 ct1), sl1⟩)
    (c1 : PySem.W.codeIn K cd1 "_law_spread" = true) (k1 : PySem.W.keepIn K (.ref f1) = true)
    (a2 : PySem.W.nsIn K mainGlobals "_law_open" = some (some (.ref f2)))
    (l2 : K.lookup f2 = some ⟨oc2, od2, .func (PySem.W.fnOf "_law_open" "_law_open" (defArgs sOpen) (defBody sOpen) (defScope sOpen) .none kV2 dc2 pm2 an2 cd2 ct2), sl2⟩)
    (c2 : PySem.W.codeIn K cd2 "_law_open" = true) (k2 : PySem.W.keepIn K (.ref f2) = true)
    (a3 : PySem.W.nsIn K mainGlobals "_law_take" = some (some (.ref f3)))
    (l3 : K.lookup f3 = some ⟨oc3, od3, .func (PySem.W.fnOf "_law_take" "_law_take" (defArgs sTake) (defBody sTake) (defScope sTake) .none kV3 dc3 pm3 an3 cd3 ct3), sl3⟩)
    (c3 : PySem.W.codeIn K cd3 "_law_take" = true) (k3 : PySem.W.keepIn K (.ref f3) = true)
    (a4 : PySem.W.nsIn K mainGlobals "_law_x_pick" = some (some (.ref f4)))
    (l4 : K.lookup f4 = some ⟨oc4, od4, .func (PySem.W.fnOf "_law_x_pick" "_law_x_pick" (defArgs sPick) (defBody sPick) (defScope sPick) .none kV4 dc4 pm4 an4 cd4 ct4), sl4⟩)
    (c4 : PySem.W.codeIn K cd4 "_law_x_pick" = true) (k4 : PySem.W.keepIn K (.ref f4) = true)
    (a5 : PySem.W.nsIn K mainGlobals "number_of" = some (some (.ref f5)))
    (l5 : K.lookup f5 = some ⟨oc5, od5, .func (PySem.W.fnOf "number_of" "number_of" (defArgs sNumberOf) (defBody sNumberOf) (defScope sNumberOf) .none kV5 dc5 pm5 an5 cd5 ct5), sl5⟩)
    (c5 : PySem.W.codeIn K cd5 "number_of" = true) (k5 : PySem.W.keepIn K (.ref f5) = true)
    (a9 : PySem.W.nsIn K mainGlobals "is_whole" = some (some (.ref f9)))
    (l9 : K.lookup f9 = some ⟨oc9, od9, .func (PySem.W.fnOf "is_whole" "is_whole" (defArgs sIsWhole) (defBody sIsWhole) (defScope sIsWhole) .none kV9 dc9 pm9 an9 cd9 ct9), sl9⟩)
    (c9 : PySem.W.codeIn K cd9 "is_whole" = true) (k9 : PySem.W.keepIn K (.ref f9) = true)
    (a12 : PySem.W.nsIn K mainGlobals "lowest" = some (some (.ref f12)))
    (l12 : K.lookup f12 = some ⟨oc12, od12, .func (PySem.W.fnOf "lowest" "lowest" (defArgs sLowest) (defBody sLowest) (defScope sLowest) .none kV12 dc12 pm12 an12 cd12 ct12), sl12⟩)
    (c12 : PySem.W.codeIn K cd12 "lowest" = true) (k12 : PySem.W.keepIn K (.ref f12) = true)
    (a13 : PySem.W.nsIn K mainGlobals "_law_x_classes" = some (some (.ref f13)))
    (l13 : K.lookup f13 = some ⟨oc13, od13, .func (PySem.W.fnOf "_law_x_classes" "_law_x_classes" (defArgs sClasses) (defBody sClasses) (defScope sClasses) .none kV13 dc13 pm13 an13 cd13 ct13), sl13⟩)
    (c13 : PySem.W.codeIn K cd13 "_law_x_classes" = true) (k13 : PySem.W.keepIn K (.ref f13) = true)
    (a19 : PySem.W.nsIn K mainGlobals "law" = some (some (.ref f19)))
    (l19 : K.lookup f19 = some ⟨oc19, od19, .func (PySem.W.fnOf "law" "law" (defArgs sLaw) (defBody sLaw) (defScope sLaw) .none kV19 dc19 pm19 an19 cd19 ct19), sl19⟩)
    (c19 : PySem.W.codeIn K cd19 "law" = true) (k19 : PySem.W.keepIn K (.ref f19) = true)
    (e0 : PySem.W.nsIn K mainGlobals "NoMachine" = some (some (.ref C0)))
    (e1 : PySem.W.nsIn K mainGlobals "NoPlain" = some (some (.ref C1)))
    (e2 : PySem.W.nsIn K mainGlobals "NoLetters" = some (some (.ref C2)))
    (e3 : PySem.W.nsIn K mainGlobals "NoRule" = some (some (.ref C3)))
    (e4 : PySem.W.nsIn K mainGlobals "NoRow" = some (some (.ref C4)))
    (e5 : PySem.W.nsIn K mainGlobals "NoWord" = some (some (.ref C5)))
    (e6 : PySem.W.nsIn K mainGlobals "NoNumber" = some (some (.ref C6)))
    (e7 : PySem.W.nsIn K mainGlobals "NoDivisor" = some (some (.ref C7)))
    (e8 : PySem.W.nsIn K mainGlobals "NoArena" = some (some (.ref C8)))
    (e9 : PySem.W.nsIn K mainGlobals "NoState" = some (some (.ref C9)))
    (e10 : PySem.W.nsIn K mainGlobals "NoMatch" = some (some (.ref C10)))
    (e11 : PySem.W.nsIn K mainGlobals "NoFactor" = some (some (.ref C11)))
    (e12 : PySem.W.nsIn K mainGlobals "NoWorth" = some (some (.ref C12)))
    (e13 : PySem.W.nsIn K mainGlobals "NoLetter" = some (some (.ref C13)))
    (e14 : PySem.W.nsIn K mainGlobals "NoUndo" = some (some (.ref C14)))
    (e15 : PySem.W.nsIn K mainGlobals "NoThings" = some (some (.ref C15)))
    (e16 : PySem.W.nsIn K mainGlobals "NoRunner" = some (some (.ref C16)))
    (e17 : PySem.W.nsIn K mainGlobals "NoLimit" = some (some (.ref C17)))
    (e18 : PySem.W.nsIn K mainGlobals "HasRow" = some (some (.ref C18)))
    (e19 : PySem.W.nsIn K mainGlobals "TooGreat" = some (some (.ref C19)))
    (eL : PySem.W.nsIn K mainGlobals "LaterError" = some (some (.ref CL))) (gcd : PySem.W.nsIn K mainGlobals "gcd" = some (some (.builtin "math.gcd")))
    (kall : kitAll K [C0, C1, C2, C3, C4, C5, C6, C7, C8, C9, C10, C11, C12, C13, C14, C15, C16, C17, C18, C19] = true) (kup : kitUp K [C0, C1, C2, C3, C4, C5, C6, C7, C8, C9, C10, C11, C12, C13, C14, C15, C16, C17, C18, C19] CL = true) (kx : PySem.W.exmOne K (.ref C7) (.ref CL) = some true)
    (z0 : PySem.W.nsIn K mainGlobals "int" = some none)
    (z1 : PySem.W.nsIn K mainGlobals "list" = some none)
    (z2 : PySem.W.nsIn K mainGlobals "len" = some none)
    (z3 : PySem.W.nsIn K mainGlobals "enumerate" = some none)
    (z4 : PySem.W.nsIn K mainGlobals "type" = some none)
    (z5 : PySem.W.nsIn K mainGlobals "isinstance" = some none)
    (z6 : PySem.W.nsIn K mainGlobals "ValueError" = some none)
    (z7 : PySem.W.nsIn K mainGlobals "range" = some none) :
    ∃ fd : FuncData, (∀ (s : Shared) (v : Value), BindsTo s fd ⟨[v], []⟩ [("script", v)]) ∧ ∀ base : Heap, K.In base → base.Ns mainGlobals mg → FnOk l.prog w K mg base CX0 6 fa fd ["script"] (spLaw K) := by
  cases hfa.symm.trans (PySem.W.mg_of X G a19)
  have F1 := fun_mk (st := sSpread) l1 c1 k1
  have b1 := F1.binds (ps := ["cell", "at"]) fun _ _ _ _ _ _ us hl => match us, hl with | [_, _], _ => rfl
  have F2 := fun_mk (st := sOpen) l2 c2 k2
  have b2 := F2.binds (ps := ["script"]) fun _ _ _ _ _ _ us hl => match us, hl with | [_], _ => rfl
  have F3 := fun_mk (st := sTake) l3 c3 k3
  have b3 := F3.binds (ps := ["pen", "many"]) fun _ _ _ _ _ _ us hl => match us, hl with | [_, _], _ => rfl
  have F4 := fun_mk (st := sPick) l4 c4 k4
  have b4 := F4.binds (ps := ["pen", "some"]) fun _ _ _ _ _ _ us hl => match us, hl with | [_, _], _ => rfl
  have F5 := fun_mk (st := sNumberOf) l5 c5 k5
  have b5 := F5.binds (ps := ["n", "d"]) fun _ _ _ _ _ _ us hl => match us, hl with | [_, _], _ => rfl
  have F9 := fun_mk (st := sIsWhole) l9 c9 k9
  have b9 := F9.binds (ps := ["thing"]) fun _ _ _ _ _ _ us hl => match us, hl with | [_], _ => rfl
  have F12 := fun_mk (st := sLowest) l12 c12 k12
  have b12 := F12.binds (ps := ["n", "d"]) fun _ _ _ _ _ _ us hl => match us, hl with | [_, _], _ => rfl
  have F13 := fun_mk (st := sClasses) l13 c13 k13
  have b13 := F13.binds (ps := ["one"]) fun _ _ _ _ _ _ us hl => match us, hl with | [_], _ => rfl
  have F19 := fun_mk (st := sLaw) l19 c19 k19
  have b19 := F19.binds (ps := ["script"]) fun _ _ _ _ _ _ us hl => match us, hl with | [_], _ => rfl
  have TP : PenTxt K mg f1 f2 f3 f4 _ _ _ _ := { int := PySem.W.mg_none_of X G z0, list := PySem.W.mg_none_of X G z1, len := PySem.W.mg_none_of X G z2, enumerate := PySem.W.mg_none_of X G z3, FSpread := F1, bSpread := b1, gSpread := PySem.W.mg_of X G a1, FOpen := F2, bOpen := b2, gOpen := PySem.W.mg_of X G a2, FTake := F3, bTake := b3, gTake := PySem.W.mg_of X G a3, FPick := F4, bPick := b4, gPick := PySem.W.mg_of X G a4 }
  have TE : Err33 K mg C0 C1 C2 C3 C4 C5 C6 C7 C8 C9 C10 C11 C12 C13 C14 C15 C16 C17 C18 C19 CL _ f13 := { isi := PySem.W.mg_none_of X G z5, ve := PySem.W.mg_none_of X G z6, range := PySem.W.mg_none_of X G z7, enumerate := PySem.W.mg_none_of X G z3, later := PySem.W.mg_of X G eL, c0 := PySem.W.mg_of X G e0, c1 := PySem.W.mg_of X G e1, c2 := PySem.W.mg_of X G e2, c3 := PySem.W.mg_of X G e3, c4 := PySem.W.mg_of X G e4, c5 := PySem.W.mg_of X G e5, c6 := PySem.W.mg_of X G e6, c7 := PySem.W.mg_of X G e7, c8 := PySem.W.mg_of X G e8, c9 := PySem.W.mg_of X G e9, c10 := PySem.W.mg_of X G e10, c11 := PySem.W.mg_of X G e11, c12 := PySem.W.mg_of X G e12, c13 := PySem.W.mg_of X G e13, c14 := PySem.W.mg_of X G e14, c15 := PySem.W.mg_of X G e15, c16 := PySem.W.mg_of X G e16, c17 := PySem.W.mg_of X G e17, c18 := PySem.W.mg_of X G e18, c19 := PySem.W.mg_of X G e19, all := kall, up := kup, exm := kx, FClasses := F13, bClasses := b13, gClasses := PySem.W.mg_of X G a13 }
  have mk : ∀ i, i < 20 → mkFacts K ([C0, C1, C2, C3, C4, C5, C6, C7, C8, C9, C10, C11, C12, C13, C14, C15, C16, C17, C18, C19].getD i 0) = true := fun i hi => (up_of kup hi).1
  have TN : NumC K mg f5 f9 f12 C6 C7 _ _ _ := { type := PySem.W.mg_none_of X G z4, int := PySem.W.mg_none_of X G z0, gcd := PySem.W.mg_of X G gcd, number := excC_of (PySem.W.mg_of X G e6) (mk 6 (by decide)), divisor := excC_of (PySem.W.mg_of X G e7) (mk 7 (by decide)), FNumberOf := F5, bNumberOf := b5, gNumberOf := PySem.W.mg_of X G a5, FIsWhole := F9, bIsWhole := b9, gIsWhole := PySem.W.mg_of X G a9, FLowest := F12, bLowest := b12, gLowest := PySem.W.mg_of X G a12 }
  exact ⟨_, fun s v => .of_eq rfl, fun base _ _ => ok_law F19 TP TN TE⟩
end My
open PySem PySem.W PyProof.Rows
set_option maxHeartbeats 0 in
theorem PySem.Challenge.cw_laterless_k33_errors_by_hand_holds : PySem.Challenge.rw_laterless_k33_errors_by_hand.Holds := by
  w_on; o_law; k_head; (case hw => w_witness2)
  k_fill
  refine L2.walk_of (l := PySem.Challenge.rw_laterless_k33_errors_by_hand) (n := 63) (k := 6) (x := "script") (CX := fun _ => L2.CX0) (sp := fun w => My.spLaw _) rfl (by decide) rfl ⟨rfl, by decide, by decide⟩ (fun w h Y => PySem.W.kIn_of Y) ?F (fun _ _ a ns hl _ hS => ⟨a, ns, rfl, hS, hl, fun _ => rfl⟩) (fun _ _ _ _ _ h => h)
  case F =>
    intro w mg fa h KX G hmg
    refine' My.all_mk KX G hmg ?a1 ?l1 ?c1 ?k1 ?a2 ?l2 ?c2 ?k2 ?a3 ?l3 ?c3 ?k3 ?a4 ?l4 ?c4 ?k4 ?a5 ?l5 ?c5 ?k5 ?a9 ?l9 ?c9 ?k9 ?a12 ?l12 ?c12 ?k12 ?a13 ?l13 ?c13 ?k13 ?a19 ?l19 ?c19 ?k19 ?e0 ?e1 ?e2 ?e3 ?e4 ?e5 ?e6 ?e7 ?e8 ?e9 ?e10 ?e11 ?e12 ?e13 ?e14 ?e15 ?e16 ?e17 ?e18 ?e19 ?eL ?gcd ?kall ?kup ?kx ?z0 ?z1 ?z2 ?z3 ?z4 ?z5 ?z6 ?z7
    (case a1 => k_is); (case l1 => k_is); (case c1 => k_is); (case k1 => k_is)
    (case a2 => k_is); (case l2 => k_is); (case c2 => k_is); (case k2 => k_is)
    (case a3 => k_is); (case l3 => k_is); (case c3 => k_is); (case k3 => k_is)
    (case a4 => k_is); (case l4 => k_is); (case c4 => k_is); (case k4 => k_is)
    (case a5 => k_is); (case l5 => k_is); (case c5 => k_is); (case k5 => k_is)
    (case a9 => k_is); (case l9 => k_is); (case c9 => k_is); (case k9 => k_is)
    (case a12 => k_is); (case l12 => k_is); (case c12 => k_is); (case k12 => k_is)
    (case a13 => k_is); (case l13 => k_is); (case c13 => k_is); (case k13 => k_is)
    (case a19 => k_is); (case l19 => k_is); (case c19 => k_is); (case k19 => k_is)
    (case e0 => k_is); (case e1 => k_is); (case e2 => k_is); (case e3 => k_is); (case e4 => k_is); (case e5 => k_is); (case e6 => k_is); (case e7 => k_is); (case e8 => k_is); (case e9 => k_is); (case e10 => k_is); (case e11 => k_is); (case e12 => k_is); (case e13 => k_is); (case e14 => k_is); (case e15 => k_is); (case e16 => k_is); (case e17 => k_is); (case e18 => k_is); (case e19 => k_is)
    (case eL => k_is); (case gcd => k_is)
    (case kall => kernel_rfl); (case kup => kernel_rfl); (case kx => kernel_rfl)
    (case z0 => k_is); (case z1 => k_is); (case z2 => k_is); (case z3 => k_is); (case z4 => k_is); (case z5 => k_is); (case z6 => k_is); (case z7 => k_is)
