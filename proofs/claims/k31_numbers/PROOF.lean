import PyProof.Rows.All
import Wide.All
import OpenK.AllK
import Wide.FinOn
import HandS.ForMost
import HandS.ForExc
import HandS.Wide
import HandS.Gcd
import HandS.Evl
import HandS.Walk
import HandS.More
import HandS.FStr
import HandS.IsInst
import HandS.RaiseMore
import HandS.Style
import HandS.ExcValue
import HandS.ExcIs
import HandS.Lambda
import HandS.EndTab
import HandS.EndOwn
import PyProof.TypeEq
import PyProof.ReprLen
import PySem.Challenge.RW_laterless_k31_numbers
set_option Elab.async false
set_option linter.all false
set_option maxRecDepth 100000
set_option maxHeartbeats 4000000
namespace My
open PySem PySem.Spec PyProof.Rows L2
/-! ### the text by places -/
def topS (i : Nat) : Stmt := PySem.Challenge.pw_laterless_k31_numbers.main.body.getD i (.Pass ⟨0, 0, 0, 0⟩)
abbrev sSpread : Stmt := topS 16
abbrev sOpen : Stmt := topS 17
abbrev sTake : Stmt := topS 18
abbrev sPick : Stmt := topS 19
theorem scSpread : FnScope ["cell", "at", "primes", "one", "two", "three"] ["cell", "at"] (defScope sSpread) := ⟨rfl, rfl, rfl, by decide +kernel, rfl, by decide +kernel, by decide +kernel⟩
theorem scOpen : FnScope ["script", "cells", "nth", "cell"] ["script"] (defScope sOpen) := ⟨rfl, rfl, rfl, by decide +kernel, rfl, by decide +kernel, by decide +kernel⟩
theorem scTake : FnScope ["pen", "many", "at", "cell", "found"] ["pen", "many"] (defScope sTake) := ⟨rfl, rfl, rfl, by decide +kernel, rfl, by decide +kernel, by decide +kernel⟩
theorem scPick : FnScope ["pen", "some"] ["pen", "some"] (defScope sPick) := ⟨rfl, rfl, rfl, by decide +kernel, rfl, by decide +kernel, by decide +kernel⟩
/-! ### heaps -/
theorem same_upd {H : Hp} {p : Addr} {o : HO} (h : H p = none) : Same H (upd H p o) := fun b x e => by
  rw [upd_ne (ne_of_none e h)]
  exact e
/-- all tracked things but the one at p stand as they stood -/
def But (p : Addr) (H H' : Hp) : Prop := ∀ b o, b ≠ p → H b = some o → H' b = some o
theorem But.of {p : Addr} {H H' : Hp} (s : Same H H') : But p H H' := fun b o _ e => s b o e
theorem But.trans {p : Addr} {H H1 H2 : Hp} (a : But p H H1) (b : But p H1 H2) : But p H H2 := fun c o n e => b c o n (a c o n e)
theorem but_upd {H : Hp} {p : Addr} {o : HO} : But p H (upd H p o) := fun b x n e => by
  rw [upd_ne n]
  exact e
/-- a pen stands at p: a list of the list of cells (at c), the number of cells read so far, at most n, and what is left of the last one -/
structure Pen (H : Hp) (p : Addr) (n : Nat) : Prop where
  ex : ∃ (c : Addr) (cs : List Int) (a r : Int), H p = some (.lst [.ref c, .int a, .int r]) ∧ H c = some (.lst (cs.map V.int)) ∧ c ≠ p ∧ cs.length ≤ 12 ∧ 0 ≤ a ∧ a ≤ (n : Int) ∧ 0 ≤ r
theorem Pen.same {H H' : Hp} {p : Addr} {n : Nat} (h : Pen H p n) (s : Same H H') : Pen H' p n := by
  obtain ⟨c, cs, a, r, h1, h2, h3⟩ := h.ex
  exact ⟨c, cs, a, r, s _ _ h1, s _ _ h2, h3⟩
theorem Pen.mono {H : Hp} {p : Addr} {n m : Nat} (h : Pen H p n) (l : n ≤ m) : Pen H p m := by
  obtain ⟨c, cs, a, r, h1, h2, h3, h4, h5, h6, h7⟩ := h.ex
  exact ⟨c, cs, a, r, h1, h2, h3, h4, h5, by omega, h7⟩
theorem Pen.ls {H : Hp} {p : Addr} {n : Nat} (h : Pen H p n) : ∃ xs, H p = some (.lst xs) := by
  obtain ⟨c, cs, a, r, h1, _⟩ := h.ex
  exact ⟨_, h1⟩
/-! ### the promises -/
def spSpread : Sp := fun vs H Q _ => ∃ (c a : Int), vs = [.int c, .int a] ∧ 0 ≤ a ∧ a < 1048576 ∧ ∀ H' r, Same H H' → 0 ≤ r → Q (.int r) H'
def spOpen (K : PySem.W.Frag) : Sp := fun vs H Q _ => ∃ (a : Addr) (ns : List Int), vs = [.ref a] ∧ SqL K H a (ns.map V.int) ∧ ns.length ≤ 63 ∧ ∀ H' p, Same H H' → H p = none → Pen H' p 0 → Q (.ref p) H'
def spTake : Sp := fun vs H Q _ => ∃ (p : Addr) (many : Int) (n : Nat), vs = [.ref p, .int many] ∧ Pen H p n ∧ n < 1048000 ∧ 0 < many ∧ many.natAbs.log2 < 9000 ∧ ∀ H' k, But p H H' → Pen H' p (n + 1) → 0 ≤ k → k < many → Q (.int k) H'
def spPick (K : PySem.W.Frag) : Sp := fun vs H Q _ => ∃ (p s : Addr) (xs : List V) (n : Nat), vs = [.ref p, .ref s] ∧ Pen H p n ∧ n < 1048000 ∧ SqL K H s xs ∧ s ≠ p ∧ 0 < xs.length ∧ xs.length ≤ 1000 ∧ ∀ (H' : Hp) (k : Nat) (v : V), But p H H' → Pen H' p (n + 1) → xs[(k : Nat)]? = some (v : V) → Q v H'
def primesV : List V := ([.int 2147483629, .int 2147483587, .int 2147483579, .int 2147483563, .int 2147483549, .int 2147483543, .int 2147483497, .int 2147483489] : List V) ++ [.int 2147483477, .int 2147483423, .int 2147483399, .int 2147483353, .int 2147483323]
theorem prime_at {k : Int} (h0 : 0 ≤ k) (h1 : k < 13) : ∃ m : Int, atI primesV k = some (.int m) ∧ 0 < m ∧ m < 2147483648 := by
  have h : k = 0 ∨ k = 1 ∨ k = 2 ∨ k = 3 ∨ k = 4 ∨ k = 5 ∨ k = 6 ∨ k = 7 ∨ k = 8 ∨ k = 9 ∨ k = 10 ∨ k = 11 ∨ k = 12 := by omega
  rcases h with rfl | rfl | rfl | rfl | rfl | rfl | rfl | rfl | rfl | rfl | rfl | rfl | rfl <;> exact ⟨_, rfl, by decide, by decide⟩
theorem ixN_of {n : Nat} {i : Int} (h0 : 0 ≤ i) (h1 : i < (n : Int)) : ixN n i = some i.toNat := by
  unfold ixN
  rw [if_pos h0, if_pos h1]
theorem atI_int {cs : List Int} {i : Int} (h0 : 0 ≤ i) (h1 : i < (cs.length : Int)) : ∃ z : Int, atI (cs.map V.int) i = some (.int z) := by
  have h2 : i.toNat < cs.length := by omega
  refine ⟨cs[i.toNat], ?_⟩
  unfold atI
  rw [List.length_map, ixN_of h0 h1]
  show (cs.map V.int)[i.toNat]? = _
  rw [List.getElem?_map, List.getElem?_eq_getElem h2]
  rfl
theorem cut_ints (ns : List Int) (lo hi : Option Int) : cutV (ns.map V.int) lo hi = ((ns.drop (HT.sIx ns.length 0 lo)).take (HT.sIx ns.length ns.length hi - HT.sIx ns.length 0 lo)).map V.int := by
  unfold cutV
  rw [List.length_map, List.map_take, List.map_drop]
theorem cut_len (ns : List Int) (lo hi : Option Int) : ((ns.drop (HT.sIx ns.length 0 lo)).take (HT.sIx ns.length ns.length hi - HT.sIx ns.length 0 lo)).length = min (HT.sIx ns.length ns.length hi - HT.sIx ns.length 0 lo) (ns.length - HT.sIx ns.length 0 lo) := by
  rw [List.length_take, List.length_drop]
theorem int_of {ds : List Int} {i : Nat} {y : V} (h : (ds.map V.int)[i]? = some y) : i < ds.length ∧ ∃ d : Int, y = .int d := by
  rw [List.getElem?_map] at h
  cases e : ds[i]? with
  | none =>
    rw [e] at h
    cases h
  | some d =>
    rw [e] at h
    exact ⟨(List.getElem?_eq_some_iff.mp e).1, d, (Option.some.inj h).symm⟩
theorem mul_bd {x y m : Int} (h0 : 0 ≤ x) (h1 : x ≤ m) (h2 : 0 ≤ y) : 0 ≤ x * y ∧ x * y ≤ m * y := ⟨Int.mul_nonneg h0 h2, Int.mul_le_mul_of_nonneg_right h1 h2⟩
/-- what the top has left of the pen's defs and the built-ins that they call -/
structure PenTxt (K : PySem.W.Frag) (mg : Str → Option Value) (f1 f2 f3 f4 : Addr) (d1 d2 d3 d4 : FuncData) : Prop where
  int : mg "int" = none
  list : mg "list" = none
  len : mg "len" = none
  enumerate : mg "enumerate" = none
  FSpread : Fun K "_law_spread" "_law_spread" sSpread f1 d1
  bSpread : Binds K d1 ["cell", "at"] []
  gSpread : mg "_law_spread" = some (.ref f1)
  FOpen : Fun K "_law_open" "_law_open" sOpen f2 d2
  bOpen : Binds K d2 ["script"] []
  gOpen : mg "_law_open" = some (.ref f2)
  FTake : Fun K "_law_take" "_law_take" sTake f3 d3
  bTake : Binds K d3 ["pen", "many"] []
  gTake : mg "_law_take" = some (.ref f3)
  FPick : Fun K "_law_x_pick" "_law_x_pick" sPick f4 d4
  bPick : Binds K d4 ["pen", "some"] []
  gPick : mg "_law_x_pick" = some (.ref f4)
section
variable {P : Program} {w : World} {K : PySem.W.Frag} {mg : Str → Option Value} {base : Heap} {f1 f2 f3 f4 : Addr} {d1 d2 d3 d4 : FuncData}
theorem ok_spread (T : PenTxt K mg f1 f2 f3 f4 d1 d2 d3 d4) {k : Nat} : FnOk P w K mg base CX0 (k + 1) f1 d1 ["cell", "at"] spSpread := by
  have F := T.FSpread
  refine F.ok scSpread (fun vs H Q E h => ?_) (fun cdv A outer s H vs Q E hr h => ?_)
  · obtain ⟨c, a, rfl, _⟩ := h
    rfl
  · obtain ⟨c, a, rfl, a0, a1, q⟩ := h
    refine ⟨_, (pss_cons (ps_if (pt_cmpR op_ge (pv 0) (pe_op op_pow pe_int pe_int) (nomark _)) (pss_one (ps_ret (pv 0))) pss_nil)
 (pss_cons (ps_set (i := 2) scSpread.nd rfl (.inl rfl) (pe_lst (pa_cons pe_int (pa_cons pe_int (pa_cons pe_int (pa_cons pe_int (pa_cons pe_int (pa_cons pe_int (pa_cons pe_int (pa_cons pe_int pa_nil))))))))))
 (Evl.pss_cut (ps_set (i := 2) scSpread.nd rfl (.inl rfl) (pe_op op_cat (pv 2) (pe_lst (pa_cons pe_int (pa_cons pe_int (pa_cons pe_int (pa_cons pe_int (pa_cons pe_int pa_nil))))))))
 (Evl.pss_cut (ps_set (i := 3) scSpread.nd rfl (.inl rfl) (pe_op op_mul (pe_op op_mod (pe_callTy call_int1 (by rfl) T.int (by decide +kernel) (pa_cons (pv 0) pa_nil)) pe_int) (pe_op op_add (pe_op op_mul pe_int (pv 1)) pe_int)))
 (Evl.pss_cut (ps_set (i := 3) scSpread.nd rfl (.inl rfl) (pe_op op_mod (pe_callTy call_int1 (by rfl) T.int (by decide +kernel) (pa_cons (pe_op op_pow (pe_op op_add (pe_op op_add (pv 3) (pe_op op_mul (pv 1) pe_int)) pe_int) pe_int) pa_nil)) (pe_ix ix_list (pv 2) (pe_op op_mod (pe_callTy call_int1 (by rfl) T.int (by decide +kernel) (pa_cons (pv 1) pa_nil)) pe_int) (fun _ _ => rfl))))
 (Evl.pss_cut (ps_set (i := 4) scSpread.nd rfl (.inl rfl) (pe_op op_mod (pe_callTy call_int1 (by rfl) T.int (by decide +kernel) (pa_cons (pe_op op_pow (pe_op op_add (pe_op op_add (pe_op op_mul (pv 3) (pe_op op_add (pv 1) pe_int)) (pe_op op_mod (pe_callTy call_int1 (by rfl) T.int (by decide +kernel) (pa_cons (pv 0) pa_nil)) pe_int)) pe_int) pe_int) pa_nil)) (pe_ix ix_list (pv 2) (pe_op op_mod (pe_callTy call_int1 (by rfl) T.int (by decide +kernel) (pa_cons (pe_op op_add (pv 1) pe_int) pa_nil)) pe_int) (fun _ _ => rfl))))
 (Evl.pss_cut (ps_set (i := 5) scSpread.nd rfl (.inl rfl) (pe_op op_mod (pe_callTy call_int1 (by rfl) T.int (by decide +kernel) (pa_cons (pe_op op_pow (pe_op op_add (pe_op op_add (pv 4) (pe_op op_mod (pe_callTy call_int1 (by rfl) T.int (by decide +kernel) (pa_cons (pv 3) pa_nil)) pe_int)) (pv 1)) pe_int) pa_nil)) (pe_ix ix_list (pv 2) (pe_op op_mod (pe_callTy call_int1 (by rfl) T.int (by decide +kernel) (pa_cons (pe_op op_add (pv 1) pe_int) pa_nil)) pe_int) (fun _ _ => rfl))))
 (pss_one (ps_ret (pe_op op_add (pe_op op_mul (pe_op op_add (pe_op op_mul (pv 3) pe_int) (pv 4)) pe_int) (pv 5))))))))))), ?_⟩
    refine ⟨.int c, rfl, 10, 18, rfl, rfl, ⟨by decide, by decide, by decide⟩, c, _, rfl, rfl, _, rfl, ite2 (fun e => ?_) (fun e => ?_)⟩
    · have e' := of_decide_eq_true e
      exact ⟨_, rfl, q H c (Same.refl H) (Int.le_trans (by decide) e')⟩
    · refine ⟨(by show 8 ≤ sizeLine; decide), fun p hp => ?_⟩
      refine ⟨fun σ H' => ∃ l, σ = [some (.int c), some (.int a), some (.ref l), none, none, none] ∧ Same H H' ∧ SqL K H' l primesV, ?_, ?_⟩
      · refine ⟨_, rfl, (by show 5 ≤ sizeLine; decide), fun p2 hp2 => ?_⟩
        have n12 : p ≠ p2 := ne_of_none upd_same hp2
        exact ⟨p, p2, _, _, rfl, rfl, (by rw [upd_ne n12]; exact upd_same), upd_same, (by show 13 ≤ sizeLine; decide), fun l hl => ⟨l, rfl, ((same_upd hp).trans (same_upd hp2)).trans (same_upd hl), SqL.of upd_same⟩⟩
      rintro σ H3 ⟨l, rfl, s3, hS⟩
      -- one
      refine ⟨fun σ H' => ∃ one : Int, σ = [some (.int c), some (.int a), some (.ref l), some (.int one), none, none] ∧ H' = H3 ∧ 0 ≤ one ∧ one ≤ 1000000006 * (2 * a + 69069), ?_, ?_⟩
      · have c1 := Int.emod_nonneg c (show (1000000007 : Int) ≠ 0 by decide)
        have c2 := Int.emod_lt_of_pos c (show (0 : Int) < 1000000007 by decide)
        obtain ⟨o1, o2⟩ := mul_bd c1 (show c % 1000000007 ≤ 1000000006 by omega) (show 0 ≤ 2 * a + 69069 by omega)
        exact ⟨_, rfl, .inl ⟨_, rfl, _, _, rfl, rfl, (by show (0 : Int) < 1000000007; decide), _, rfl, _, _, rfl, rfl, .inl ⟨by decide, by decide⟩, _, _, rfl, rfl, _, _, rfl, rfl, .inl ⟨(by omega), (by omega)⟩, _, rfl, rfl, o1, o2⟩⟩
      rintro σ H3 ⟨one, rfl, rfl, o1, o2⟩
      refine ⟨fun σ H' => ∃ one : Int, σ = [some (.int c), some (.int a), some (.ref l), some (.int one), none, none] ∧ H' = H3 ∧ 0 ≤ one ∧ one < 2147483648, ?_, ?_⟩
      · obtain ⟨m, hm, m0, m1⟩ := prime_at (Int.emod_nonneg a (show (13 : Int) ≠ 0 by decide)) (Int.emod_lt_of_pos a (show (0 : Int) < 13 by decide))
        have u1 := Int.emod_nonneg ((one + a * 40503 + 977) ^ (3 : Int).toNat) (show m ≠ 0 by omega)
        have u2 := Int.emod_lt_of_pos ((one + a * 40503 + 977) ^ (3 : Int).toNat) m0
        refine ⟨_, rfl, _, rfl, _, _, rfl, rfl, .inl ⟨(by omega), (by omega)⟩, _, _, rfl, rfl, _, _, rfl, rfl, _, _, rfl, rfl, ⟨by decide, by decide, (by omega)⟩, .inl ⟨_, rfl, ?_⟩⟩
        exact ⟨_, rfl, _, rfl, .inl ⟨_, rfl, _, _, rfl, rfl, (by show (0 : Int) < 13; decide), l, _, _, _, rfl, rfl, hS, hm, _, _, rfl, rfl, m0, _, rfl, rfl, u1, Int.lt_trans u2 m1⟩⟩
      rintro σ H3 ⟨one, rfl, rfl, p1, p2⟩
      -- two
      refine ⟨fun σ H' => ∃ two : Int, σ = [some (.int c), some (.int a), some (.ref l), some (.int one), some (.int two), none] ∧ H' = H3 ∧ 0 ≤ two ∧ two < 2147483648, ?_, ?_⟩
      · have d1 := Int.emod_nonneg c (show (65537 : Int) ≠ 0 by decide)
        have d2 := Int.emod_lt_of_pos c (show (0 : Int) < 65537 by decide)
        obtain ⟨o1, o2⟩ := mul_bd p1 (show one ≤ 2147483647 by omega) (show 0 ≤ a + 3 by omega)
        obtain ⟨m, hm, m0, m1⟩ := prime_at (Int.emod_nonneg (a + 5) (show (13 : Int) ≠ 0 by decide)) (Int.emod_lt_of_pos (a + 5) (show (0 : Int) < 13 by decide))
        have u1 := Int.emod_nonneg ((one * (a + 3) + c % 65537 + 5) ^ (5 : Int).toNat) (show m ≠ 0 by omega)
        have u2 := Int.emod_lt_of_pos ((one * (a + 3) + c % 65537 + 5) ^ (5 : Int).toNat) m0
        refine ⟨_, rfl, _, rfl, _, _, rfl, rfl, _, _, rfl, rfl, .inl ⟨(by omega), (by omega)⟩, _, rfl, .inl ⟨_, rfl, _, _, rfl, rfl, (by show (0 : Int) < 65537; decide), _, _, rfl, rfl, _, _, rfl, rfl, _, _, rfl, rfl, ⟨by decide, by decide, (by omega)⟩, .inl ⟨_, rfl, ?_⟩⟩⟩
        exact ⟨_, rfl, _, rfl, _, _, rfl, rfl, .inl ⟨_, rfl, _, _, rfl, rfl, (by show (0 : Int) < 13; decide), l, _, _, _, rfl, rfl, hS, hm, _, _, rfl, rfl, m0, _, rfl, rfl, u1, Int.lt_trans u2 m1⟩⟩
      rintro σ H3 ⟨two, rfl, rfl, q1, q2⟩
      -- three
      refine ⟨fun σ H' => ∃ three : Int, σ = [some (.int c), some (.int a), some (.ref l), some (.int one), some (.int two), some (.int three)] ∧ H' = H3 ∧ 0 ≤ three, ?_, ?_⟩
      · have e1 := Int.emod_nonneg one (show (1009 : Int) ≠ 0 by decide)
        have e2 := Int.emod_lt_of_pos one (show (0 : Int) < 1009 by decide)
        obtain ⟨m, hm, m0, m1⟩ := prime_at (Int.emod_nonneg (a + 7) (show (13 : Int) ≠ 0 by decide)) (Int.emod_lt_of_pos (a + 7) (show (0 : Int) < 13 by decide))
        have u1 := Int.emod_nonneg ((two + one % 1009 + a) ^ (3 : Int).toNat) (show m ≠ 0 by omega)
        refine ⟨_, rfl, _, rfl, .inl ⟨_, rfl, _, _, rfl, rfl, (by show (0 : Int) < 1009; decide), _, _, rfl, rfl, _, rfl, _, _, rfl, rfl, _, _, rfl, rfl, ⟨by decide, by decide, (by omega)⟩, .inl ⟨_, rfl, ?_⟩⟩⟩
        exact ⟨_, rfl, _, rfl, _, _, rfl, rfl, .inl ⟨_, rfl, _, _, rfl, rfl, (by show (0 : Int) < 13; decide), l, _, _, _, rfl, rfl, hS, hm, _, _, rfl, rfl, m0, _, rfl, rfl, u1⟩⟩
      rintro σ H3 ⟨three, rfl, rfl, r1⟩
      exact ⟨_, rfl, _, _, rfl, rfl, .inr ⟨by decide, by decide⟩, _, rfl, _, _, rfl, rfl, _, _, rfl, rfl, .inr ⟨by decide, by decide⟩, _, rfl, _, _, rfl, rfl, q H3 _ s3 (by omega)⟩
theorem ok_open (T : PenTxt K mg f1 f2 f3 f4 d1 d2 d3 d4) {k : Nat} : FnOk P w K mg base CX0 (k + 1) f2 d2 ["script"] (spOpen K) := by
  have F := T.FOpen
  refine F.ok scOpen (fun vs H Q E h => ?_) (fun cdv A outer s H vs Q E hr h => ?_)
  · obtain ⟨c, a, rfl, _⟩ := h
    rfl
  · obtain ⟨a, ns, rfl, hS, hl, q⟩ := h
    refine ⟨_, (Evl.pss_cut (ps_set (i := 1) scOpen.nd rfl (.inl rfl) (pe_callTy call_list_of (by rfl) T.list (by decide +kernel) (pa_cons (pe_slice sl_list (pv 0) po_none (po_some pe_int)) pa_nil)))
 (pss_cons (ps_for PassesOwn.never rfl (pi_enum (by rfl) T.enumerate (pa_cons (pe_slice sl_list (pv 0) (po_some pe_int) (po_some pe_int)) pa_nil)) (pg_tup rfl (pgs_cons (pg_name (i := 2) scOpen.nd rfl (.inl rfl)) (pgs_cons (pg_name (i := 3) scOpen.nd rfl (.inl rfl)) pgs_nil)))
 (pss_one (ps_asg (pe_op op_add (pe_ix ix_list (pv 1) (pe_op op_mod (pe_callTy call_int1 (by rfl) T.int (by decide +kernel) (pa_cons (pv 2) pa_nil)) pe_int) (fun _ _ => rfl)) (pv 3)) (pg_sub (pv 1) (pe_op op_mod (pe_callTy call_int1 (by rfl) T.int (by decide +kernel) (pa_cons (pv 2) pa_nil)) pe_int) set_list))))
 (pss_one (ps_ret (pe_lst (pa_cons (pv 1) (pa_cons pe_int (pa_cons pe_int pa_nil)))))))), ?_⟩
    -- cells
    refine ⟨fun σ H' => ∃ (c : Addr) (cs : List Int), σ = [some (.ref a), some (.ref c), none, none] ∧ Same H H' ∧ H c = none ∧ H' c = some (.lst (cs.map V.int)) ∧ cs.length = min 12 ns.length, ?_, ?_⟩
    · refine ⟨.ref a, rfl, 12, rfl, a, ns.map V.int, rfl, hS, fun c nc => ⟨c, _, rfl, .inl (SqL.of upd_same), fun l hl => ⟨l, (ns.drop (HT.sIx ns.length 0 none)).take (HT.sIx ns.length ns.length (some 12) - HT.sIx ns.length 0 none), rfl, (same_upd nc).trans (same_upd hl), (same_upd nc).free hl, ?_, ?_⟩⟩⟩
      · rw [upd_same, cut_ints]
      · rw [cut_len]
        rw [HT.sIx_none, show HT.sIx ns.length ns.length (some 12) = min 12 ns.length from HT.sIx_nat ns.length ns.length 12]
        omega
    rintro σ H1 ⟨c, cs, rfl, s1, nc, hC, lC⟩
    have hS1 : SqL K H1 a (ns.map V.int) := s1.seq hS
    refine ⟨.ref a, rfl, 12, rfl, 63, rfl, a, ns.map V.int, rfl, hS1, fun d nd => ⟨d, _, rfl, SqL.of upd_same, ?_⟩⟩
    have s2 : Same H1 (upd H1 d (.lst (cutV (ns.map V.int) (some 12) (some 63)))) := same_upd nd
    rw [cut_ints] at s2 ⊢
    have l2 := cut_len ns (some 12) (some 63)
    rw [show HT.sIx ns.length 0 (some 12) = min 12 ns.length from HT.sIx_nat ns.length 0 12] at l2 s2 ⊢
    have hd : (upd H1 d (.lst ((List.take (HT.sIx ns.length ns.length (some 63) - min 12 ns.length) (List.drop (min 12 ns.length) ns)).map V.int))) d = some (.lst ((List.take (HT.sIx ns.length ns.length (some 63) - min 12 ns.length) (List.drop (min 12 ns.length) ns)).map V.int)) := upd_same
    generalize (List.take (HT.sIx ns.length ns.length (some 63) - min 12 ns.length) (List.drop (min 12 ns.length) ns)) = ds at s2 l2 hd ⊢
    have ncd : c ≠ d := ne_of_none hC nd
    refine for_it (walk_enum (K := K) (a := d) (xs := ds.map V.int)) (fun i σ H' => ∃ (v2 v3 : Option V) (cs : List Int), σ = [some (.ref a), some (.ref c), v2, v3] ∧ Same H H' ∧ H' c = some (.lst (cs.map V.int)) ∧ cs.length = min 12 ns.length ∧ H' d = some (.lst (ds.map V.int)))
      ⟨none, none, cs, rfl, s1.trans s2, s2 _ _ hC, lC, hd⟩ ?_ ?_ ?_
    · rintro i σ H' _ ⟨_, _, _, _, _, _, _, h⟩
      exact SqL.of h
    · rintro i x σ H' H'' hi ⟨v2, v3, cs, rfl, s3, hC, lC, hD⟩ ⟨T, x1, y, rfl, nT, rfl, ex, ey⟩
      obtain rfl : V.int (i : Nat) = x1 := Option.some.inj ex
      obtain ⟨hi2, z, rfl⟩ := int_of ey
      have c12 : cs.length = 12 := by omega
      have sT : Same H' (upd H' T (.tup [.int (i : Nat), .int z])) := same_upd nT
      have hC' := sT _ _ hC
      have m0 := Int.emod_nonneg ((i : Nat) : Int) (show (12 : Int) ≠ 0 by decide)
      have m1 := Int.emod_lt_of_pos ((i : Nat) : Int) (show (0 : Int) < 12 by decide)
      obtain ⟨u, hu⟩ := atI_int (cs := cs) m0 (by omega)
      refine ⟨T, _, rfl, SqT.of upd_same, rfl, _, _, rfl, _, _, rfl, rfl, ?_⟩
      refine ⟨_, rfl, _, rfl, .inl ⟨_, rfl, _, _, rfl, rfl, (by show (0 : Int) < 12; decide), c, _, _, _, rfl, rfl, SqL.of hC', hu, _, rfl, _, _, rfl, rfl, _, rfl, _, rfl, .inl ⟨_, rfl, _, _, rfl, rfl, (by show (0 : Int) < 12; decide), c, _, _, _, rfl, rfl, hC', ixN_of m0 (by rw [List.length_map]; omega), ?_⟩⟩⟩
      refine ⟨_, _, cs.set ((i : Int) % 12).toNat (u + z), rfl, fun b o e => ?_, ?_, by rw [List.length_set]; exact lC, ?_⟩
      · have nb : b ≠ c := fun q => by
          rw [q, nc] at e
          cases e
        rw [upd_ne nb]
        exact sT _ _ (s3 _ _ e)
      · rw [upd_same, List.map_set]
      · rw [upd_ne ncd.symm]
        exact sT _ _ hD
    · rintro σ H' ⟨v2, v3, cs, rfl, s3, hC, lC, hD⟩
      refine ⟨_, rfl, (by show 3 ≤ sizeLine; decide), fun p hp => q _ p (s3.trans (same_upd hp)) (s3.free hp) ⟨c, cs, 0, 0, upd_same, ?_, ne_of_none hC hp, by omega, by decide, by decide, by decide⟩⟩
      exact same_upd hp _ _ hC
theorem ok_take (T : PenTxt K mg f1 f2 f3 f4 d1 d2 d3 d4) {k : Nat} : FnOk P w K mg base CX0 (k + 2) f3 d3 ["pen", "many"] spTake := by
  have F := T.FTake
  have GS : FnOk P w K mg base CX0 (k + 1) f1 d1 ["cell", "at"] spSpread := ok_spread T
  refine F.ok scTake (fun vs H Q E h => ?_) (fun cdv A outer s H vs Q E hr h => ?_)
  · obtain ⟨c, a, n, rfl, _⟩ := h
    rfl
  · obtain ⟨p, many, n, rfl, hP, hn, m0, m1, q⟩ := h
    refine ⟨_, (Evl.pss_cut (ps_if (pt_cmpR op_lt (pe_ix ix_list (pv 0) pe_int (fun _ _ => rfl)) (pv 1) (nomark _)) (pss_cons (ps_set (i := 2) scTake.nd rfl (.inl rfl) (pe_ix ix_list (pv 0) pe_int (fun _ _ => rfl)))
 (pss_cons (ps_set (i := 3) scTake.nd rfl (.inl rfl) pe_int)
 (Evl.pss_cut (ps_if (pt_cmpR op_lt (pv 2) (pe_callB call_len_seq (by rfl) T.len PySem.boot_len (pa_cons (pe_ix ix_list (pv 0) pe_int (fun _ _ => rfl)) pa_nil)) (nomark _)) (pss_one (ps_set (i := 3) scTake.nd rfl (.inl rfl) (pe_ix ix_list (pe_ix ix_list (pv 0) pe_int (fun _ _ => rfl)) (pv 2) (fun _ _ => rfl)))) (pss_one (ps_if (pt_cmpR op_gt (pe_callB call_len_seq (by rfl) T.len PySem.boot_len (pa_cons (pe_ix ix_list (pv 0) pe_int (fun _ _ => rfl)) pa_nil)) pe_int (nomark _)) (pss_one (ps_set (i := 3) scTake.nd rfl (.inl rfl) (pe_op op_mod (pe_callTy call_int1 (by rfl) T.int (by decide +kernel) (pa_cons (pe_ix ix_list (pe_ix ix_list (pv 0) pe_int (fun _ _ => rfl)) (pe_op op_mod (pe_callTy call_int1 (by rfl) T.int (by decide +kernel) (pa_cons (pe_op op_add (pe_op op_mul (pv 2) pe_int) pe_int) pa_nil)) (pe_callB call_len_seq (by rfl) T.len PySem.boot_len (pa_cons (pe_ix ix_list (pv 0) pe_int (fun _ _ => rfl)) pa_nil))) (fun _ _ => rfl)) pa_nil)) (pe_op op_add (pe_op op_pow pe_int pe_int) (pv 2))))) pss_nil)))
 (pss_cons (ps_asg (pe_op op_add (pv 2) pe_int) (pg_sub (pv 0) pe_int set_list))
 (pss_one (ps_asg (pe_call GS hr (by rfl) T.gSpread T.FSpread.kp T.bSpread .nil pass0 (pa_cons (pv 3) (pa_cons (pv 2) pa_nil))) (pg_sub (pv 0) pe_int set_list))))))) pss_nil)
 (pss_cons (ps_set (i := 4) scTake.nd rfl (.inl rfl) (pe_op op_mod (pe_callTy call_int1 (by rfl) T.int (by decide +kernel) (pa_cons (pe_ix ix_list (pv 0) pe_int (fun _ _ => rfl)) pa_nil)) (pv 1)))
 (pss_cons (ps_asg (pe_op op_fdivW (pe_ix ix_list (pv 0) pe_int (fun _ _ => rfl)) (pv 1)) (pg_sub (pv 0) pe_int set_list))
 (pss_one (ps_ret (pv 4)))))), ?_⟩
    obtain ⟨c, cs, a, r, hp, hc, ncp, lc, a0, a1, r0⟩ := hP.ex
    refine ⟨fun σ H' => ∃ v2 v3, σ = [some (.ref p), some (.int many), v2, v3, none] ∧ But p H H' ∧ Pen H' p (n + 1), ?_, ?_⟩
    · refine ⟨_, rfl, p, _, 2, .int r, rfl, rfl, SqL.of hp, atI_nat (j := 2) rfl, _, rfl, _, _, rfl, rfl, _, rfl, ite2 (fun _ => ?_) (fun _ => ?_)⟩
      · refine ⟨_, rfl, p, _, 1, .int a, rfl, rfl, SqL.of hp, atI_nat (j := 1) rfl, ?_⟩
        refine ⟨fun σ H' => ∃ z : Int, σ = [some (.ref p), some (.int many), some (.int a), some (.int z), none] ∧ H' = H, ?_, ?_⟩
        · refine ⟨_, rfl, _, rfl, p, _, 0, .ref c, rfl, rfl, SqL.of hp, atI_nat (j := 0) rfl, c, _, rfl, .inl (SqL.of hc), _, _, rfl, rfl, _, rfl, ite2 (fun e => ?_) (fun e => ?_)⟩
          · have e' := of_decide_eq_true e
            rw [List.length_map] at e'
            obtain ⟨z, hz⟩ := atI_int (cs := cs) a0 e'
            exact ⟨_, rfl, p, _, 0, .ref c, rfl, rfl, SqL.of hp, atI_nat (j := 0) rfl, _, rfl, c, _, _, _, rfl, rfl, SqL.of hc, hz, z, rfl, rfl⟩
          · refine ⟨_, rfl, p, _, 0, .ref c, rfl, rfl, SqL.of hp, atI_nat (j := 0) rfl, c, _, rfl, .inl (SqL.of hc), _, _, rfl, rfl, _, rfl, ite2 (fun e => ?_) (fun e => ?_)⟩
            · have e' := of_decide_eq_true e
              rw [List.length_map] at e'
              have k0 := Int.emod_nonneg (a * 5 + 3) (show (cs.length : Int) ≠ 0 by omega)
              have k1 := Int.emod_lt_of_pos (a * 5 + 3) e'
              obtain ⟨z, hz⟩ := atI_int (cs := cs) k0 k1
              have el : (List.map V.int cs).length = cs.length := List.length_map ..
              refine ⟨_, rfl, p, _, 0, .ref c, rfl, rfl, SqL.of hp, atI_nat (j := 0) rfl, _, rfl, _, _, rfl, rfl, .inr ⟨by decide, by decide⟩, _, _, rfl, rfl, .inl ⟨_, rfl, _, rfl, p, _, 0, .ref c, rfl, rfl, SqL.of hp, atI_nat (j := 0) rfl, c, _, rfl, .inl (SqL.of hc), _, _, rfl, rfl, (by rw [el]; exact e'), c, _, _, _, rfl, rfl, SqL.of hc, (by rw [el]; exact hz), .inl ⟨_, rfl, _, _, rfl, rfl, ⟨by decide, by decide, by decide⟩, _, rfl, _, _, rfl, rfl, _, _, rfl, rfl, ?_, _, rfl, rfl⟩⟩⟩
              have : (10 : Int) ^ (17 : Int).toNat = 100000000000000000 := by decide
              show 0 < (10 : Int) ^ (17 : Int).toNat + a
              omega
            · exact ⟨0, rfl, rfl⟩
        rintro σ H ⟨z, rfl, rfl⟩
        refine ⟨_, rfl, _, _, rfl, rfl, _, rfl, p, _, 1, 1, rfl, rfl, hp, rfl, ?_⟩
        refine ⟨_, rfl, _, rfl, z, a, rfl, a0, by omega, fun H2 r2 s2 r20 => ?_⟩
        have hp2 := s2 _ _ upd_same
        refine ⟨_, rfl, p, _, 2, 2, rfl, rfl, hp2, rfl, _, _, rfl, ?_, ⟨c, cs, a + 1, r2, upd_same, ?_, ncp, lc, by omega, by omega, r20⟩⟩
        · exact (but_upd.trans (But.of s2)).trans but_upd
        · rw [upd_ne ncp]
          exact s2 _ _ (by rw [upd_ne ncp]; exact hc)
      · exact ⟨_, _, rfl, fun _ _ _ e => e, hP.mono (Nat.le_succ n)⟩
    rintro σ H1 ⟨v2, v3, rfl, b1, hP1⟩
    obtain ⟨c, cs, a, r, hp, hc, ncp, lc, a0, a1, r0⟩ := hP1.ex
    refine ⟨_, rfl, p, _, 2, .int r, rfl, rfl, SqL.of hp, atI_nat (j := 2) rfl, .inl ⟨_, rfl, _, rfl, _, _, rfl, rfl, m0, ?_⟩⟩
    refine ⟨_, rfl, p, _, 2, .int r, rfl, rfl, SqL.of hp, atI_nat (j := 2) rfl, _, rfl, _, _, rfl, rfl, ⟨m0, m1⟩, _, rfl, p, _, 2, 2, rfl, rfl, hp, rfl, ?_⟩
    refine ⟨_, rfl, q _ _ (b1.trans but_upd) ⟨c, cs, a, r / many, upd_same, ?_, ncp, lc, a0, a1, Int.ediv_nonneg r0 (Int.le_of_lt m0)⟩ (Int.emod_nonneg _ (by omega)) (Int.emod_lt_of_pos _ m0)⟩
    rw [upd_ne ncp]
    exact hc
theorem ok_pick (T : PenTxt K mg f1 f2 f3 f4 d1 d2 d3 d4) {k : Nat} : FnOk P w K mg base CX0 (k + 3) f4 d4 ["pen", "some"] (spPick K) := by
  have F := T.FPick
  have GT : FnOk P w K mg base CX0 (k + 2) f3 d3 ["pen", "many"] spTake := ok_take T
  refine F.ok scPick (fun vs H Q E h => ?_) (fun cdv A outer s H vs Q E hr h => ?_)
  · obtain ⟨c, a, xs, n, rfl, _⟩ := h
    rfl
  · obtain ⟨p, l, xs, n, rfl, hP, hn, hS, nlp, l0, l1, q⟩ := h
    refine ⟨_, (pss_one (ps_ret (pe_ix ix_list (pv 1) (pe_call GT hr (by rfl) T.gTake T.FTake.kp T.bTake .nil pass0 (pa_cons (pv 0) (pa_cons (pe_callB call_len_seq (by rfl) T.len PySem.boot_len (pa_cons (pv 1) pa_nil)) pa_nil))) (fun _ _ => rfl)))), ?_⟩
    refine ⟨_, rfl, _, rfl, _, rfl, l, xs, rfl, .inl hS, p, _, n, rfl, hP, hn, by omega, ?_, fun H1 k b1 hP1 k0 k1 => ?_⟩
    · have h2 : ((xs.length : Int)).natAbs ≤ 1000 := by omega
      have h3 : ((xs.length : Int)).natAbs.log2 ≤ ((xs.length : Int)).natAbs := Nat.log2_le_self _
      omega
    · have hk : k.toNat < xs.length := by omega
      have e : xs[k.toNat]? = some xs[k.toNat] := List.getElem?_eq_getElem hk
      have hS1 : SqL K H1 l xs := by
        rcases hS with (h | ⟨o, h⟩) | h
        · exact .inl (.inl (b1 _ _ nlp h))
        · exact .inl (.inr ⟨o, b1 _ _ nlp h⟩)
        · exact .inr h
      exact ⟨l, xs, k, _, rfl, rfl, hS1, at_of (by omega) e, q H1 k.toNat _ b1 hP1 e⟩
end
end My
/-! ### promises of defs that show data: they are called where nothing is being shown -/
namespace My
open PySem PySem.Spec PyProof.Rows L2
/-- a def's promise, at the surroundings A alone -/
def RunAt (P : Program) (w : World) (K : PySem.W.Frag) (mg : Str → Option Value) (base : Heap) (CX : CXT) (f : Addr) (fd : FuncData) (ps : List Str) (sp : Sp) (A : Around) : Prop :=
  ∀ (out : List Env) (st : Shared) (G : Hp) (ar : Args) (uu : List Value) (vv : List V) (R : VK) (W : XK), Env0 P w K mg base A out st G →
    BindsTo st fd ar (ps.zip uu) → Vals vv uu → sp vv G R W → codeAny (model P w) A (.call (.ref f) ar) (CR CX out P w G st R W) st
/-- .. wherever nothing is being shown -/
structure FnG (P : Program) (w : World) (K : PySem.W.Frag) (mg : Str → Option Value) (base : Heap) (CX : CXT) (k : Nat) (f : Addr) (fd : FuncData) (ps : List Str) (sp : Sp) : Prop where
  len : ∀ vs H Q E, sp vs H Q E → vs.length = ps.length
  run : ∀ A : Around, A.guards = some [] → Room k A → RunAt P w K mg base CX f fd ps sp A
section
variable {P : Program} {w : World} {K : PySem.W.Frag} {mg : Str → Option Value} {base : Heap} {CX : CXT}
theorem FnG.of {k : Nat} {f : Addr} {fd : FuncData} {ps : List Str} {sp : Sp} (F : FnOk P w K mg base CX k f fd ps sp) : FnG P w K mg base CX k f fd ps sp :=
  ⟨F.len, fun A _ hr out st G ar uu vv R W e0 hb r h => F.run A out st G ar uu vv R W hr e0 hb r h⟩
theorem Fun.okG {x qual : Str} {st : Stmt} {f : Addr} {fd : FuncData} {N ps : List Str} {k : Nat} {sp : Sp} (F : Fun K x qual st f fd) (S : FnScope N ps (defScope st))
    (len : ∀ vs H Q E, sp vs H Q E → vs.length = ps.length)
    (hbody : ∀ (cdv : Value) (A : Around) (outer : List Env) (s : Shared) (H : Hp) (vs : List V) (Q : VK) (E : XK), A.guards = some [] → Room k (A.deeper (envOfC qual (defScope st) s.heap.objs.size f cdv)) → sp vs H Q E →
      ∃ t, PSs (cxOf CX P w K mg base N qual (defScope st) f cdv A outer s H E) (defBody st) t ∧ t { nx := fun _ H' => Q .non H', rt := Q } (start N vs) H) :
    FnG P w K mg base CX (k + 1) f fd ps sp := by
  obtain ⟨oc, od, kV, doc, pm, an, cdv, ct, osl, hfd, lk, hcode⟩ := F.ex
  subst hfd
  refine ⟨len, fun A hgd room out st' G ar uu vv R W e0 hb rv hs => ?_⟩
  have hlen := len _ _ _ _ hs
  have kin := e0.mod.kin.keeps fun b o e => (e0.bs b o e).1
  have nolim := e0.mod.nolimit.keeps fun b o e => (e0.bs b o e).1
  refine codeAny_call_function room.depth (kin _ _ lk) rfl S.co S.gen rfl (PySem.W.codeRec_of kin hcode) (hb _ _ _ _ ?_)
  refine wpAny_newFunctionEnv_cells S.kind (fun ⟨n, v⟩ hmem => ?kinds) fun env' heq s2 x2 => ?_
  case kinds =>
    cases S.par n (List.of_mem_zip hmem).1 with
    | inl q => exact .inl q
    | inr q => exact .inr ⟨q, PySem.W.cellsFrom_some _ _ _ (.inl q)⟩
  subst heq
  refine ⟨nolim.keeps x2.toInCall.keep, codeAny_func ?_⟩
  obtain ⟨t, der, reading⟩ := hbody cdv A out st' G vv R W hgd (room.deeper _) hs
  refine wpAny_mono (der.run [] s2 (start N vv) G _ (inv_start S room.hd e0 hlen rv x2) reading) (fun fl s3 end3 => ?_) fun _ _ end3 => end3
  cases fl with
  | next =>
    obtain ⟨_, G', J, q⟩ := end3
    exact ⟨V.non, G', J.os, J.bare, J.base, J.hok, rfl, q⟩
  | ret u =>
    obtain ⟨v, _, G', J, rv', q⟩ := end3
    exact ⟨v, G', J.os, J.bare, J.base, J.hok, rv', q⟩
  | brk => exact (let ⟨_, _, _, q⟩ := end3; False.elim q)
  | cont => exact (let ⟨_, _, _, q⟩ := end3; False.elim q)
end
section
variable {X : Cx} {k : Nat} {f : Addr} {fd : FuncData} {ps : List Str} {sp : Sp} {E : XK} {x : Str} {p pos : Pos} {e : Expr} {es : List Expr} {t : TA} {CX : CXT} {dvs : List V} {ds : List Value}
/-- a call of a def that shows data -/
theorem pe_callG (F : FnG X.prog X.w X.K X.mg X.base CX k f fd ps sp) (hgd : X.A.guards = some []) (hr : Room k X.A) (hg : Gl X x) (hm : X.mg x = some (.ref f)) (hk : PySem.W.keepIn X.K (.ref f) = true) (hb : Binds X.K fd ps ds) (hd : Vals dvs ds) (hx : Passes CX X E)
    (ha : PA X (e :: es) t) (hdb : (x == ("__debug__" : Str)) = false := by decide)
    (he : starEach (e :: es) X.env = (false, eval e X.env) :: starEach es X.env := by rfl)
    (hpl : (backTo pos (starEach es X.env)).any (·.1) = false := by rfl) : PE X (.Call (.Name x p) (e :: es) [] pos) (tCall sp dvs E t) := by
  constructor
  intro pins s σ H Q I h
  refine wpAny_Call_Name_kw (ld_glob I hg hm ?_ hdb)
  refine PySem.W.callWith_K (h₀ := X.base) I.ok.mod.kin hk (thn (ha.run pos pins s σ H _ I h) fun us s1 hh => ?_) he hpl
  obtain ⟨vs, H1, J, r, q⟩ := hh
  refine ⟨J.kIn, ?_⟩
  have r2 := r.append hd
  have hl : (us ++ ds).length = ps.length := r2.length.symm.trans (F.len _ _ _ _ q)
  refine wpAny_call (codeAny_mono (F.run X.A hgd hr X.stack s1 H1 ⟨us, []⟩ (us ++ ds) (vs ++ dvs) _ _ J.env0 (hb s1 us J.kIn hl) r2 q) fun res s2 hq => ?_)
  match res, hq with
  | .error e', hq => exact hx pins σ H1 s1 e' s2 J hq
  | .ok (.ret u), hq => exact J.after hq
  | .ok .next, hq => exact hq.elim
  | .ok .brk, hq => exact hq.elim
  | .ok .cont, hq => exact hq.elim
/-! ### repr of data -/
mutual
theorem dp_nodict {K : PySem.W.Frag} {H : Hp} : ∀ {v : V} {d : PyData}, Dp K H v d → d.hasDict = false
  | _, _, .non => by simp [PyData.hasDict]
  | _, _, .bl _ => by simp [PyData.hasDict]
  | _, _, .int _ => by simp [PyData.hasDict]
  | _, _, .str _ => by simp [PyData.hasDict]
  | _, _, .lst _ h => by simpa [PyData.hasDict] using dps_nodict h
  | _, _, .tup _ h => by simpa [PyData.hasDict] using dps_nodict h
theorem dps_nodict {K : PySem.W.Frag} {H : Hp} : ∀ {vs : List V} {ds : List PyData}, DpAll K H vs ds → PyData.hasDictAll ds = false
  | _, _, .nil => by simp [PyData.hasDictAll]
  | _, _, .cons h t => by simp [PyData.hasDictAll, dp_nodict h, dps_nodict t]
end
def rRepr (K : PySem.W.Frag) : List V → Hp → VK → Prop := fun xs H Q => ∃ x d, xs = [x] ∧ Dp K H x d ∧ d.showable = true ∧ d.depth ≤ 60 ∧ d.shown.length ≤ sizeLine ∧ Q (.str d.shown) H
theorem call_reprD (hgd : X.A.guards = some []) (hu : X.A.units + 64 < cLine) : CallR X (.builtin "repr") (rRepr X.K) := by
  intro pins s σ H xs us Q I r h
  obtain ⟨x, d, rfl, hd, hs, hdep, hz, q⟩ := h
  cases r with
  | @cons _ u _ _ ru rn =>
    cases rn
    obtain ⟨as, hr⟩ := Dp.reads I d x u hd ru
    have nod := dp_nodict hd
    cases hd with
    | non =>
      obtain rfl : u = Value.none := ru
      exact PySem.P.repr_of_none ⟨.str _, H, I.tok _, ⟨_, rfl⟩, by simpa only [PyData.shown] using q⟩
    | bl b =>
      obtain rfl : u = Value.bool b := ru
      exact PySem.P.repr_of_bool ⟨.str _, H, I.tok _, ⟨_, rfl⟩, by simpa only [PyData.shown] using q⟩
    | int i =>
      obtain ⟨t, rfl⟩ := ru
      exact PySem.P.repr_of_int (by simpa [PyData.showable] using hs) ⟨.str _, H, I.tok _, ⟨_, rfl⟩, by simpa only [PyData.shown] using q⟩
    | str z =>
      obtain ⟨t, rfl⟩ := ru
      exact PySem.P.repr_of_str ⟨.str _, H, I.tok _, ⟨_, rfl⟩, by simpa only [PyData.shown] using q⟩ (by simpa only [PyData.shown] using hz)
    | @lst a _ ds h1 h2 =>
      obtain rfl : u = Value.ref a := ru
      exact PySem.repr_of_reads' hr hs (fun z => absurd (nod.symm.trans z) (by decide)) hgd (by omega) (fun _ _ e => e) (fun h' u tk hk => ⟨.str _, H, I.kept hk, ⟨_, rfl⟩, q⟩) hz
    | @tup a _ ds h1 h2 =>
      obtain rfl : u = Value.ref a := ru
      exact PySem.repr_of_reads' hr hs (fun z => absurd (nod.symm.trans z) (by decide)) hgd (by omega) (fun _ _ e => e) (fun h' u tk hk => ⟨.str _, H, I.kept hk, ⟨_, rfl⟩, q⟩) hz
end
end My
/-! ### the end of a law whose def shows data -/
namespace My
open PySem PySem.Spec PyProof.Rows L2
/-- the law's call at the head, from its promise there: nothing is tracked but the script -/
theorem law_callG {P : Program} {w : World} {K : PySem.W.Frag} {mg mb : Str → Option Value} {CX : CXT} {k : Nat} {fa a : Addr} {fd : FuncData} {x : Str} {sp : Sp} {st : Shared} {vs : List Value} {ns : List Int}
    (KX : K.In st.heap) (hns : st.heap.Ns mainGlobals mg) (hb : st.heap.Ns builtinsNs mb) (hbb : ∀ x : Str, x ≠ "__name__" → mb x = bootBuiltins x)
    (hlim : st.heap.NoLimit) (hg : st.gens = #[]) (ha : st.heap.get? a = some { cls := .type "list", data := .seq vs.toArray }) (hi : IntsAre vs ns) (hl : ns.length ≤ sizeLine) (hr : Room k callerA)
    (F : ∀ base : Heap, K.In base → base.Ns mainGlobals mg → FnG P w K mg base CX k fa fd [x] sp)
    (hbind : ∀ (s : Shared) (u : Value), BindsTo s fd ⟨[u], []⟩ [(x, u)])
    (hsp : ∀ H : Hp, Only H → SqL K H a (ns.map V.int) → sp [.ref a] H (fun v _ => v = .bl true) fun _ _ _ => False)
    (hCX : ∀ H e s', CX [] H st (fun _ _ _ => False) e s' → False) :
    codeAny (model P w) callerA (.call (.ref fa) ⟨[.ref a], []⟩) (fun r s' => r = .ok (.ret (.bool true)) ∧ OldK st.heap s'.heap ∧ s'.os = st.os ∧ AllBare s'.gens) st := by
  have vints := vals_ints hi
  have vlen := hi.length
  have main : ∀ H : Hp, Only H → SqL K H a (ns.map V.int) → HOk P w H st.heap → (∀ b, b ≠ a → H b = none) → (K.lookup a = none ∨ H a = none) →
      codeAny (model P w) callerA (.call (.ref fa) ⟨[.ref a], []⟩) (fun r s' => r = .ok (.ret (.bool true)) ∧ OldK st.heap s'.heap ∧ s'.os = st.os ∧ AllBare s'.gens) st := by
    intro H only scr hok off onK
    have dictFree : ∀ {b : Addr} {m : Str → Option Value}, st.heap.Ns b m → (hidT st.heap H).Ns b m := by
      rintro b m ⟨o, es, ep, e, d, r⟩
      by_cases z : b = a
      · rw [z, ha] at e
        cases e
        cases d
      · exact ⟨o, es, ep, hidT_get e (off b z), d, r⟩
    have kIn : K.In (hidT st.heap H) := by
      intro b o e
      by_cases z : b = a
      · rcases onK with q | q
        · rw [z, q] at e
          cases e
        · exact hidT_get (KX b o e) (by rw [z]; exact q)
      · exact hidT_get (KX b o e) (off b z)
    obtain ⟨mc, lim1, lim2⟩ := hlim
    have md : Mod K mg (hidT st.heap H) := ⟨kIn, dictFree hns, ⟨mb, dictFree hb, hbb⟩, ⟨mc, dictFree lim1, lim2⟩⟩
    have e0 : Env0 P w K mg (hidT st.heap H) callerA [] st H :=
      { frames := rfl, mod := md, bs := fun b o e => of_hidT e, bsz := Nat.le_of_eq (hidT_size _ _), funs := trivial, frf := fun b z => (nomatch z), hok := hok, bare := .of_eq hg }
    have run := (F _ kIn (dictFree hns)).run callerA rfl hr [] st H ⟨[.ref a], []⟩ [.ref a] [.ref a] _ _ e0 (hbind st (.ref a)) (.cons rfl .nil) (hsp H only scr)
    refine codeAny_mono run fun r s' h => ?_
    match r, h with
    | .error e, h => exact (hCX H e s' h).elim
    | .ok .next, h => exact h.elim
    | .ok .brk, h => exact h.elim
    | .ok .cont, h => exact h.elim
    | .ok (.ret u), h =>
      obtain ⟨v, H', os, bare, un, hok', rv, q⟩ := h
      obtain rfl : v = .bl true := q
      obtain rfl : u = Value.bool true := rv
      refine ⟨rfl, OldK.of_keep fun b o e => ?_, os, bare⟩
      cases q : H b with
      | none => exact un.keep b o e q (fun z => nomatch z) (fun z => nomatch z)
      | some u =>
        cases only b with
        | inl z => rw [q] at z; cases z
        | inr z =>
          obtain ⟨ob, xs, z⟩ := z
          have old := (hok b _ z).1
          rw [e] at old
          cases old
          exact (hok' b _ (un.frzs b _ _ z)).1
  cases hk : K.lookup a with
  | some o =>
    have e := KX a o hk
    rw [ha] at e
    cases e
    exact main (fun _ => none) (fun _ => .inl rfl) (.inr ⟨_, vs.toArray, _, hk, rfl, rfl, rfl, by rw [List.size_toArray, vlen]; exact hl, by simpa using vints⟩)
      (fun _ _ z => by cases z) (fun _ _ => rfl) (.inr rfl)
  | none =>
    have off : ∀ b, b ≠ a → (fun b => if b = a then some (HO.frz { cls := .type "list", data := .seq vs.toArray } (.lst (ns.map V.int))) else none) b = none := fun b z => if_neg z
    refine main (fun b => if b = a then some (.frz { cls := .type "list", data := .seq vs.toArray } (.lst (ns.map V.int))) else none) (fun b => ?_) (.inl (.inr ⟨_, if_pos rfl⟩)) (fun b u z => ?_) off (.inl hk)
    · by_cases z : b = a
      · exact .inr ⟨_, _, if_pos z⟩
      · exact .inl (off b z)
    · by_cases q : b = a
      · obtain rfl := Option.some.inj ((if_pos q).symm.trans z)
        rw [q]
        exact ⟨ha, by rw [List.length_map]; exact hl, vs, _, vints, ha⟩
      · rw [off b q] at z
        cases z
/-- what k_head leaves, from the law's promise -/
theorem walk_ofG {l : PySem.W.OpenLaw} {n k : Nat} {q : Program} {loose : List Str} {XP : (Str → Option Value) → Heap → Prop} {YP : World → Heap → Prop} {d : DefRec} {K : Params → PySem.W.Frag} {CX : World → CXT} {sp : World → Sp} {x : Str}
    (hn : l.most = some n) (hn2 : n ≤ sizeLine) (hdf : d.params.defaults = []) (hr : Room k callerA) (hY : ∀ (w : World) (h : Heap), YP w h → (K w.params).In h)
    (F : ∀ (w : World) (mg : Str → Option Value) (fa : Addr) (h : Heap), (K w.params).In h → h.Ns mainGlobals mg → mg d.name = some (.ref fa) → ∃ fd : FuncData, (∀ (s : Shared) (u : Value), BindsTo s fd ⟨[u], []⟩ [(x, u)]) ∧
        ∀ base : Heap, (K w.params).In base → base.Ns mainGlobals mg → FnG l.prog w (K w.params) mg base (CX w) k fa fd [x] (sp w))
    (hsp : ∀ (w : World) (H : Hp) (a : Addr) (ns : List Int), ns.length ≤ n → Only H → SqL (K w.params) H a (ns.map V.int) → sp w [.ref a] H (fun v _ => v = .bl true) fun _ _ _ => False)
    (hCX : ∀ (w : World) (H : Hp) (s : Shared) (e : Value) (s' : Shared), CX w [] H s (fun _ _ _ => False) e s' → False) : PySem.W.WalkO q loose XP YP l.row.toRowW d [] (fun f vs => PySem.call f vs) := by
  refine Att.attach_call hn hdf ?_
  intro w s₀ st mg mb fa o pm cd doc a vs ns G Y ho hd hcd hmg hobj hints hlen hg
  have KX := hY w _ Y
  obtain ⟨fd, hb, hF⟩ := F w mg fa _ KX G.T.g hmg
  exact law_callG KX G.T.g G.T.b G.T.builtins G.T.nolimit hg hobj hints (Nat.le_trans hlen hn2) hr hF hb (hsp w · a ns hlen) fun H => hCX w H st
end My
/-! ### == and != of two built-in classes -/
namespace My
open PySem PySem.Spec PyProof.Rows L2 PySem.TypeEq
theorem ty_ne1 : Slot "type" (cmpInfo .NotEq).2.1 "object.__ne__" := .of (owner := "object") (n := "__ne__")
  (by rw [typeLookup_type, builtinLookup_eq_fast]; kernel_rfl) (by decide +kernel) (by decide +kernel) (by decide +kernel) (by first | exact .inr (by decide +kernel) | exact .inl (by decide +kernel))
  (by rw [isSubtype_type]; kernel_rfl)
theorem ty_ne2 : Slot "type" (cmpInfo .NotEq).2.2 "object.__ne__" := .of (owner := "object") (n := "__ne__")
  (by rw [typeLookup_type, builtinLookup_eq_fast]; kernel_rfl) (by decide +kernel) (by decide +kernel) (by decide +kernel) (by first | exact .inr (by decide +kernel) | exact .inl (by decide +kernel))
  (by rw [isSubtype_type]; kernel_rfl)
section
variable {prog : Program} {w : World} {A : Around} {E : Value → Shared → Prop} {s : Shared}
theorem objNe_body {X : String} {b : Value} {Q : Fin → Shared → Prop} (hX : ∀ s' : Shared, s'.TypeIs (.type X) "type") (hv : [Value.type X, b].any Value.onHeap = false)
    (hc : wpAny (model prog w) A (call (.builtin "object.__eq__") [.type X, b]) (fun v s' => (v = .notImplemented ∧ Q (.done (.ret .notImplemented)) s') ∨ ∃ k, v = .bool k ∧ Q (.done (.ret (.bool (!k)))) s') E s) :
    wpAny (model prog w) A (Builtin.«object.__ne__» ⟨[.type X, b], []⟩) Q E s := by
  unfold Builtin.«object.__ne__»
  refine wpAny_bind (m := slotArgs "__ne__" 1 ⟨[.type X, b], []⟩) (wpAny_pure ?_)
  dsimp only
  refine wpAny_bind (wpAny_cRoomFor_or (.inl hv) ?_)
  refine wpAny_bind (m := callSpecialIfBound? (.type X) (Str.ofString "__eq__") [b]) (wpAny_callSpecialIfBound?_slot (T := "type") (hX s) slot_type_eq (wpAny_mono hc (fun v s' h => ?_) fun _ _ e => e))
  rcases h with ⟨rfl, h⟩ | ⟨k, rfl, h⟩
  · exact wpAny_pure h
  · exact wpAny_bind (wpAny_truthy_bool (wpAny_pure h))
theorem ne_ty_same {X : String} {Q : Value → Shared → Prop} (hX : ∀ s' : Shared, s'.TypeIs (.type X) "type") (h : Q (.bool false) s) : wpAny (model prog w) A (compareOp .NotEq (.type X) (.type X)) Q E s := by
  show wpAny _ A (richCompare .NotEq _ _) Q E s
  refine wpAny_richCompare_same (T := "type") (hX s) (hX s) ty_ne1 (wpAny_call_entry ty_ne1 (hX s) F.entry_object_ne (objNe_body hX rfl ?_) (F.args_object_ne_2 _ _))
  exact call_gives slot_type_eq (hX s) F.entry_object_eq (F.args_object_eq_2 _ _) (object_eq_same rfl (by simp)) (.inr ⟨true, rfl, _, rfl, (by intro e; cases e), h⟩)
theorem ne_ty_other {X Y : String} {Q : Value → Shared → Prop} (hX : ∀ s' : Shared, s'.TypeIs (.type X) "type") (hY : ∀ s' : Shared, s'.TypeIs (.type Y) "type")
    (hne : (Value.type X == Value.type Y) = false) (hen : (Value.type Y == Value.type X) = false) (h : Q (.bool true) s) : wpAny (model prog w) A (compareOp .NotEq (.type X) (.type Y)) Q E s := by
  show wpAny _ A (richCompare .NotEq _ _) Q E s
  have k1 := ty_ne1
  have k2 := ty_ne2
  rcases hi : cmpInfo CmpOp.NotEq with ⟨sym, f, r⟩
  rw [hi] at k1 k2
  simp only [richCompare, hi, (hX s).oneThing_none]
  try with_reducible refine wpAny_holding ?_
  refine wpAny_bind (wpAny_cRoomFor_or (.inl rfl) ?_)
  refine wpAny_bind (wpAny_typeOf (hX s) ?_)
  refine wpAny_bind (wpAny_typeOf (hY s) ?_)
  simp only [bne_self_eq_false, Bool.false_eq_true, if_false, pure_bind, Bool.not_false, if_true]
  refine wpAny_bind (m := tryCompare (.type X) _ (.type Y)) (wpAny_tryCompare_declines (hX s) k1 ?_)
  refine wpAny_call_entry k1 (hX s) F.entry_object_ne (objNe_body hX rfl ?_) (F.args_object_ne_2 _ _)
  refine call_gives slot_type_eq (hX s) F.entry_object_eq (F.args_object_eq_2 _ _) (object_eq_other rfl hne) (.inl ⟨rfl, _, rfl, rfl, ?_⟩)
  refine wpAny_bind (m := tryCompare (.type Y) _ (.type X)) (wpAny_tryCompare_declines (hY s) k2 ?_)
  refine wpAny_call_entry k2 (hY s) F.entry_object_ne (objNe_body hY rfl ?_) (F.args_object_ne_2 _ _)
  refine call_gives slot_type_eq (hY s) F.entry_object_eq (F.args_object_eq_2 _ _) (object_eq_other rfl hen) (.inl ⟨rfl, _, rfl, rfl, ?_⟩)
  refine wpAny_bind (wpAny_rule (wpAny_bind (wpAny_of_eq (isSame_plain rfl) (wpAny_pure ?_))))
  rw [hne]
  exact h
end
/-- the built-in classes that are compared -/
def isTy (T : String) : Prop := ∀ s' : Shared, s'.TypeIs (.type T) "type"
theorem tyB_ty {K : PySem.W.Frag} {H : Hp} {x : V} {T : String} (h : TyB K H x T) : isTy T := by
  cases h with
  | non => exact meta_NoneType
  | bl => exact meta_bool
  | int => exact meta_int
  | str => exact meta_str
  | byt => exact meta_bytes
  | lst => exact meta_list
  | tup => exact meta_tuple
  | dK => exact meta_dict
section
variable {X : Cx}
def rTyEq : R2 := fun x y H Q => ∃ a b, x = .ty a ∧ y = .ty b ∧ isTy a ∧ isTy b ∧ Q (.bl (decide (a = b))) H
def rTyNe : R2 := fun x y H Q => ∃ a b, x = .ty a ∧ y = .ty b ∧ isTy a ∧ isTy b ∧ Q (.bl (!decide (a = b))) H
theorem op_eqTy : OpR X (compareOp .Eq) rTyEq := by
  intro pins s σ H x y v u Q I rx ry h
  obtain ⟨a, b, rfl, rfl, ha, hb, q⟩ := h
  obtain rfl : v = Value.type a := rx
  obtain rfl : u = Value.type b := ry
  by_cases e : a = b
  · subst e
    exact eq_type_same ha ⟨.bl true, H, I, rfl, by rw [decide_eq_true rfl] at q; exact q⟩
  · exact eq_type_other ha hb ((ty_beq a b).trans (decide_eq_false e)) ⟨.bl false, H, I, rfl, by rw [decide_eq_false e] at q; exact q⟩
theorem op_neTy : OpR X (compareOp .NotEq) rTyNe := by
  intro pins s σ H x y v u Q I rx ry h
  obtain ⟨a, b, rfl, rfl, ha, hb, q⟩ := h
  obtain rfl : v = Value.type a := rx
  obtain rfl : u = Value.type b := ry
  by_cases e : a = b
  · subst e
    exact ne_ty_same ha ⟨.bl false, H, I, rfl, by rw [decide_eq_true rfl] at q; exact q⟩
  · exact ne_ty_other ha hb ((ty_beq a b).trans (decide_eq_false e)) ((ty_beq b a).trans (decide_eq_false fun z => e z.symm)) ⟨.bl true, H, I, rfl, by rw [decide_eq_false e] at q; exact q⟩
end
end My
/-! ### numbers: the mathematics -/
namespace My
open PySem PySem.Spec PyProof.Rows L2
def gg (n d : Int) : Int := ((Nat.gcd n.natAbs d.natAbs : Nat) : Int)
def rn (n d : Int) : Int := n / gg n d
def rd (n d : Int) : Int := d / gg n d
/-- n / d, without a common divisor -/
structure Low (n d : Int) : Prop where
  pos : 0 < d
  one : gg n d = 1
theorem gg_pos {n d : Int} (h : 0 < d) : 0 < gg n d := by
  have : 0 < Nat.gcd n.natAbs d.natAbs := Nat.gcd_pos_of_pos_right _ (by omega)
  unfold gg
  omega
theorem gg_n (n d : Int) : ∃ k, n = gg n d * k := by
  obtain ⟨c, hc⟩ := Nat.gcd_dvd_left n.natAbs d.natAbs
  rcases Int.natAbs_eq n with e | e
  · exact ⟨(c : Int), by unfold gg; rw [← Int.natCast_mul, ← hc]; exact e⟩
  · exact ⟨-(c : Int), by unfold gg; rw [Int.mul_neg, ← Int.natCast_mul, ← hc]; exact e⟩
theorem gg_d (n d : Int) : ∃ k, d = gg n d * k := by
  obtain ⟨c, hc⟩ := Nat.gcd_dvd_right n.natAbs d.natAbs
  rcases Int.natAbs_eq d with e | e
  · exact ⟨(c : Int), by unfold gg; rw [← Int.natCast_mul, ← hc]; exact e⟩
  · exact ⟨-(c : Int), by unfold gg; rw [Int.mul_neg, ← Int.natCast_mul, ← hc]; exact e⟩
theorem rn_mul {n d : Int} (h : 0 < d) : n = gg n d * rn n d := by
  obtain ⟨k, hk⟩ := gg_n n d
  have g := gg_pos (n := n) h
  have e : rn n d = k := by
    unfold rn
    rw [Int.ediv_eq_of_eq_mul_right (by omega) hk]
  rw [e]; exact hk
theorem rd_mul {n d : Int} (h : 0 < d) : d = gg n d * rd n d := by
  obtain ⟨k, hk⟩ := gg_d n d
  have g := gg_pos (n := n) h
  have e : rd n d = k := by
    unfold rd
    rw [Int.ediv_eq_of_eq_mul_right (by omega) hk]
  rw [e]; exact hk
theorem rd_pos {n d : Int} (h : 0 < d) : 0 < rd n d := by
  have g := gg_pos (n := n) h
  have e := rd_mul (n := n) h
  refine Int.lt_of_not_ge fun z => ?_
  have : gg n d * rd n d ≤ 0 := Int.mul_nonpos_of_nonneg_of_nonpos (by omega) z
  omega
theorem low_r {n d : Int} (h : 0 < d) : Low (rn n d) (rd n d) := by
  refine ⟨rd_pos h, ?_⟩
  have g := gg_pos (n := n) h
  have e1 : n.natAbs = (gg n d).natAbs * (rn n d).natAbs := by rw [← Int.natAbs_mul, ← rn_mul h]
  have e2 : d.natAbs = (gg n d).natAbs * (rd n d).natAbs := by rw [← Int.natAbs_mul, ← rd_mul h]
  have e3 : Nat.gcd n.natAbs d.natAbs = (gg n d).natAbs * Nat.gcd (rn n d).natAbs (rd n d).natAbs := by
    rw [← Nat.gcd_mul_left, ← e1, ← e2]
  have e4 : (gg n d).natAbs = Nat.gcd n.natAbs d.natAbs := by unfold gg; exact Int.natAbs_natCast _
  rw [← e4] at e3
  have e5 : Nat.gcd (rn n d).natAbs (rd n d).natAbs = 1 := by
    have e6 : (gg n d).natAbs * 1 = (gg n d).natAbs * Nat.gcd (rn n d).natAbs (rd n d).natAbs := by rw [Nat.mul_one]; exact e3
    exact (Nat.eq_of_mul_eq_mul_left (by omega) e6).symm
  show ((Nat.gcd (rn n d).natAbs (rd n d).natAbs : Nat) : Int) = 1
  rw [e5]; rfl
theorem cross {n d : Int} (h : 0 < d) : rn n d * d = n * rd n d := by
  have e1 := rn_mul (n := n) h
  have e2 := rd_mul (n := n) h
  calc rn n d * d = rn n d * (gg n d * rd n d) := by rw [← e2]
    _ = gg n d * rn n d * rd n d := by rw [Int.mul_comm (gg n d) (rn n d), Int.mul_assoc]
    _ = n * rd n d := by rw [← e1]
/-- a number has one spelling without a common divisor -/
theorem low_uniq {p q r s : Int} (h1 : Low p q) (h2 : Low r s) (e : p * s = r * q) : p = r ∧ q = s := by
  have c1 : Nat.Coprime p.natAbs q.natAbs := by
    have := h1.one
    unfold gg at this
    exact Int.ofNat_inj.mp this
  have c2 : Nat.Coprime r.natAbs s.natAbs := by
    have := h2.one
    unfold gg at this
    exact Int.ofNat_inj.mp this
  have en : p.natAbs * s.natAbs = r.natAbs * q.natAbs := by rw [← Int.natAbs_mul, ← Int.natAbs_mul, e]
  have d1 : q.natAbs ∣ s.natAbs := c1.symm.dvd_of_dvd_mul_left (by rw [en]; exact Nat.dvd_mul_left _ _)
  have d2 : s.natAbs ∣ q.natAbs := c2.symm.dvd_of_dvd_mul_left (by rw [← en]; exact Nat.dvd_mul_left _ _)
  have eq : q.natAbs = s.natAbs := Nat.dvd_antisymm d1 d2
  have hq := h1.pos
  have hs := h2.pos
  have qs : q = s := by omega
  refine ⟨?_, qs⟩
  rw [qs] at e
  exact Int.eq_of_mul_eq_mul_right (by omega) e
theorem low_eq {n d m e : Int} (hd : 0 < d) (he : 0 < e) (h : n * e = m * d) : rn n d = rn m e ∧ rd n d = rd m e := by
  refine low_uniq (low_r hd) (low_r he) ?_
  have c1 := cross (n := n) hd
  have c2 := cross (n := m) he
  refine Int.eq_of_mul_eq_mul_right (a := d * e) (by have := Int.mul_pos hd he; omega) ?_
  calc rn n d * rd m e * (d * e) = (rn n d * d) * (rd m e * e) := by rw [Int.mul_assoc, Int.mul_left_comm (rd m e) d e, ← Int.mul_assoc]
    _ = (n * e) * (rd n d * rd m e) := by rw [c1, Int.mul_assoc, Int.mul_assoc, Int.mul_comm (rd m e) e, Int.mul_left_comm (rd n d) e (rd m e)]
    _ = (m * d) * (rd n d * rd m e) := by rw [h]
    _ = m * rd m e * (rd n d * d) := by rw [Int.mul_assoc, Int.mul_assoc, Int.mul_comm (rd n d) (rd m e), Int.mul_left_comm d (rd m e) (rd n d), Int.mul_comm d (rd n d)]
    _ = rn m e * rd n d * (d * e) := by rw [← c2, Int.mul_assoc, Int.mul_assoc, Int.mul_left_comm e (rd n d) d, Int.mul_comm e d]
theorem low_id {n d : Int} (h : Low n d) : rn n d = n ∧ rd n d = d := by
  unfold rn rd
  rw [h.one]
  exact ⟨Int.ediv_one _, Int.ediv_one _⟩
theorem rn_abs {n d : Int} (h : 0 < d) : (rn n d).natAbs ≤ n.natAbs := by
  have e : n.natAbs = (gg n d).natAbs * (rn n d).natAbs := by rw [← Int.natAbs_mul, ← rn_mul h]
  have g := gg_pos (n := n) h
  have : 1 * (rn n d).natAbs ≤ (gg n d).natAbs * (rn n d).natAbs := Nat.mul_le_mul_right _ (by omega)
  omega
theorem rd_abs {n d : Int} (h : 0 < d) : (rd n d).natAbs ≤ d.natAbs := by
  have e : d.natAbs = (gg n d).natAbs * (rd n d).natAbs := by rw [← Int.natAbs_mul, ← rd_mul h]
  have g := gg_pos (n := n) h
  have : 1 * (rd n d).natAbs ≤ (gg n d).natAbs * (rd n d).natAbs := Nat.mul_le_mul_right _ (by omega)
  omega
theorem gg_le {n d : Int} (h : 0 < d) : gg n d ≤ d := by
  have : Nat.gcd n.natAbs d.natAbs ≤ d.natAbs := Nat.gcd_le_right _ (by omega)
  unfold gg
  omega
end My
/-! ### the program's numbers -/
namespace My
open PySem PySem.Spec PyProof.Rows L2
abbrev sNumberOf : Stmt := topS 6
abbrev sPlus : Stmt := topS 7
abbrev sMinus : Stmt := topS 8
abbrev sCompared : Stmt := topS 9
abbrev sIsWhole : Stmt := topS 10
abbrev sIsNumber : Stmt := topS 11
abbrev sNeed : Stmt := topS 12
abbrev sLowest : Stmt := topS 13
abbrev sDifference : Stmt := topS 14
theorem scNumberOf : FnScope ["n", "d"] ["n", "d"] (defScope sNumberOf) := ⟨rfl, rfl, rfl, by decide +kernel, rfl, by decide +kernel, by decide +kernel⟩
theorem scPlus : FnScope ["a", "b"] ["a", "b"] (defScope sPlus) := ⟨rfl, rfl, rfl, by decide +kernel, rfl, by decide +kernel, by decide +kernel⟩
theorem scMinus : FnScope ["a", "b"] ["a", "b"] (defScope sMinus) := ⟨rfl, rfl, rfl, by decide +kernel, rfl, by decide +kernel, by decide +kernel⟩
theorem scDifference : FnScope ["a", "b"] ["a", "b"] (defScope sDifference) := ⟨rfl, rfl, rfl, by decide +kernel, rfl, by decide +kernel, by decide +kernel⟩
theorem scCompared : FnScope ["a", "b", "left", "right"] ["a", "b"] (defScope sCompared) := ⟨rfl, rfl, rfl, by decide +kernel, rfl, by decide +kernel, by decide +kernel⟩
theorem scIsWhole : FnScope ["thing"] ["thing"] (defScope sIsWhole) := ⟨rfl, rfl, rfl, by decide +kernel, rfl, by decide +kernel, by decide +kernel⟩
theorem scIsNumber : FnScope ["thing", "n", "d"] ["thing"] (defScope sIsNumber) := ⟨rfl, rfl, rfl, by decide +kernel, rfl, by decide +kernel, by decide +kernel⟩
theorem scNeed : FnScope ["thing", "name"] ["thing", "name"] (defScope sNeed) := ⟨rfl, rfl, rfl, by decide +kernel, rfl, by decide +kernel, by decide +kernel⟩
theorem scLowest : FnScope ["n", "d", "common"] ["n", "d"] (defScope sLowest) := ⟨rfl, rfl, rfl, by decide +kernel, rfl, by decide +kernel, by decide +kernel⟩
/-- an own class of errors over ValueError, without an __init__ -/
structure ExcC (K : PySem.W.Frag) (mg : Str → Option Value) (x : Str) (C : Addr) : Prop where
  g : mg x = some (.ref C)
  q : PySem.W.excIn K C [.type "ValueError", .type "Exception", .type "BaseException", .type "object"] "ValueError.__new__" = true
  k : PySem.W.keepIn K (.ref C) = true
  b : PySem.W.subIn K (.ref C) (.type "BaseException") = some true
  t : PySem.W.typeIn K (.ref C) = some (.type "type")
/-- x is a number: a tuple of two ints, the second one from 1 on, without a common divisor -/
def IsNum (K : PySem.W.Frag) (H : Hp) (x : V) (n d : Int) : Prop := ∃ t, x = .ref t ∧ SqT K H t [.int n, .int d] ∧ Low n d
/-- x is none -/
def NoNum (K : PySem.W.Frag) (H : Hp) (x : V) : Prop := (∃ T, TyB K H x T ∧ T ≠ "tuple") ∨ (∃ t xs, x = .ref t ∧ SqT K H t xs ∧ xs.length ≠ 2) ∨
  (∃ t y z Ty Tz, x = .ref t ∧ SqT K H t [y, z] ∧ TyB K H y Ty ∧ TyB K H z Tz ∧ (Ty ≠ "int" ∨ Tz ≠ "int")) ∨ (∃ t n d, x = .ref t ∧ SqT K H t [.int n, .int d] ∧ ¬ Low n d)
structure NumTxt (K : PySem.W.Frag) (mg : Str → Option Value) (g1 g2 g3 g4 g5 g6 g7 g8 CN CD : Addr) (e1 e2 e3 e4 e5 e6 e7 e8 : FuncData) : Prop where
  type : mg "type" = none
  int : mg "int" = none
  tuple : mg "tuple" = none
  len : mg "len" = none
  gcd : mg "gcd" = some (.builtin "math.gcd")
  number : ExcC K mg "NoNumber" CN
  divisor : ExcC K mg "NoDivisor" CD
  FNumberOf : Fun K "number_of" "number_of" sNumberOf g1 e1
  bNumberOf : Binds K e1 ["n", "d"] []
  gNumberOf : mg "number_of" = some (.ref g1)
  FPlus : Fun K "plus" "plus" sPlus g2 e2
  bPlus : Binds K e2 ["a", "b"] []
  gPlus : mg "plus" = some (.ref g2)
  FMinus : Fun K "minus" "minus" sMinus g3 e3
  bMinus : Binds K e3 ["a", "b"] []
  gMinus : mg "minus" = some (.ref g3)
  FCompared : Fun K "compared" "compared" sCompared g4 e4
  bCompared : Binds K e4 ["a", "b"] []
  gCompared : mg "compared" = some (.ref g4)
  FIsWhole : Fun K "is_whole" "is_whole" sIsWhole g5 e5
  bIsWhole : Binds K e5 ["thing"] []
  gIsWhole : mg "is_whole" = some (.ref g5)
  FIsNumber : Fun K "is_number" "is_number" sIsNumber g6 e6
  bIsNumber : Binds K e6 ["thing"] []
  gIsNumber : mg "is_number" = some (.ref g6)
  FNeed : Fun K "need_number" "need_number" sNeed g7 e7
  bNeed : Binds K e7 ["thing", "name"] []
  gNeed : mg "need_number" = some (.ref g7)
  FLowest : Fun K "lowest" "lowest" sLowest g8 e8
  bLowest : Binds K e8 ["n", "d"] []
  gLowest : mg "lowest" = some (.ref g8)
  diff : ∃ (g9 : Addr) (e9 : FuncData), Fun K "difference" "difference" sDifference g9 e9 ∧ Binds K e9 ["a", "b"] [] ∧ mg "difference" = some (.ref g9)
/-! ### the promises -/
def spIsWhole (K : PySem.W.Frag) : Sp := fun vs H Q _ => ∃ x T, vs = [x] ∧ TyB K H x T ∧ Q (.bl (decide (T = "int"))) H
def spIsNumber (K : PySem.W.Frag) : Sp := fun vs H Q _ => ∃ x, vs = [x] ∧ ((∃ n d, IsNum K H x n d ∧ Q (.bl true) H) ∨ (NoNum K H x ∧ Q (.bl false) H))
def spNeed (K : PySem.W.Frag) (CN : Addr) : Sp := fun vs H Q E => ∃ x z, vs = [x, .str z] ∧ z.length ≤ 100 ∧ ((∃ n d, IsNum K H x n d ∧ Q .non H) ∨ (NoNum K H x ∧ E (.ref CN) none H))
def spLowest : Sp := fun vs H Q _ => ∃ n d, vs = [.int n, .int d] ∧ 0 < d ∧ d.natAbs < 2 ^ 8900 ∧ ∀ t, H t = none → Q (.ref t) (upd H t (.tup [.int (rn n d), .int (rd n d)]))
section
variable {P : Program} {w : World} {K : PySem.W.Frag} {mg : Str → Option Value} {base : Heap} {g1 g2 g3 g4 g5 g6 g7 g8 CN CD : Addr} {e1 e2 e3 e4 e5 e6 e7 e8 : FuncData}
theorem ok_isWhole (T : NumTxt K mg g1 g2 g3 g4 g5 g6 g7 g8 CN CD e1 e2 e3 e4 e5 e6 e7 e8) {k : Nat} : FnOk P w K mg base CX0 (k + 1) g5 e5 ["thing"] (spIsWhole K) := by
  refine T.FIsWhole.ok scIsWhole (fun vs H Q E h => ?_) (fun cdv A outer s H vs Q E hr h => ?_)
  · obtain ⟨x, t, rfl, _⟩ := h
    rfl
  · obtain ⟨x, t, rfl, ht, q⟩ := h
    refine ⟨_, (pss_one (ps_ret (pe_cmpR op_eqTy (pe_callTy call_type1 (by rfl) T.type (by decide +kernel) (pa_cons (pv 0) pa_nil)) (pe_bltn (v := .ty "int") (by rfl) T.int (by decide +kernel) rfl) (nomark _)))), ?_⟩
    exact ⟨_, rfl, _, _, rfl, ht, _, _, rfl, rfl, tyB_ty ht, TypeEq.meta_int, q⟩
theorem ok_isNumber (T : NumTxt K mg g1 g2 g3 g4 g5 g6 g7 g8 CN CD e1 e2 e3 e4 e5 e6 e7 e8) {k : Nat} : FnOk P w K mg base CX0 (k + 2) g6 e6 ["thing"] (spIsNumber K) := by
  have GW : FnOk P w K mg base CX0 (k + 1) g5 e5 ["thing"] (spIsWhole K) := ok_isWhole T
  refine T.FIsNumber.ok scIsNumber (fun vs H Q E h => ?_) (fun cdv A outer s H vs Q E hr h => ?_)
  · obtain ⟨x, rfl, _⟩ := h
    rfl
  · obtain ⟨x, rfl, h⟩ := h
    refine ⟨_, (pss_cons (ps_if (PW.pt (pw_or (pt_cmpR op_neTy (pe_callTy call_type1 (by rfl) T.type (by decide +kernel) (pa_cons (pv 0) pa_nil)) (pe_bltn (v := .ty "tuple") (by rfl) T.tuple (by decide +kernel) rfl) (nomark _)) (pw_or1 (pt_cmpR op_ne (pe_callB call_len_seq (by rfl) T.len PySem.boot_len (pa_cons (pv 0) pa_nil)) pe_int (nomark _))))) (pss_one (ps_ret pe_bl)) pss_nil)
 (pss_cons (ps_asg (pv 0) (pg_tup rfl (pgs_cons (pg_name (i := 1) scIsNumber.nd rfl (.inl rfl)) (pgs_cons (pg_name (i := 2) scIsNumber.nd rfl (.inl rfl)) pgs_nil))))
 (pss_one (ps_ret (pe_and (pe_call GW hr (by rfl) T.gIsWhole T.FIsWhole.kp T.bIsWhole .nil pass0 (pa_cons (pv 1) pa_nil)) (pe_and (pe_call GW hr (by rfl) T.gIsWhole T.FIsWhole.kp T.bIsWhole .nil pass0 (pa_cons (pv 2) pa_nil)) (pe_and (pe_cmpR op_gt (pv 2) pe_int (nomark _)) (pe_one (pe_cmpR op_eq (pe_callBfun cr_gcd (by rfl) T.gcd (pa_cons (pv 1) (pa_cons (pv 2) pa_nil))) pe_int (nomark _)))))))))), ?_⟩
    have h' : (∃ Ty, TyB K H x Ty ∧ Ty ≠ "tuple" ∧ Q (.bl false) H) ∨ (∃ t xs, x = .ref t ∧ SqT K H t xs ∧ xs.length ≠ 2 ∧ Q (.bl false) H) ∨
        (∃ t y z Ty Tz, x = .ref t ∧ SqT K H t [y, z] ∧ TyB K H y Ty ∧ TyB K H z Tz ∧ ∀ b : Bool, ((b = true ∧ ∃ n d, y = .int n ∧ z = .int d ∧ Low n d) ∨ (b = false ∧ ∀ n d, y = .int n → z = .int d → ¬ Low n d)) → Q (.bl b) H) := by
      rcases h with ⟨n, d, ⟨t, rfl, hS, hl⟩, q⟩ | ⟨h, q⟩
      · refine .inr (.inr ⟨t, _, _, _, _, rfl, hS, .int n, .int d, fun b hb => ?_⟩)
        rcases hb with ⟨rfl, _⟩ | ⟨_, hb⟩
        · exact q
        · exact absurd hl (hb n d rfl rfl)
      · rcases h with ⟨Ty, h1, h2⟩ | ⟨t, xs, rfl, hS, hl⟩ | ⟨t, y, z, Ty, Tz, rfl, hS, hy, hz, hne⟩ | ⟨t, n, d, rfl, hS, hl⟩
        · exact .inl ⟨Ty, h1, h2, q⟩
        · exact .inr (.inl ⟨t, xs, rfl, hS, hl, q⟩)
        · refine .inr (.inr ⟨t, y, z, Ty, Tz, rfl, hS, hy, hz, fun b hb => ?_⟩)
          rcases hb with ⟨_, n, d, rfl, rfl, _⟩ | ⟨rfl, _⟩
          · cases hy
            cases hz
            rcases hne with z | z <;> exact absurd rfl z
          · exact q
        · refine .inr (.inr ⟨t, _, _, _, _, rfl, hS, .int n, .int d, fun b hb => ?_⟩)
          rcases hb with ⟨_, n', d', e1, e2, hb⟩ | ⟨rfl, _⟩
          · cases e1
            cases e2
            exact absurd hb hl
          · exact q
    rcases h' with ⟨Ty, h1, h2, q⟩ | ⟨t, xs, rfl, hS, hl, q⟩ | ⟨t, y, z, Ty, Tz, rfl, hS, hy, hz, q⟩
    · refine ⟨_, rfl, _, _, rfl, h1, _, _, rfl, rfl, tyB_ty h1, TypeEq.meta_tuple, _, rfl, ?_⟩
      rw [decide_eq_false h2]
      exact iteT (iteT q)
    · refine ⟨_, rfl, _, _, rfl, TyB.tup hS, _, _, rfl, rfl, TypeEq.meta_tuple, TypeEq.meta_tuple, _, rfl, iteF ⟨_, rfl, t, _, rfl, .inr hS, rfl, _, rfl, ?_⟩⟩
      have e : decide (V.int (xs.length : Int) = V.int 2) = false := decide_eq_false fun z => hl (by have := V.int.inj z; omega)
      show if (!decide (V.int (xs.length : Int) = V.int 2)) = true then _ else _
      rw [e]
      exact iteT q
    · refine ⟨_, rfl, _, _, rfl, TyB.tup hS, _, _, rfl, rfl, TypeEq.meta_tuple, TypeEq.meta_tuple, _, rfl, iteF ⟨_, rfl, t, _, rfl, .inr hS, rfl, _, rfl, iteF ?_⟩⟩
      refine ⟨_, rfl, t, _, rfl, hS, rfl, y, [z], rfl, z, [], rfl, rfl, ?_⟩
      refine ⟨_, rfl, y, Ty, rfl, hy, _, rfl, ?_⟩
      by_cases ey : Ty = "int"
      · rw [decide_eq_true ey]
        refine iteT ⟨_, rfl, z, Tz, rfl, hz, _, rfl, ?_⟩
        by_cases ez : Tz = "int"
        · rw [decide_eq_true ez]
          obtain ⟨n, rfl⟩ : ∃ n, y = .int n := by
            cases hy <;> first | exact ⟨_, rfl⟩ | exact absurd ey (by decide)
          obtain ⟨d, rfl⟩ : ∃ n, z = .int n := by
            cases hz <;> first | exact ⟨_, rfl⟩ | exact absurd ez (by decide)
          refine iteT ⟨_, rfl, _, _, rfl, rfl, _, rfl, ?_⟩
          by_cases d0 : 0 < d
          · rw [decide_eq_true d0]
            refine iteT ⟨_, rfl, _, rfl, n, d, rfl, rfl, ?_⟩
            refine q _ ?_
            by_cases e : gg n d = 1
            · exact .inl ⟨decide_eq_true (congrArg V.int e), n, d, rfl, rfl, d0, e⟩
            · exact .inr ⟨decide_eq_false fun z => e (V.int.inj z), fun n' d' e1 e2 l => e (by cases e1; cases e2; exact l.one)⟩
          · rw [decide_eq_false d0]
            exact iteF (q false (.inr ⟨rfl, fun n' d' e1 e2 l => d0 (by cases e1; cases e2; exact l.pos)⟩))
        · rw [decide_eq_false ez]
          exact iteF (q false (.inr ⟨rfl, fun n d _ e2 _ => ez (by subst e2; cases hz; rfl)⟩))
      · rw [decide_eq_false ey]
        exact iteF (q false (.inr ⟨rfl, fun n d e1 _ _ => ey (by subst e1; cases hy; rfl)⟩))
theorem ok_lowest (T : NumTxt K mg g1 g2 g3 g4 g5 g6 g7 g8 CN CD e1 e2 e3 e4 e5 e6 e7 e8) {k : Nat} : FnOk P w K mg base CX0 (k + 1) g8 e8 ["n", "d"] spLowest := by
  refine T.FLowest.ok scLowest (fun vs H Q E h => ?_) (fun cdv A outer s H vs Q E hr h => ?_)
  · obtain ⟨n, d, rfl, _⟩ := h
    rfl
  · obtain ⟨n, d, rfl, d0, d1, q⟩ := h
    refine ⟨_, (pss_cons (ps_set (i := 2) scLowest.nd rfl (.inl rfl) (pe_callBfun cr_gcd (by rfl) T.gcd (pa_cons (pv 0) (pa_cons (pv 1) pa_nil))))
 (pss_one (ps_ret (pe_tup (pa_cons (pe_op op_fdivW (pv 0) (pv 2)) (pa_cons (pe_op op_fdivW (pv 1) (pv 2)) pa_nil)))))), ?_⟩
    have c : CDivW n (gg n d) := wide_div (gg_pos d0) (b := 8900) (Nat.lt_of_le_of_lt (by have := gg_le (n := n) d0; have := gg_pos (n := n) d0; omega) d1) (by decide) (by decide)
    exact ⟨_, rfl, _, rfl, n, d, rfl, _, rfl, _, rfl, _, _, rfl, rfl, c, _, rfl, _, rfl, _, _, rfl, rfl, c, (by show 2 ≤ sizeLine; decide), fun t ht => q t ht⟩
theorem ok_need (T : NumTxt K mg g1 g2 g3 g4 g5 g6 g7 g8 CN CD e1 e2 e3 e4 e5 e6 e7 e8) {k : Nat} : FnOk P w K mg base (L2.CX P w) (k + 3) g7 e7 ["thing", "name"] (spNeed K CN) := by
  have GN : FnOk P w K mg base CX0 (k + 2) g6 e6 ["thing"] (spIsNumber K) := ok_isNumber T
  refine T.FNeed.okX scNeed (fun vs H Q E h => ?_) (fun cdv A outer s H vs Q E hr h => ?_)
  · obtain ⟨x, z, rfl, _⟩ := h
    rfl
  · obtain ⟨x, z, rfl, hz, h⟩ := h
    refine ⟨_, (pss_one (ps_if (pt_not (pt_val (pe_call GN hr (by rfl) T.gIsNumber T.FIsNumber.kp T.bIsNumber .nil pass0 (pa_cons (pv 0) pa_nil)))) (pss_one (ps_raise rfl (takes_of rfl rfl rfl rfl) (SkE.pmk_own1 PySem.F.excBase_ValueError T.number.q T.number.g T.number.k (raises_own T.number.b T.number.t) (by exact rfl) (pe_joined (.cons (pe_fmt (pv 1)) (.cons pe_str .nil)))))) pss_nil)), ?_⟩
    have hz1 : (Str.empty ++ z).length ≤ sizeLine := by
      have : (Str.empty ++ z).length = Str.empty.length + z.length := Str.length_append _ _
      have : Str.empty.length = 0 := rfl
      exact Nat.le_trans (by omega : _ ≤ 100) (by decide)
    have hz2 : (Str.empty ++ z ++ Str.ofString " is not a number").length ≤ sizeLine := by
      have : (Str.empty ++ z ++ Str.ofString " is not a number").length = (Str.empty ++ z).length + (Str.ofString " is not a number").length := Str.length_append _ _
      have : (Str.empty ++ z).length = Str.empty.length + z.length := Str.length_append _ _
      have : Str.empty.length = 0 := rfl
      have : (Str.ofString " is not a number").length = 16 := by decide +kernel
      exact Nat.le_trans (by omega : _ ≤ 116) (by decide)
    rcases h with ⟨n, d, hn, q⟩ | ⟨hn, e⟩
    · exact ⟨_, rfl, x, rfl, .inl ⟨n, d, hn, _, rfl, iteF q⟩⟩
    · exact ⟨_, rfl, x, rfl, .inr ⟨hn, _, rfl, iteT ⟨_, rfl, .inl ⟨z, rfl, Nat.le_trans hz (by decide), z, rfl, hz1, _, rfl, hz2, e⟩⟩⟩⟩
def spNumberOf (K : PySem.W.Frag) (CN CD : Addr) : Sp := fun vs H Q E => ∃ x y, vs = [x, y] ∧
  ((∃ n d, x = .int n ∧ y = .int d ∧ 0 < d ∧ d.natAbs < 2 ^ 8900 ∧ ∀ t, H t = none → Q (.ref t) (upd H t (.tup [.int (rn n d), .int (rd n d)]))) ∨
   (∃ Ty, TyB K H x Ty ∧ Ty ≠ "int" ∧ E (.ref CN) none H) ∨ (∃ n Ty, x = .int n ∧ TyB K H y Ty ∧ Ty ≠ "int" ∧ E (.ref CD) none H) ∨ (∃ n d, x = .int n ∧ y = .int d ∧ d < 1 ∧ E (.ref CD) none H))
theorem ok_numberOf (T : NumTxt K mg g1 g2 g3 g4 g5 g6 g7 g8 CN CD e1 e2 e3 e4 e5 e6 e7 e8) {k : Nat} : FnOk P w K mg base (L2.CX P w) (k + 2) g1 e1 ["n", "d"] (spNumberOf K CN CD) := by
  have GW : FnOk P w K mg base CX0 (k + 1) g5 e5 ["thing"] (spIsWhole K) := ok_isWhole T
  have GL : FnOk P w K mg base CX0 (k + 1) g8 e8 ["n", "d"] spLowest := ok_lowest T
  refine T.FNumberOf.okX scNumberOf (fun vs H Q E h => ?_) (fun cdv A outer s H vs Q E hr h => ?_)
  · obtain ⟨x, y, rfl, _⟩ := h
    rfl
  · obtain ⟨x, y, rfl, h⟩ := h
    refine ⟨_, (pss_cons (ps_if (pt_not (pt_val (pe_call GW hr (by rfl) T.gIsWhole T.FIsWhole.kp T.bIsWhole .nil pass0 (pa_cons (pv 0) pa_nil)))) (pss_one (ps_raise rfl (takes_of rfl rfl rfl rfl) (SkE.pmk_own1 PySem.F.excBase_ValueError T.number.q T.number.g T.number.k (raises_own T.number.b T.number.t) (by exact rfl) pe_str))) pss_nil)
 (pss_cons (ps_if (PW.pt (pw_or (pt_not (pt_val (pe_call GW hr (by rfl) T.gIsWhole T.FIsWhole.kp T.bIsWhole .nil pass0 (pa_cons (pv 1) pa_nil)))) (pw_or1 (pt_cmpR op_lt (pv 1) pe_int (nomark _))))) (pss_one (ps_raise rfl (takes_of rfl rfl rfl rfl) (SkE.pmk_own1 PySem.F.excBase_ValueError T.divisor.q T.divisor.g T.divisor.k (raises_own T.divisor.b T.divisor.t) (by exact rfl) pe_str))) pss_nil)
 (pss_one (ps_ret (pe_call GL hr (by rfl) T.gLowest T.FLowest.kp T.bLowest .nil pass0 (pa_cons (pv 0) (pa_cons (pv 1) pa_nil))))))), ?_⟩
    rcases h with ⟨n, d, rfl, rfl, d0, d1, q⟩ | ⟨Ty, hT, hne, e⟩ | ⟨n, Ty, rfl, hT, hne, e⟩ | ⟨n, d, rfl, rfl, d0, e⟩
    · refine ⟨_, rfl, _, _, rfl, TyB.int n, _, rfl, iteF ?_⟩
      refine ⟨_, rfl, _, _, rfl, TyB.int d, _, rfl, iteF ⟨_, rfl, _, _, rfl, rfl, _, rfl, ?_⟩⟩
      rw [decide_eq_false (show ¬ d < 1 by omega)]
      exact iteF ⟨_, rfl, _, rfl, n, d, rfl, d0, d1, q⟩
    · refine ⟨_, rfl, _, _, rfl, hT, _, rfl, ?_⟩
      rw [decide_eq_false hne]
      exact iteT e
    · refine ⟨_, rfl, _, _, rfl, TyB.int n, _, rfl, iteF ?_⟩
      refine ⟨_, rfl, _, _, rfl, hT, _, rfl, ?_⟩
      rw [decide_eq_false hne]
      exact iteT (iteT e)
    · refine ⟨_, rfl, _, _, rfl, TyB.int n, _, rfl, iteF ?_⟩
      refine ⟨_, rfl, _, _, rfl, TyB.int d, _, rfl, iteF ⟨_, rfl, _, _, rfl, rfl, _, rfl, ?_⟩⟩
      rw [decide_eq_true d0]
      exact iteT e
/-- the size that the reckoning of two numbers stays in -/
def Sml (n : Int) : Prop := n.natAbs < 2 ^ 4000
theorem Sml.mul {n m : Int} (a : Sml n) (b : Sml m) : CMulW n m := wide_mul a b (by decide) (by decide) (by decide)
theorem Sml.lt {n m : Int} (a : Sml n) (b : Sml m) : (n * m).natAbs < 2 ^ 8900 :=
  Nat.lt_of_lt_of_le (wide_lt (a := 4000) (b := 4000) a b) (Nat.pow_le_pow_right (n := 2) (by decide) (show 4000 + 4000 ≤ 8900 by decide))
def spArith (K : PySem.W.Frag) (CN : Addr) (f : Int → Int → Int → Int → Int) : Sp := fun vs H Q E => ∃ x y, vs = [x, y] ∧
  ((∃ n d m e, IsNum K H x n d ∧ IsNum K H y m e ∧ Sml n ∧ Sml d ∧ Sml m ∧ Sml e ∧ ∀ t, H t = none → Q (.ref t) (upd H t (.tup [.int (rn (f n d m e) (d * e)), .int (rd (f n d m e) (d * e))]))) ∨
   (NoNum K H x ∧ E (.ref CN) none H) ∨ (∃ n d, IsNum K H x n d ∧ NoNum K H y ∧ E (.ref CN) none H))
def fPlus (n d m e : Int) : Int := n * e + m * d
def fMinus (n d m e : Int) : Int := n * e - m * d
theorem seqT_at0 {K : PySem.W.Frag} {H : Hp} {t : Addr} {a b : V} (_ : SqT K H t [a, b]) : atI [a, b] 0 = some a := rfl
theorem ok_plus (T : NumTxt K mg g1 g2 g3 g4 g5 g6 g7 g8 CN CD e1 e2 e3 e4 e5 e6 e7 e8) {k : Nat} : FnOk P w K mg base (L2.CX P w) (k + 4) g2 e2 ["a", "b"] (spArith K CN fPlus) := by
  have GN : FnOk P w K mg base (L2.CX P w) (k + 3) g7 e7 ["thing", "name"] (spNeed K CN) := ok_need T
  have GL : FnOk P w K mg base CX0 (k + 3) g8 e8 ["n", "d"] spLowest := ok_lowest T
  refine T.FPlus.okX scPlus (fun vs H Q E h => ?_) (fun cdv A outer s H vs Q E hr h => ?_)
  · obtain ⟨x, y, rfl, _⟩ := h
    rfl
  · obtain ⟨x, y, rfl, h⟩ := h
    refine ⟨_, (pss_cons (ps_expr (pe_call GN hr (by rfl) T.gNeed T.FNeed.kp T.bNeed .nil (passes_call (takes_of rfl rfl rfl rfl) (fun _ _ _ _ h => h)) (pa_cons (pv 0) (pa_cons pe_str pa_nil))))
 (pss_cons (ps_expr (pe_call GN hr (by rfl) T.gNeed T.FNeed.kp T.bNeed .nil (passes_call (takes_of rfl rfl rfl rfl) (fun _ _ _ _ h => h)) (pa_cons (pv 1) (pa_cons pe_str pa_nil))))
 (pss_one (ps_ret (pe_call GL hr (by rfl) T.gLowest T.FLowest.kp T.bLowest .nil pass0 (pa_cons (pe_op op_add (pe_op op_mulW (pe_ix ix_tup (pv 0) pe_int (fun _ _ => rfl)) (pe_ix ix_tup (pv 1) pe_int (fun _ _ => rfl))) (pe_op op_mulW (pe_ix ix_tup (pv 1) pe_int (fun _ _ => rfl)) (pe_ix ix_tup (pv 0) pe_int (fun _ _ => rfl)))) (pa_cons (pe_op op_mulW (pe_ix ix_tup (pv 0) pe_int (fun _ _ => rfl)) (pe_ix ix_tup (pv 1) pe_int (fun _ _ => rfl))) pa_nil))))))), ?_⟩
    rcases h with ⟨n, d, m, e, ⟨ta, rfl, ha, la⟩, ⟨tb, rfl, hb, lb⟩, s1, s2, s3, s4, q⟩ | ⟨hn, hE⟩ | ⟨n, d, hx, hn, hE⟩
    · refine ⟨_, rfl, _, _, rfl, by decide +kernel, .inl ⟨n, d, ⟨ta, rfl, ha, la⟩, ?_⟩⟩
      refine ⟨_, rfl, _, _, rfl, by decide +kernel, .inl ⟨m, e, ⟨tb, rfl, hb, lb⟩, ?_⟩⟩
      refine ⟨_, rfl, ta, _, 0, .int n, rfl, rfl, ha, rfl, _, rfl, tb, _, 1, .int e, rfl, rfl, hb, rfl, _, _, rfl, rfl, s1.mul s4, ?_⟩
      refine ⟨_, rfl, tb, _, 0, .int m, rfl, rfl, hb, rfl, _, rfl, ta, _, 1, .int d, rfl, rfl, ha, rfl, _, _, rfl, rfl, s3.mul s2, _, _, rfl, rfl, ?_⟩
      refine ⟨_, rfl, ta, _, 1, .int d, rfl, rfl, ha, rfl, _, rfl, tb, _, 1, .int e, rfl, rfl, hb, rfl, _, _, rfl, rfl, s2.mul s4, ?_⟩
      exact ⟨_, _, rfl, Int.mul_pos la.pos lb.pos, s2.lt s4, q⟩
    · exact ⟨_, rfl, _, _, rfl, by decide +kernel, .inr ⟨hn, hE⟩⟩
    · exact ⟨_, rfl, _, _, rfl, by decide +kernel, .inl ⟨n, d, hx, _, rfl, _, _, rfl, by decide +kernel, .inr ⟨hn, hE⟩⟩⟩
def spDiff (K : PySem.W.Frag) : Sp := fun vs H Q _ => ∃ x y n d m e, vs = [x, y] ∧ IsNum K H x n d ∧ IsNum K H y m e ∧ Sml n ∧ Sml d ∧ Sml m ∧ Sml e ∧ ∀ t, H t = none → Q (.ref t) (upd H t (.tup [.int (rn (fMinus n d m e) (d * e)), .int (rd (fMinus n d m e) (d * e))]))
theorem ok_diff (T : NumTxt K mg g1 g2 g3 g4 g5 g6 g7 g8 CN CD e1 e2 e3 e4 e5 e6 e7 e8) {g9 : Addr} {e9 : FuncData} (F9 : Fun K "difference" "difference" sDifference g9 e9) {k : Nat} : FnOk P w K mg base CX0 (k + 2) g9 e9 ["a", "b"] (spDiff K) := by
  have GL : FnOk P w K mg base CX0 (k + 1) g8 e8 ["n", "d"] spLowest := ok_lowest T
  refine F9.ok scDifference (fun vs H Q E h => ?_) (fun cdv A outer s H vs Q E hr h => ?_)
  · obtain ⟨x, y, n, d, m, e, rfl, _⟩ := h
    rfl
  · obtain ⟨x, y, n, d, m, e, rfl, ⟨ta, rfl, ha, la⟩, ⟨tb, rfl, hb, lb⟩, s1, s2, s3, s4, q⟩ := h
    refine ⟨_, (pss_one (ps_ret (pe_call GL hr (by rfl) T.gLowest T.FLowest.kp T.bLowest .nil pass0 (pa_cons (pe_op op_sub (pe_op op_mulW (pe_ix ix_tup (pv 0) pe_int (fun _ _ => rfl)) (pe_ix ix_tup (pv 1) pe_int (fun _ _ => rfl))) (pe_op op_mulW (pe_ix ix_tup (pv 1) pe_int (fun _ _ => rfl)) (pe_ix ix_tup (pv 0) pe_int (fun _ _ => rfl)))) (pa_cons (pe_op op_mulW (pe_ix ix_tup (pv 0) pe_int (fun _ _ => rfl)) (pe_ix ix_tup (pv 1) pe_int (fun _ _ => rfl))) pa_nil))))), ?_⟩
    refine ⟨_, rfl, ta, _, 0, .int n, rfl, rfl, ha, rfl, _, rfl, tb, _, 1, .int e, rfl, rfl, hb, rfl, _, _, rfl, rfl, s1.mul s4, ?_⟩
    refine ⟨_, rfl, tb, _, 0, .int m, rfl, rfl, hb, rfl, _, rfl, ta, _, 1, .int d, rfl, rfl, ha, rfl, _, _, rfl, rfl, s3.mul s2, _, _, rfl, rfl, ?_⟩
    refine ⟨_, rfl, ta, _, 1, .int d, rfl, rfl, ha, rfl, _, rfl, tb, _, 1, .int e, rfl, rfl, hb, rfl, _, _, rfl, rfl, s2.mul s4, ?_⟩
    exact ⟨_, _, rfl, Int.mul_pos la.pos lb.pos, s2.lt s4, q⟩
theorem ok_minus (T : NumTxt K mg g1 g2 g3 g4 g5 g6 g7 g8 CN CD e1 e2 e3 e4 e5 e6 e7 e8) {k : Nat} : FnOk P w K mg base (L2.CX P w) (k + 4) g3 e3 ["a", "b"] (spArith K CN fMinus) := by
  have GN : FnOk P w K mg base (L2.CX P w) (k + 3) g7 e7 ["thing", "name"] (spNeed K CN) := ok_need T
  obtain ⟨g9, e9, F9, b9, m9⟩ := T.diff
  have GD : FnOk P w K mg base CX0 (k + 3) g9 e9 ["a", "b"] (spDiff K) := ok_diff T F9 (k := k + 1)
  refine T.FMinus.okX scMinus (fun vs H Q E h => ?_) (fun cdv A outer s H vs Q E hr h => ?_)
  · obtain ⟨x, y, rfl, _⟩ := h
    rfl
  · obtain ⟨x, y, rfl, h⟩ := h
    refine ⟨_, (pss_cons (ps_expr (pe_call GN hr (by rfl) T.gNeed T.FNeed.kp T.bNeed .nil (passes_call (takes_of rfl rfl rfl rfl) (fun _ _ _ _ h => h)) (pa_cons (pv 0) (pa_cons pe_str pa_nil))))
 (pss_cons (ps_expr (pe_call GN hr (by rfl) T.gNeed T.FNeed.kp T.bNeed .nil (passes_call (takes_of rfl rfl rfl rfl) (fun _ _ _ _ h => h)) (pa_cons (pv 1) (pa_cons pe_str pa_nil))))
 (pss_one (ps_ret (pe_call GD hr (by rfl) m9 F9.kp b9 .nil pass0 (pa_cons (pv 0) (pa_cons (pv 1) pa_nil))))))), ?_⟩
    rcases h with ⟨n, d, m, e, ⟨ta, rfl, ha, la⟩, ⟨tb, rfl, hb, lb⟩, s1, s2, s3, s4, q⟩ | ⟨hn, hE⟩ | ⟨n, d, hx, hn, hE⟩
    · refine ⟨_, rfl, _, _, rfl, by decide +kernel, .inl ⟨n, d, ⟨ta, rfl, ha, la⟩, ?_⟩⟩
      refine ⟨_, rfl, _, _, rfl, by decide +kernel, .inl ⟨m, e, ⟨tb, rfl, hb, lb⟩, ?_⟩⟩
      exact ⟨_, rfl, _, rfl, _, _, n, d, m, e, rfl, ⟨ta, rfl, ha, la⟩, ⟨tb, rfl, hb, lb⟩, s1, s2, s3, s4, q⟩
    · exact ⟨_, rfl, _, _, rfl, by decide +kernel, .inr ⟨hn, hE⟩⟩
    · exact ⟨_, rfl, _, _, rfl, by decide +kernel, .inl ⟨n, d, hx, _, rfl, _, _, rfl, by decide +kernel, .inr ⟨hn, hE⟩⟩⟩
def cmpI (n d m e : Int) : Int := if n * e = m * d then 0 else if n * e < m * d then -1 else 1
def spCompared (K : PySem.W.Frag) (CN : Addr) : Sp := fun vs H Q E => ∃ x y, vs = [x, y] ∧
  ((∃ n d m e, IsNum K H x n d ∧ IsNum K H y m e ∧ Sml n ∧ Sml d ∧ Sml m ∧ Sml e ∧ Q (.int (cmpI n d m e)) H) ∨
   (NoNum K H x ∧ E (.ref CN) none H) ∨ (∃ n d, IsNum K H x n d ∧ NoNum K H y ∧ E (.ref CN) none H))
theorem ok_compared (T : NumTxt K mg g1 g2 g3 g4 g5 g6 g7 g8 CN CD e1 e2 e3 e4 e5 e6 e7 e8) {k : Nat} : FnOk P w K mg base (L2.CX P w) (k + 4) g4 e4 ["a", "b"] (spCompared K CN) := by
  have GN : FnOk P w K mg base (L2.CX P w) (k + 3) g7 e7 ["thing", "name"] (spNeed K CN) := ok_need T
  refine T.FCompared.okX scCompared (fun vs H Q E h => ?_) (fun cdv A outer s H vs Q E hr h => ?_)
  · obtain ⟨x, y, rfl, _⟩ := h
    rfl
  · obtain ⟨x, y, rfl, h⟩ := h
    refine ⟨_, (pss_cons (ps_expr (pe_call GN hr (by rfl) T.gNeed T.FNeed.kp T.bNeed .nil (passes_call (takes_of rfl rfl rfl rfl) (fun _ _ _ _ h => h)) (pa_cons (pv 0) (pa_cons pe_str pa_nil))))
 (pss_cons (ps_expr (pe_call GN hr (by rfl) T.gNeed T.FNeed.kp T.bNeed .nil (passes_call (takes_of rfl rfl rfl rfl) (fun _ _ _ _ h => h)) (pa_cons (pv 1) (pa_cons pe_str pa_nil))))
 (Evl.pss_cut (ps_par (i := 2) (j := 3) (by rfl) scCompared.nd rfl rfl (by decide) rfl rfl (pa_cons (pe_op op_mulW (pe_ix ix_tup (pv 0) pe_int (fun _ _ => rfl)) (pe_ix ix_tup (pv 1) pe_int (fun _ _ => rfl))) (pa_cons (pe_op op_mulW (pe_ix ix_tup (pv 1) pe_int (fun _ _ => rfl)) (pe_ix ix_tup (pv 0) pe_int (fun _ _ => rfl))) pa_nil)) (by rfl))
 (pss_cons (ps_if (pt_cmpR op_eq (pv 2) (pv 3) (nomark _)) (pss_one (ps_ret pe_int)) pss_nil)
 (pss_one (ps_ret (pe_ifExp (pt_cmpR op_lt (pv 2) (pv 3) (nomark _)) (pe_un un_neg pe_int) pe_int))))))), ?_⟩
    rcases h with ⟨n, d, m, e, ⟨ta, rfl, ha, la⟩, ⟨tb, rfl, hb, lb⟩, s1, s2, s3, s4, q⟩ | ⟨hn, hE⟩ | ⟨n, d, hx, hn, hE⟩
    · refine ⟨_, rfl, _, _, rfl, by decide +kernel, .inl ⟨n, d, ⟨ta, rfl, ha, la⟩, ?_⟩⟩
      refine ⟨_, rfl, _, _, rfl, by decide +kernel, .inl ⟨m, e, ⟨tb, rfl, hb, lb⟩, ?_⟩⟩
      refine ⟨fun σ H' => σ = [some (.ref ta), some (.ref tb), some (.int (n * e)), some (.int (m * d))] ∧ H' = H, ?_, ?_⟩
      · refine ⟨_, rfl, ta, _, 0, .int n, rfl, rfl, ha, rfl, _, rfl, tb, _, 1, .int e, rfl, rfl, hb, rfl, _, _, rfl, rfl, s1.mul s4, ?_⟩
        exact ⟨_, rfl, tb, _, 0, .int m, rfl, rfl, hb, rfl, _, rfl, ta, _, 1, .int d, rfl, rfl, ha, rfl, _, _, rfl, rfl, s3.mul s2, _, _, rfl, rfl, rfl⟩
      rintro σ H' ⟨rfl, rfl⟩
      unfold cmpI at q
      refine ⟨_, rfl, _, rfl, rfl, _, rfl, ite2 (fun z => ?_) (fun z => ?_)⟩
      · rw [if_pos (V.int.inj (of_decide_eq_true z))] at q
        exact q
      · have z' : ¬ n * e = m * d := fun y => z (decide_eq_true (congrArg V.int y))
        rw [if_neg z'] at q
        refine ⟨_, rfl, _, rfl, _, _, rfl, rfl, _, rfl, ite2 (fun y => ?_) (fun y => ?_)⟩
        · rw [if_pos (of_decide_eq_true y)] at q
          exact ⟨_, rfl, q⟩
        · rw [if_neg (fun u => y (decide_eq_true u))] at q
          exact q
    · exact ⟨_, rfl, _, _, rfl, by decide +kernel, .inr ⟨hn, hE⟩⟩
    · exact ⟨_, rfl, _, _, rfl, by decide +kernel, .inl ⟨n, d, hx, _, rfl, _, _, rfl, by decide +kernel, .inr ⟨hn, hE⟩⟩⟩
end
end My
/-! ### the law's own functions of numbers -/
namespace My
open PySem PySem.Spec PyProof.Rows L2
abbrev sXNumber : Stmt := topS 20
abbrev sXPlus : Stmt := topS 21
abbrev sXMinus : Stmt := topS 22
abbrev sXLess : Stmt := topS 23
abbrev sXGreat : Stmt := topS 24
abbrev sXAny : Stmt := topS 25
abbrev sLaw : Stmt := topS 26
theorem scXNumber : FnScope ["n", "d", "one", "other"] ["n", "d"] (defScope sXNumber) := ⟨rfl, rfl, rfl, by decide +kernel, rfl, by decide +kernel, by decide +kernel⟩
theorem scXPlus : FnScope ["a", "b"] ["a", "b"] (defScope sXPlus) := ⟨rfl, rfl, rfl, by decide +kernel, rfl, by decide +kernel, by decide +kernel⟩
theorem scXMinus : FnScope ["a", "b"] ["a", "b"] (defScope sXMinus) := ⟨rfl, rfl, rfl, by decide +kernel, rfl, by decide +kernel, by decide +kernel⟩
theorem scXLess : FnScope ["a", "b"] ["a", "b"] (defScope sXLess) := ⟨rfl, rfl, rfl, by decide +kernel, rfl, by decide +kernel, by decide +kernel⟩
theorem scXGreat : FnScope ["found", "turn"] [] (defScope sXGreat) := ⟨rfl, rfl, rfl, by decide +kernel, rfl, by decide +kernel, by decide +kernel⟩
theorem scXAny : FnScope ["pen", "most", "n", "d", "by"] ["pen"] (defScope sXAny) := ⟨rfl, rfl, rfl, by decide +kernel, rfl, by decide +kernel, by decide +kernel⟩
theorem scLaw : FnScope ["script", "pen", "turn", "n", "d", "a", "k", "e", "b", "due"] ["script"] (defScope sLaw) := ⟨rfl, rfl, rfl, by decide +kernel, rfl, by decide +kernel, by decide +kernel⟩
structure X31 (K : PySem.W.Frag) (mg : Str → Option Value) (h1 h2 h3 h4 h5 h6 : Addr) (u1 u2 u3 u4 u5 u6 : FuncData) : Prop where
  int : mg "int" = none
  abs : mg "abs" = none
  range : mg "range" = none
  repr : mg "repr" = none
  FXNumber : Fun K "_law_x_number" "_law_x_number" sXNumber h1 u1
  bXNumber : Binds K u1 ["n", "d"] []
  gXNumber : mg "_law_x_number" = some (.ref h1)
  FXPlus : Fun K "_law_x_plus" "_law_x_plus" sXPlus h2 u2
  bXPlus : Binds K u2 ["a", "b"] []
  gXPlus : mg "_law_x_plus" = some (.ref h2)
  FXMinus : Fun K "_law_x_minus" "_law_x_minus" sXMinus h3 u3
  bXMinus : Binds K u3 ["a", "b"] []
  gXMinus : mg "_law_x_minus" = some (.ref h3)
  FXLess : Fun K "_law_x_is_less" "_law_x_is_less" sXLess h4 u4
  bXLess : Binds K u4 ["a", "b"] []
  gXLess : mg "_law_x_is_less" = some (.ref h4)
  FXGreat : Fun K "_law_x_great" "_law_x_great" sXGreat h5 u5
  bXGreat : Binds K u5 [] []
  gXGreat : mg "_law_x_great" = some (.ref h5)
  FXAny : Fun K "_law_x_any" "_law_x_any" sXAny h6 u6
  bXAny : Binds K u6 ["pen"] []
  gXAny : mg "_law_x_any" = some (.ref h6)
theorem gg_nat (a b : Nat) : gg (a : Int) (b : Int) = ((Nat.gcd a b : Nat) : Int) := by
  unfold gg
  rw [Int.natAbs_natCast, Int.natAbs_natCast]
section
variable {P : Program} {w : World} {K : PySem.W.Frag} {mg : Str → Option Value} {base : Heap} {h1 h2 h3 h4 h5 h6 : Addr} {u1 u2 u3 u4 u5 u6 : FuncData}
theorem ok_xNumber (T : X31 K mg h1 h2 h3 h4 h5 h6 u1 u2 u3 u4 u5 u6) {k : Nat} : FnOk P w K mg base CX0 (k + 1) h1 u1 ["n", "d"] spLowest := by
  refine T.FXNumber.ok scXNumber (fun vs H Q E h => ?_) (fun cdv A outer s H vs Q E hr h => ?_)
  · obtain ⟨n, d, rfl, _⟩ := h
    rfl
  · obtain ⟨n, d, rfl, d0, d1, q⟩ := h
    refine ⟨_, (pss_cons (ps_par (i := 2) (j := 3) (by rfl) scXNumber.nd rfl rfl (by decide) rfl rfl (pa_cons (pe_callB call_abs (by rfl) T.abs (by decide +kernel) (pa_cons (pv 0) pa_nil)) (pa_cons (pv 1) pa_nil)) (by rfl))
 (pss_cons (ps_while PassesOwn.never (pt_cmpR op_ne (pv 3) pe_int (nomark _))
 (pss_one (ps_par (i := 2) (j := 3) (by rfl) scXNumber.nd rfl rfl (by decide) rfl rfl (pa_cons (pv 3) (pa_cons (pe_op op_mod (pe_callTy call_int1 (by rfl) T.int (by decide +kernel) (pa_cons (pv 2) pa_nil)) (pv 3)) pa_nil)) (by rfl))))
 (pss_one (ps_ret (pe_tup (pa_cons (pe_op op_fdivW (pv 0) (pv 2)) (pa_cons (pe_op op_fdivW (pv 1) (pv 2)) pa_nil))))))), ?_⟩
    refine ⟨_, rfl, _, rfl, _, rfl, _, _, rfl, ?_⟩
    refine while_by (fun σ H' => ∃ a b : Nat, σ = [some (.int n), some (.int d), some (.int (a : Int)), some (.int (b : Int))] ∧ Nat.gcd a b = Nat.gcd n.natAbs d.natAbs ∧ H' = H) (fun σ H' => match σ with | [_, _, _, some (.int b)] => b.natAbs | _ => 0)
      ⟨n.natAbs, d.natAbs, ?_, rfl, rfl⟩ ?_ ?_
    · have e1 : (if n < 0 then -n else n) = ((n.natAbs : Nat) : Int) := by
        split <;> omega
      have e2 : d = ((d.natAbs : Nat) : Int) := by omega
      show [some (V.int n), some (V.int d), some (V.int (if n < 0 then -n else n)), some (V.int d)] = _
      rw [e1, ← e2]
    · rintro σ H' ⟨a, b, rfl, hg, rfl⟩
      refine ⟨_, rfl, rfl, _, rfl, ?_⟩
      by_cases hb : b = 0
      · subst hb
        have e : decide (V.int ((0 : Nat) : Int) = V.int 0) = true := decide_eq_true rfl
        rw [e]
        refine iteF ?_
        have ea : (a : Int) = gg n d := by
          unfold gg
          rw [← hg, Nat.gcd_zero_right]
        rw [ea]
        have c : CDivW n (gg n d) := wide_div (gg_pos d0) (b := 8900) (Nat.lt_of_le_of_lt (by have := gg_le (n := n) d0; have := gg_pos (n := n) d0; omega) d1) (by decide) (by decide)
        exact ⟨_, rfl, _, rfl, _, _, rfl, rfl, c, _, rfl, _, rfl, _, _, rfl, rfl, c, (by show 2 ≤ sizeLine; decide), fun t ht => q t ht⟩
      · have e : decide (V.int (b : Int) = V.int 0) = false := decide_eq_false fun z => hb (by have := V.int.inj z; omega)
        rw [e]
        refine iteT ⟨_, rfl, _, rfl, .inl ⟨_, rfl, _, rfl, _, _, rfl, rfl, (by show (0 : Int) < b; omega), _, _, rfl, ⟨b, a % b, rfl, ?_, rfl⟩, ?_⟩⟩
        · rw [← hg, Nat.gcd_comm b (a % b), ← Nat.gcd_rec b a, Nat.gcd_comm]
        · show (((a : Int) % (b : Int))).natAbs < ((b : Int)).natAbs
          have := Nat.mod_lt a (Nat.pos_of_ne_zero hb)
          rw [← Int.natCast_emod, Int.natAbs_natCast, Int.natAbs_natCast]
          exact this
    · intro σ H' Q1 Q2 hq hc
      obtain ⟨v, hv, hs, k', hk, q'⟩ := hc
      exact ⟨v, hv, hs, k', hk, hq _ _ q'⟩
/-- as the program's sum and difference, of numbers -/
def spXArith (K : PySem.W.Frag) (f : Int → Int → Int → Int → Int) : Sp := fun vs H Q _ => ∃ x y n d m e, vs = [x, y] ∧ IsNum K H x n d ∧ IsNum K H y m e ∧ Sml n ∧ Sml d ∧ Sml m ∧ Sml e ∧
  ∀ t, H t = none → Q (.ref t) (upd H t (.tup [.int (rn (f n d m e) (d * e)), .int (rd (f n d m e) (d * e))]))
theorem ok_xPlus (T : X31 K mg h1 h2 h3 h4 h5 h6 u1 u2 u3 u4 u5 u6) {k : Nat} : FnOk P w K mg base CX0 (k + 2) h2 u2 ["a", "b"] (spXArith K fPlus) := by
  have GL : FnOk P w K mg base CX0 (k + 1) h1 u1 ["n", "d"] spLowest := ok_xNumber T
  refine T.FXPlus.ok scXPlus (fun vs H Q E h => ?_) (fun cdv A outer s H vs Q E hr h => ?_)
  · obtain ⟨x, y, n, d, m, e, rfl, _⟩ := h
    rfl
  · obtain ⟨x, y, n, d, m, e, rfl, ⟨ta, rfl, ha, la⟩, ⟨tb, rfl, hb, lb⟩, s1, s2, s3, s4, q⟩ := h
    refine ⟨_, (pss_one (ps_ret (pe_call GL hr (by rfl) T.gXNumber T.FXNumber.kp T.bXNumber .nil pass0 (pa_cons (pe_op op_add (pe_op op_mulW (pe_ix ix_tup (pv 0) pe_int (fun _ _ => rfl)) (pe_ix ix_tup (pv 1) pe_int (fun _ _ => rfl))) (pe_op op_mulW (pe_ix ix_tup (pv 1) pe_int (fun _ _ => rfl)) (pe_ix ix_tup (pv 0) pe_int (fun _ _ => rfl)))) (pa_cons (pe_op op_mulW (pe_ix ix_tup (pv 0) pe_int (fun _ _ => rfl)) (pe_ix ix_tup (pv 1) pe_int (fun _ _ => rfl))) pa_nil))))), ?_⟩
    refine ⟨_, rfl, ta, _, 0, .int n, rfl, rfl, ha, rfl, _, rfl, tb, _, 1, .int e, rfl, rfl, hb, rfl, _, _, rfl, rfl, s1.mul s4, ?_⟩
    refine ⟨_, rfl, tb, _, 0, .int m, rfl, rfl, hb, rfl, _, rfl, ta, _, 1, .int d, rfl, rfl, ha, rfl, _, _, rfl, rfl, s3.mul s2, _, _, rfl, rfl, ?_⟩
    refine ⟨_, rfl, ta, _, 1, .int d, rfl, rfl, ha, rfl, _, rfl, tb, _, 1, .int e, rfl, rfl, hb, rfl, _, _, rfl, rfl, s2.mul s4, ?_⟩
    exact ⟨_, _, rfl, Int.mul_pos la.pos lb.pos, s2.lt s4, q⟩
theorem ok_xMinus (T : X31 K mg h1 h2 h3 h4 h5 h6 u1 u2 u3 u4 u5 u6) {k : Nat} : FnOk P w K mg base CX0 (k + 2) h3 u3 ["a", "b"] (spXArith K fMinus) := by
  have GL : FnOk P w K mg base CX0 (k + 1) h1 u1 ["n", "d"] spLowest := ok_xNumber T
  refine T.FXMinus.ok scXMinus (fun vs H Q E h => ?_) (fun cdv A outer s H vs Q E hr h => ?_)
  · obtain ⟨x, y, n, d, m, e, rfl, _⟩ := h
    rfl
  · obtain ⟨x, y, n, d, m, e, rfl, ⟨ta, rfl, ha, la⟩, ⟨tb, rfl, hb, lb⟩, s1, s2, s3, s4, q⟩ := h
    refine ⟨_, (pss_one (ps_ret (pe_call GL hr (by rfl) T.gXNumber T.FXNumber.kp T.bXNumber .nil pass0 (pa_cons (pe_op op_sub (pe_op op_mulW (pe_ix ix_tup (pv 0) pe_int (fun _ _ => rfl)) (pe_ix ix_tup (pv 1) pe_int (fun _ _ => rfl))) (pe_op op_mulW (pe_ix ix_tup (pv 1) pe_int (fun _ _ => rfl)) (pe_ix ix_tup (pv 0) pe_int (fun _ _ => rfl)))) (pa_cons (pe_op op_mulW (pe_ix ix_tup (pv 0) pe_int (fun _ _ => rfl)) (pe_ix ix_tup (pv 1) pe_int (fun _ _ => rfl))) pa_nil))))), ?_⟩
    refine ⟨_, rfl, ta, _, 0, .int n, rfl, rfl, ha, rfl, _, rfl, tb, _, 1, .int e, rfl, rfl, hb, rfl, _, _, rfl, rfl, s1.mul s4, ?_⟩
    refine ⟨_, rfl, tb, _, 0, .int m, rfl, rfl, hb, rfl, _, rfl, ta, _, 1, .int d, rfl, rfl, ha, rfl, _, _, rfl, rfl, s3.mul s2, _, _, rfl, rfl, ?_⟩
    refine ⟨_, rfl, ta, _, 1, .int d, rfl, rfl, ha, rfl, _, rfl, tb, _, 1, .int e, rfl, rfl, hb, rfl, _, _, rfl, rfl, s2.mul s4, ?_⟩
    exact ⟨_, _, rfl, Int.mul_pos la.pos lb.pos, s2.lt s4, q⟩
def spXLess (K : PySem.W.Frag) : Sp := fun vs H Q _ => ∃ x y n d m e, vs = [x, y] ∧ IsNum K H x n d ∧ IsNum K H y m e ∧ Sml n ∧ Sml d ∧ Sml m ∧ Sml e ∧ Q (.bl (decide (n * e < m * d))) H
theorem ok_xLess (T : X31 K mg h1 h2 h3 h4 h5 h6 u1 u2 u3 u4 u5 u6) {k : Nat} : FnOk P w K mg base CX0 (k + 1) h4 u4 ["a", "b"] (spXLess K) := by
  refine T.FXLess.ok scXLess (fun vs H Q E h => ?_) (fun cdv A outer s H vs Q E hr h => ?_)
  · obtain ⟨x, y, n, d, m, e, rfl, _⟩ := h
    rfl
  · obtain ⟨x, y, n, d, m, e, rfl, ⟨ta, rfl, ha, la⟩, ⟨tb, rfl, hb, lb⟩, s1, s2, s3, s4, q⟩ := h
    refine ⟨_, (pss_one (ps_ret (pe_cmpR op_lt (pe_op op_mulW (pe_ix ix_tup (pv 0) pe_int (fun _ _ => rfl)) (pe_ix ix_tup (pv 1) pe_int (fun _ _ => rfl))) (pe_op op_mulW (pe_ix ix_tup (pv 1) pe_int (fun _ _ => rfl)) (pe_ix ix_tup (pv 0) pe_int (fun _ _ => rfl))) (nomark _)))), ?_⟩
    refine ⟨_, rfl, ta, _, 0, .int n, rfl, rfl, ha, rfl, _, rfl, tb, _, 1, .int e, rfl, rfl, hb, rfl, _, _, rfl, rfl, s1.mul s4, ?_⟩
    exact ⟨_, rfl, tb, _, 0, .int m, rfl, rfl, hb, rfl, _, rfl, ta, _, 1, .int d, rfl, rfl, ha, rfl, _, _, rfl, rfl, s3.mul s2, _, _, rfl, rfl, q⟩
def spXGreat : Sp := fun vs H Q _ => vs = [] ∧ ∀ z : Int, 0 < z → z.natAbs < 2 ^ 4001 → Q (.int z) H
theorem ok_xGreat (T : X31 K mg h1 h2 h3 h4 h5 h6 u1 u2 u3 u4 u5 u6) {k : Nat} : FnOk P w K mg base CX0 (k + 1) h5 u5 [] spXGreat := by
  refine T.FXGreat.ok scXGreat (fun vs H Q E h => ?_) (fun cdv A outer s H vs Q E hr h => ?_)
  · obtain ⟨rfl, _⟩ := h
    rfl
  · obtain ⟨rfl, q⟩ := h
    refine ⟨_, (pss_cons (ps_set (i := 0) scXGreat.nd rfl (.inl rfl) pe_int)
 (pss_cons (ps_for PassesOwn.never rfl (pi_range1 (by rfl) T.range (pa_cons pe_int pa_nil)) (pg_name (i := 1) scXGreat.nd rfl (.inl rfl))
 (pss_one (ps_set (i := 0) scXGreat.nd rfl (.inl rfl) (pe_op op_mulW (pv 0) (pe_op op_pow pe_int pe_int)))))
 (pss_one (ps_ret (pv 0))))), ?_⟩
    have step : ∀ (i : Nat) (z : Int), z.natAbs < 2 ^ (200 * i + 1) → (z * (10 : Int) ^ (60 : Int).toNat).natAbs < 2 ^ (200 * (i + 1) + 1) := by
      intro i z hz
      have h10 : ((10 : Int) ^ (60 : Int).toNat).natAbs < 2 ^ 200 := by decide
      have e : 200 * (i + 1) + 1 = (200 * i + 1) + 200 := by omega
      rw [e]
      exact wide_lt hz h10
    refine ⟨20, rfl, by decide, by decide, for_range (lo := 0) (n := 20) (fun i σ H' => ∃ (z : Int) (v : Option V), σ = [some (.int z), v] ∧ H' = H ∧ 0 < z ∧ z.natAbs < 2 ^ (200 * i + 1)) ⟨1, none, rfl, rfl, by decide, by decide⟩ ?_ ?_⟩
    · rintro i σ H' hi ⟨z, v, rfl, rfl, z0, z1⟩
      refine ⟨_, rfl, _, _, rfl, rfl, ⟨by decide, by decide, by decide⟩, _, _, rfl, rfl, ?_, _, _, rfl, rfl, ?_, step i z z1⟩
      · have h10 : ((10 : Int) ^ (60 : Int).toNat).natAbs < 2 ^ 200 := by decide
        exact wide_mul z1 h10 (by omega) (by decide) (by omega)
      · exact Int.mul_pos z0 (by decide)
    · rintro σ H' ⟨z, v, rfl, rfl, z0, z1⟩
      exact ⟨_, rfl, q z z0 z1⟩
theorem log_of {n : Int} {k : Nat} (h0 : 0 < k) (h : n.natAbs < 2 ^ k) (hk : k ≤ 9000) : n.natAbs.log2 < 9000 := Nat.lt_of_lt_of_le (PySem.Flt.log2_lt_of h0 h) hk
/-- a fraction that is not in lowest terms, and it is: all that the law draws -/
structure Any (H : Hp) (t : Addr) (N D B : Int) (u : Addr) : Prop where
  tup : H t = some (.tup [.int (N * B), .int (D * B), .ref u])
  low : H u = some (.tup [.int (rn N D), .int (rd N D)])
  d0 : 0 < D
  b0 : 0 < B
  n1 : N.natAbs < 2 ^ 600
  d1 : D.natAbs < 2 ^ 600
  b1 : B.natAbs < 2 ^ 4001
def spXAny : Sp := fun vs H Q _ => ∃ (p : Addr) (n : Nat), vs = [.ref p] ∧ Pen H p n ∧ n + 6 < 1048000 ∧ ∀ (H' : Hp) (t u : Addr) (N D B : Int), But p H H' → Pen H' p (n + 6) → Any H' t N D B u → Q (.ref t) H'
theorem new_ne {H : Hp} {p l : Addr} {n : Nat} (h : Pen H p n) (hl : H l = none) : l ≠ p := by
  obtain ⟨xs, e⟩ := h.ls
  exact (ne_of_none e hl).symm
variable {f1 f2 f3 f4 : Addr} {d1 d2 d3 d4 : FuncData}
theorem ok_xAny (T : X31 K mg h1 h2 h3 h4 h5 h6 u1 u2 u3 u4 u5 u6) (TP : PenTxt K mg f1 f2 f3 f4 d1 d2 d3 d4) {k : Nat} : FnOk P w K mg base CX0 (k + 4) h6 u6 ["pen"] spXAny := by
  have GL : FnOk P w K mg base CX0 (k + 3) h1 u1 ["n", "d"] spLowest := ok_xNumber T
  have GG : FnOk P w K mg base CX0 (k + 3) h5 u5 [] spXGreat := ok_xGreat T
  have GT : FnOk P w K mg base CX0 (k + 3) f3 d3 ["pen", "many"] spTake := ok_take TP (k := k + 1)
  have GP : FnOk P w K mg base CX0 (k + 3) f4 d4 ["pen", "some"] (spPick K) := ok_pick TP
  refine T.FXAny.ok scXAny (fun vs H Q E h => ?_) (fun cdv A outer s H vs Q E hr h => ?_)
  · obtain ⟨p, n, rfl, _⟩ := h
    rfl
  · obtain ⟨p, c, rfl, hP, hc, q⟩ := h
    refine ⟨_, (Evl.pss_cut (ps_set (i := 1) scXAny.nd rfl (.inl rfl) (pe_call GP hr (by rfl) TP.gPick TP.FPick.kp TP.bPick .nil pass0 (pa_cons (pv 0) (pa_cons (pe_lst (pa_cons pe_int (pa_cons pe_int (pa_cons pe_int (pa_cons (pe_op op_pow pe_int pe_int) (pa_cons (pe_op op_pow pe_int pe_int) (pa_cons (pe_op op_mulW (pe_op op_mulW (pe_op op_pow pe_int pe_int) (pe_op op_pow pe_int pe_int)) (pe_op op_pow pe_int pe_int)) pa_nil))))))) pa_nil))))
 (Evl.pss_cut (ps_par (i := 2) (j := 3) (by rfl) scXAny.nd rfl rfl (by decide) rfl rfl (pa_cons (pe_op op_sub (pe_call GT hr (by rfl) TP.gTake TP.FTake.kp TP.bTake .nil pass0 (pa_cons (pv 0) (pa_cons (pe_op op_mul pe_int (pv 1)) pa_nil))) (pv 1)) (pa_cons (pe_op op_add pe_int (pe_call GT hr (by rfl) TP.gTake TP.FTake.kp TP.bTake .nil pass0 (pa_cons (pv 0) (pa_cons (pe_call GP hr (by rfl) TP.gPick TP.FPick.kp TP.bPick .nil pass0 (pa_cons (pv 0) (pa_cons (pe_lst (pa_cons pe_int (pa_cons pe_int (pa_cons pe_int (pa_cons (pv 1) pa_nil))))) pa_nil))) pa_nil)))) pa_nil)) (by rfl))
 (Evl.pss_cut (ps_set (i := 4) scXAny.nd rfl (.inl rfl) (pe_call GP hr (by rfl) TP.gPick TP.FPick.kp TP.bPick .nil pass0 (pa_cons (pv 0) (pa_cons (pe_lst (pa_cons pe_int (pa_cons pe_int (pa_cons pe_int (pa_cons (pe_op op_add pe_int (pe_call GT hr (by rfl) TP.gTake TP.FTake.kp TP.bTake .nil pass0 (pa_cons (pv 0) (pa_cons (pe_op op_pow pe_int pe_int) pa_nil)))) (pa_cons (pe_call0 GG hr (by rfl) T.gXGreat T.FXGreat.kp T.bXGreat .nil pass0) pa_nil)))))) pa_nil))))
 (pss_one (ps_ret (pe_tup (pa_cons (pe_op op_mulW (pv 2) (pv 4)) (pa_cons (pe_op op_mulW (pv 3) (pv 4)) (pa_cons (pe_call GL hr (by rfl) T.gXNumber T.FXNumber.kp T.bXNumber .nil pass0 (pa_cons (pv 2) (pa_cons (pv 3) pa_nil))) pa_nil))))))))), ?_⟩
    have h10 : ((10 : Int) ^ (60 : Int).toNat).natAbs < 2 ^ 200 := by decide
    -- most
    refine ⟨fun σ H' => ∃ most : Int, σ = [some (.ref p), some (.int most), none, none, none] ∧ 0 < most ∧ most.natAbs < 2 ^ 600 ∧ But p H H' ∧ Pen H' p (c + 1), ?_, ?_⟩
    · refine ⟨_, rfl, _, _, rfl, rfl, ⟨by decide, by decide, by decide⟩, _, _, rfl, rfl, ⟨by decide, by decide, by decide⟩, ?_⟩
      refine ⟨_, _, rfl, rfl, ⟨by decide, by decide, by decide⟩, _, _, rfl, rfl, ⟨by decide, by decide, by decide⟩, _, _, rfl, rfl, wide_mul h10 h10 (by decide) (by decide) (by decide), _, _, rfl, rfl, ⟨by decide, by decide, by decide⟩, _, _, rfl, rfl, wide_mul (a := 400) (wide_lt h10 h10) h10 (by decide) (by decide) (by decide), ?_⟩
      refine ⟨(by show 6 ≤ sizeLine; decide), fun l hl => ?_⟩
      have sl := same_upd (o := HO.lst [.int 2, .int 10, .int 10, .int ((10 : Int) ^ (9 : Int).toNat), .int ((10 : Int) ^ (40 : Int).toNat), .int ((10 : Int) ^ (60 : Int).toNat * (10 : Int) ^ (60 : Int).toNat * (10 : Int) ^ (60 : Int).toNat)]) hl
      refine ⟨p, l, _, c, rfl, hP.same sl, by omega, SqL.of upd_same, new_ne hP hl, (by show 0 < 6; decide), (by show 6 ≤ 1000; decide), fun H2 k2 v b2 hP2 hv => ?_⟩
      have hm := List.mem_of_getElem? hv
      simp only [List.mem_cons, List.not_mem_nil, or_false] at hm
      have bt := (But.of sl).trans b2
      rcases hm with rfl | rfl | rfl | rfl | rfl | rfl
      · exact ⟨_, rfl, by decide, by decide, bt, hP2⟩
      · exact ⟨_, rfl, by decide, by decide, bt, hP2⟩
      · exact ⟨_, rfl, by decide, by decide, bt, hP2⟩
      · exact ⟨_, rfl, by decide, by decide, bt, hP2⟩
      · exact ⟨_, rfl, by decide, by decide, bt, hP2⟩
      · exact ⟨_, rfl, by decide, by decide, bt, hP2⟩
    rintro σ H1 ⟨most, rfl, m0, m1, b1, hP1⟩
    -- n, d
    refine ⟨fun σ H' => ∃ n d : Int, σ = [some (.ref p), some (.int most), some (.int n), some (.int d), none] ∧ 0 < d ∧ n.natAbs < 2 ^ 600 ∧ d.natAbs < 2 ^ 600 ∧ But p H H' ∧ Pen H' p (c + 4), ?_, ?_⟩
    · have two : (2 * most).natAbs < 2 ^ (2 + 600) := wide_lt (i := 2) (a := 2) (by decide) m1
      refine ⟨_, rfl, _, rfl, _, _, rfl, rfl, .inl ⟨by decide, by decide⟩, p, _, c + 1, rfl, hP1, by omega, by omega, log_of (by decide) two (by decide), fun H2 k2 b2 hP2 k0 k1 => ?_⟩
      refine ⟨_, rfl, _, _, rfl, rfl, _, rfl, _, rfl, _, rfl, (by show 4 ≤ sizeLine; decide), fun l hl => ?_⟩
      have sl := same_upd (o := HO.lst [.int 1, .int 6, .int 6, .int most]) hl
      refine ⟨p, l, _, c + 1 + 1, rfl, hP2.same sl, by omega, SqL.of upd_same, new_ne hP2 hl, (by show 0 < 4; decide), (by show 4 ≤ 1000; decide), fun H3 k3 v b3 hP3 hv => ?_⟩
      have hm := List.mem_of_getElem? hv
      simp only [List.mem_cons, List.not_mem_nil, or_false] at hm
      obtain ⟨z, rfl, z0, z1⟩ : ∃ z : Int, v = .int z ∧ 0 < z ∧ z.natAbs < 2 ^ 600 := by
        rcases hm with rfl | rfl | rfl | rfl
        · exact ⟨_, rfl, by decide, by decide⟩
        · exact ⟨_, rfl, by decide, by decide⟩
        · exact ⟨_, rfl, by decide, by decide⟩
        · exact ⟨_, rfl, m0, m1⟩
      refine ⟨p, z, c + 1 + 1 + 1, rfl, hP3, by omega, z0, log_of (by decide) z1 (by decide), fun H4 k4 b4 hP4 k40 k41 => ?_⟩
      refine ⟨_, _, rfl, rfl, _, _, rfl, _, _, rfl, by omega, ?_, ?_, (b1.trans (b2.trans (But.of sl))).trans (b3.trans b4), hP4⟩
      · exact Nat.lt_of_le_of_lt (by omega) m1
      · exact Nat.lt_of_le_of_lt (by omega) z1
    rintro σ H2 ⟨n, d, rfl, d0, n1, d1', b2, hP2⟩
    -- by
    refine ⟨fun σ H' => ∃ z : Int, σ = [some (.ref p), some (.int most), some (.int n), some (.int d), some (.int z)] ∧ 0 < z ∧ z.natAbs < 2 ^ 4001 ∧ But p H H' ∧ Pen H' p (c + 6), ?_, ?_⟩
    · refine ⟨_, rfl, _, rfl, _, _, rfl, rfl, ⟨by decide, by decide, by decide⟩, p, _, c + 4, rfl, hP2, by omega, by decide, by decide, fun H3 k3 b3 hP3 k30 k31 => ?_⟩
      refine ⟨_, _, rfl, rfl, rfl, fun z z0 z1 => ?_⟩
      refine ⟨(by show 5 ≤ sizeLine; decide), fun l hl => ?_⟩
      have sl := same_upd (o := HO.lst [.int 1, .int 1, .int 6, .int (1 + k3), .int z]) hl
      refine ⟨p, l, _, c + 4 + 1, rfl, hP3.same sl, by omega, SqL.of upd_same, new_ne hP3 hl, (by show 0 < 5; decide), (by show 5 ≤ 1000; decide), fun H4 k4 v b4 hP4 hv => ?_⟩
      have hm := List.mem_of_getElem? hv
      simp only [List.mem_cons, List.not_mem_nil, or_false] at hm
      have bt := b2.trans ((b3.trans (But.of sl)).trans b4)
      have small : ∀ z : Int, 0 < z → z ≤ 1000000 → z.natAbs < 2 ^ 4001 := fun z h1 h2 => Nat.lt_of_le_of_lt (show z.natAbs ≤ 1000000 by omega) (Nat.lt_of_lt_of_le (show 1000000 < 2 ^ 20 by decide) (Nat.pow_le_pow_right (n := 2) (by decide) (by decide)))
      have e6 : (10 : Int) ^ (6 : Int).toNat = 1000000 := by decide
      rcases hm with rfl | rfl | rfl | rfl | rfl
      · exact ⟨_, rfl, by decide, small _ (by decide) (by decide), bt, hP4⟩
      · exact ⟨_, rfl, by decide, small _ (by decide) (by decide), bt, hP4⟩
      · exact ⟨_, rfl, by decide, small _ (by decide) (by decide), bt, hP4⟩
      · exact ⟨_, rfl, by omega, small _ (by omega) (by omega), bt, hP4⟩
      · exact ⟨_, rfl, z0, z1, bt, hP4⟩
    rintro σ H3 ⟨z, rfl, z0, z1, b3, hP3⟩
    refine ⟨_, rfl, _, rfl, _, _, rfl, rfl, wide_mul n1 z1 (by decide) (by decide) (by decide), _, rfl, _, rfl, _, _, rfl, rfl, wide_mul d1' z1 (by decide) (by decide) (by decide), _, rfl, _, rfl, n, d, rfl, d0, Nat.lt_trans d1' (Nat.pow_lt_pow_right (a := 2) (by decide) (by decide)), fun u hu => ?_⟩
    refine ⟨(by show 3 ≤ sizeLine; decide), fun t ht => ?_⟩
    have s4 := (same_upd (o := HO.tup [.int (rn n d), .int (rd n d)]) hu).trans (same_upd (o := HO.tup [.int (n * z), .int (d * z), .ref u]) ht)
    refine q _ t u n d z (b3.trans (But.of s4)) (hP3.same s4) ⟨upd_same, ?_, d0, z0, n1, d1', z1⟩
    rw [upd_ne (ne_of_none upd_same ht)]
    exact upd_same
end
end My
/-! ### the law -/
namespace My
open PySem PySem.Spec PyProof.Rows L2
theorem dp_num {K : PySem.W.Frag} {H : Hp} {t : Addr} {p q : Int} (h : H t = some (.tup [.int p, .int q])) : Dp K H (.ref t) (.tuple [.int p, .int q]) := .tup (SqT.of h) (.cons (.int p) (.cons (.int q) .nil))
theorem show_int {p : Int} (h : p.natAbs < 2 ^ 1900) : (PyData.int p).showable = true ∧ (PyData.int p).depth ≤ 60 ∧ (PyData.int p).shown.length ≤ 2000 := by
  have l := PySem.Flt.log2_lt_of (by decide) h
  refine ⟨?_, by simp [PyData.depth], ?_⟩
  · simp only [PyData.showable]
    exact decide_eq_true (by omega)
  · simp only [PyData.shown]
    have := int_text_length_le (k := 1900) (by decide) l
    rw [PySem.ofString_length]
    omega
theorem show_num {p q : Int} (h1 : p.natAbs < 2 ^ 1900) (h2 : q.natAbs < 2 ^ 1900) : (PyData.tuple [.int p, .int q]).showable = true ∧ (PyData.tuple [.int p, .int q]).depth ≤ 60 ∧ (PyData.tuple [.int p, .int q]).shown.length ≤ sizeLine := by
  obtain ⟨s1, d1, l1⟩ := show_int h1
  obtain ⟨s2, d2, l2⟩ := show_int h2
  refine ⟨by simp [PyData.showable, PyData.showableAll, s1, s2] at *; exact ⟨s1, s2⟩, by simp [PyData.depth, PyData.depthAll], ?_⟩
  simp only [PyData.shown, PyData.shownAll] at l1 l2 ⊢
  have := tupleText_len_le [Str.ofString (toString p), Str.ofString (toString q)]
  simp only [List.map_cons, List.map_nil, List.sum_cons, List.sum_nil, List.length_cons, List.length_nil] at this
  rw [sizeLine_eq]
  omega
theorem neS (s : Str) : V.bl (!decide (V.str s = V.str s)) = V.bl false := by
  rw [decide_eq_true rfl]
  rfl
theorem neI {p q : Int} (e : p = q) : V.bl (!decide (V.int p = V.int q)) = V.bl false := by
  subst e
  rw [decide_eq_true rfl]
  rfl
theorem shaped_num (p q : Int) : SeqAt.shaped (.tuple [.int p, .int q]) = true := by simp [SeqAt.shaped, PyData.canLay0, PyData.canLayAll0, PyData.depth, PyData.depthAll]
theorem neD (p q : Int) : V.bl (!PyData.eqv (.tuple [.int p, .int q]) (.tuple [.int p, .int q])) = V.bl false := by
  rw [PySem.SeqAt.eqv_refl _ (SeqAt.canLay_of_shaped (shaped_num p q))]
  rfl
theorem dp_numE {K : PySem.W.Frag} {H : Hp} {t : Addr} {p q p' q' : Int} (e : p = p' ∧ q = q') (h : H t = some (.tup [.int p, .int q])) : Dp K H (.ref t) (.tuple [.int p', .int q']) := by
  obtain ⟨rfl, rfl⟩ := e
  exact dp_num h
theorem dp_intE {K : PySem.W.Frag} {H : Hp} {p p' : Int} (e : p = p') : Dp K H (.int p) (.int p') := by
  subst e
  exact .int p
theorem numOf {K : PySem.W.Frag} {H : Hp} {t : Addr} {p q : Int} (h : H t = some (.tup [.int p, .int q])) (l : Low p q) : IsNum K H (.ref t) p q := ⟨t, rfl, SqT.of h, l⟩
theorem big_of {n : Int} {a b : Nat} (h : n.natAbs < 2 ^ a) (l : a ≤ b) : n.natAbs < 2 ^ b := Nat.lt_of_lt_of_le h (Nat.pow_le_pow_right (n := 2) (by decide) l)
/-- n / d is p / q in lowest terms -/
structure Frc (n d p q : Int) : Prop where
  pos : 0 < d
  siz : d.natAbs < 2 ^ 4700
  en : rn n d = p
  ed : rd n d = q
  low : Low p q
  p1 : p.natAbs < 2 ^ 600
  q1 : q.natAbs < 2 ^ 600
theorem Any.frc {H : Hp} {t u : Addr} {N D B : Int} (h : Any H t N D B u) : Frc (N * B) (D * B) (rn N D) (rd N D) := by
  have pos := Int.mul_pos h.d0 h.b0
  have e := low_eq (n := N * B) (d := D * B) (m := N) (e := D) pos h.d0 (by rw [Int.mul_assoc, Int.mul_comm B D])
  exact ⟨pos, big_of (wide_lt h.d1 h.b1) (by decide), e.1, e.2, low_r h.d0, Nat.lt_of_le_of_lt (rn_abs h.d0) h.n1, Nat.lt_of_le_of_lt (rd_abs h.d0) h.d1⟩
theorem Frc.seven {n d p q : Int} (h : Frc n d p q) (hs : d.natAbs < 2 ^ 4650) : Frc (n * 7) (d * 7) p q := by
  have h0 := h.pos
  have e := low_eq (n := n * 7) (d := d * 7) (m := n) (e := d) (by omega) h0 (by rw [Int.mul_assoc, Int.mul_comm 7 d])
  refine ⟨by omega, ?_, e.1.trans h.en, e.2.trans h.ed, h.low, h.p1, h.q1⟩
  exact big_of (wide_lt (j := 7) (b := 3) hs (by decide)) (by decide)
theorem add_sub {p q r s : Int} (h1 : Low p q) (h2 : Low r s) : rn (fMinus (rn (fPlus p q r s) (q * s)) (rd (fPlus p q r s) (q * s)) r s) (rd (fPlus p q r s) (q * s) * s) = p ∧
    rd (fMinus (rn (fPlus p q r s) (q * s)) (rd (fPlus p q r s) (q * s)) r s) (rd (fPlus p q r s) (q * s) * s) = q := by
  have pos := Int.mul_pos h1.pos h2.pos
  have c := cross (n := fPlus p q r s) pos
  have v0 := rd_pos (n := fPlus p q r s) pos
  generalize rn (fPlus p q r s) (q * s) = u at c ⊢
  generalize rd (fPlus p q r s) (q * s) = v at c v0 ⊢
  have e := low_eq (n := fMinus u v r s) (d := v * s) (m := p) (e := q) (Int.mul_pos v0 h2.pos) h1.pos (by unfold fMinus; unfold fPlus at c; grind)
  have i := low_id h1
  exact ⟨e.1.trans i.1, e.2.trans i.2⟩
theorem sub_self {p q : Int} (h : Low p q) : rn (fMinus p q p q) (q * q) = 0 ∧ rd (fMinus p q p q) (q * q) = 1 := by
  have pos := Int.mul_pos h.pos h.pos
  have e := low_eq (n := fMinus p q p q) (d := q * q) (m := 0) (e := 1) pos (by decide) (by unfold fMinus; grind)
  exact ⟨e.1.trans (by decide), e.2.trans (by decide)⟩
theorem plus_comm (p q r s : Int) : fPlus r s p q = fPlus p q r s := by unfold fPlus; grind
theorem cmp_due (p q r s : Int) : cmpI p q r s = (if decide (r * q < p * s) = true then 1 else 0) - (if decide (p * s < r * q) = true then 1 else 0) := by
  unfold cmpI
  by_cases h : p * s = r * q
  · rw [if_pos h, h]
    simp
  · rw [if_neg h]
    by_cases h2 : p * s < r * q
    · have h3 : ¬ r * q < p * s := by omega
      simp [h2, h3]
    · have h3 : r * q < p * s := by omega
      simp [h2, h3]
theorem cmp_neg (p q r s : Int) : cmpI r s p q = -cmpI p q r s := by
  rw [cmp_due, cmp_due]
  omega
theorem cmp_self (p q : Int) : cmpI p q p q = 0 := if_pos rfl
theorem cmp_small (p q r s : Int) : (cmpI p q r s).natAbs < 2 ^ 1900 := by
  have h : (cmpI p q r s).natAbs ≤ 1 := by
    unfold cmpI
    split
    · decide
    · split <;> decide
  exact Nat.lt_of_le_of_lt h (Nat.lt_of_lt_of_le (show 1 < 2 ^ 1 by decide) (Nat.pow_le_pow_right (n := 2) (by decide) (by decide)))
theorem plus_small {p q r s : Int} (h1 : p.natAbs < 2 ^ 600) (h2 : q.natAbs < 2 ^ 600) (h3 : r.natAbs < 2 ^ 600) (h4 : s.natAbs < 2 ^ 600) (f : Int → Int → Int → Int → Int) (hf : ∀ a b c d, (f a b c d).natAbs ≤ (a * d).natAbs + (c * b).natAbs) (q0 : 0 < q) (s0 : 0 < s) :
    (rn (f p q r s) (q * s)).natAbs < 2 ^ 1900 ∧ (rd (f p q r s) (q * s)).natAbs < 2 ^ 1900 := by
  have a := wide_lt h1 h4
  have b := wide_lt h3 h2
  have c := wide_lt h2 h4
  have z := hf p q r s
  have pos := Int.mul_pos q0 s0
  have x := rn_abs (n := f p q r s) pos
  have y := rd_abs (n := f p q r s) pos
  have e : 2 ^ (600 + 600) + 2 ^ (600 + 600) = 2 ^ 1201 := by
    show 2 ^ 1200 + 2 ^ 1200 = 2 ^ 1201
    rw [Nat.pow_succ 2 1200]
    omega
  refine ⟨Nat.lt_of_lt_of_le (show (rn (f p q r s) (q * s)).natAbs < 2 ^ 1201 by omega) (Nat.pow_le_pow_right (n := 2) (by decide) (by decide)), ?_⟩
  exact Nat.lt_of_lt_of_le (Nat.lt_of_le_of_lt y c) (Nat.pow_le_pow_right (n := 2) (by decide) (by decide))
theorem fPlus_le (a b c d : Int) : (fPlus a b c d).natAbs ≤ (a * d).natAbs + (c * b).natAbs := by unfold fPlus; omega
theorem fMinus_le (a b c d : Int) : (fMinus a b c d).natAbs ≤ (a * d).natAbs + (c * b).natAbs := by unfold fMinus; omega
section
variable {P : Program} {w : World} {K : PySem.W.Frag} {mg : Str → Option Value} {base : Heap} {f1 f2 f3 f4 : Addr} {d1 d2 d3 d4 : FuncData} {h1 h2 h3 h4 h5 h6 : Addr} {u1 u2 u3 u4 u5 u6 : FuncData} {g1 g2 g3 g4 g5 g6 g7 g8 CN CD : Addr} {e1 e2 e3 e4 e5 e6 e7 e8 : FuncData}
def spLaw (K : PySem.W.Frag) : Sp := fun vs H Q _ => ∃ (a : Addr) (ns : List Int), vs = [.ref a] ∧ SqL K H a (ns.map V.int) ∧ ns.length ≤ 63 ∧ ∀ H', Q (.bl true) H'
theorem ok_law {f : Addr} {fd : FuncData} (F : Fun K "law" "law" sLaw f fd) (TP : PenTxt K mg f1 f2 f3 f4 d1 d2 d3 d4) (TN : NumTxt K mg g1 g2 g3 g4 g5 g6 g7 g8 CN CD e1 e2 e3 e4 e5 e6 e7 e8) (TX : X31 K mg h1 h2 h3 h4 h5 h6 u1 u2 u3 u4 u5 u6) :
    FnG P w K mg base CX0 6 f fd ["script"] (spLaw K) := by
  have GO : FnOk P w K mg base CX0 5 f2 d2 ["script"] (spOpen K) := ok_open TP (k := 4)
  have GT : FnOk P w K mg base CX0 5 f3 d3 ["pen", "many"] spTake := ok_take TP (k := 3)
  have GA : FnOk P w K mg base CX0 5 h6 u6 ["pen"] spXAny := ok_xAny TX TP (k := 1)
  have GXP : FnOk P w K mg base CX0 5 h2 u2 ["a", "b"] (spXArith K fPlus) := ok_xPlus TX (k := 3)
  have GXM : FnOk P w K mg base CX0 5 h3 u3 ["a", "b"] (spXArith K fMinus) := ok_xMinus TX (k := 3)
  have GXL : FnOk P w K mg base CX0 5 h4 u4 ["a", "b"] (spXLess K) := ok_xLess TX (k := 4)
  have GN : FnOk P w K mg base (L2.CX P w) 5 g1 e1 ["n", "d"] (spNumberOf K CN CD) := ok_numberOf TN (k := 3)
  have GP : FnOk P w K mg base (L2.CX P w) 5 g2 e2 ["a", "b"] (spArith K CN fPlus) := ok_plus TN (k := 1)
  have GM : FnOk P w K mg base (L2.CX P w) 5 g3 e3 ["a", "b"] (spArith K CN fMinus) := ok_minus TN (k := 1)
  have GC : FnOk P w K mg base (L2.CX P w) 5 g4 e4 ["a", "b"] (spCompared K CN) := ok_compared TN (k := 1)
  refine Fun.okG F scLaw (fun vs H Q E h => ?_) (fun cdv A outer s H vs Q E hgd hr h => ?_)
  · obtain ⟨a, ns, rfl, _⟩ := h
    rfl
  · obtain ⟨a, ns, rfl, hS, hl, q⟩ := h
    have hu : (A.deeper (envOfC "law" (defScope sLaw) s.heap.objs.size f cdv)).units + 64 < cLine := by have := hr.un; omega
    refine ⟨_, PSs.nox (pss_cons (ps_set (i := 1) scLaw.nd rfl (.inl rfl) (pe_call GO hr (by rfl) TP.gOpen TP.FOpen.kp TP.bOpen .nil pass0 (pa_cons (pv 0) pa_nil)))
 (pss_cons (ps_for PassesOwn.never rfl (pi_range1 (by rfl) TX.range (pa_cons pe_int pa_nil)) (pg_name (i := 2) scLaw.nd rfl (.inl rfl))
 (Evl.pss_cut (ps_asg (pe_call GA hr (by rfl) TX.gXAny TX.FXAny.kp TX.bXAny .nil pass0 (pa_cons (pv 1) pa_nil)) (pg_tup rfl (pgs_cons (pg_name (i := 3) scLaw.nd rfl (.inl rfl)) (pgs_cons (pg_name (i := 4) scLaw.nd rfl (.inl rfl)) (pgs_cons (pg_name (i := 5) scLaw.nd rfl (.inl rfl)) pgs_nil)))))
 (Evl.pss_cut (ps_asg (pe_call GA hr (by rfl) TX.gXAny TX.FXAny.kp TX.bXAny .nil pass0 (pa_cons (pv 1) pa_nil)) (pg_tup rfl (pgs_cons (pg_name (i := 6) scLaw.nd rfl (.inl rfl)) (pgs_cons (pg_name (i := 7) scLaw.nd rfl (.inl rfl)) (pgs_cons (pg_name (i := 8) scLaw.nd rfl (.inl rfl)) pgs_nil)))))
 (Evl.pss_cut (ps_if (pt_cmpR op_eq (pe_call GT hr (by rfl) TP.gTake TP.FTake.kp TP.bTake .nil pass0 (pa_cons (pv 1) (pa_cons pe_int pa_nil))) pe_int (nomark _)) (pss_one (ps_par3 (i := 6) (j := 7) (l := 8) (by rfl) scLaw.nd rfl rfl rfl (by decide) (by decide) (by decide) rfl rfl rfl (pa_cons (pe_op op_mul (pv 3) pe_int) (pa_cons (pe_op op_mul (pv 4) pe_int) (pa_cons (pv 5) pa_nil))) (by rfl))) pss_nil)
 (Evl.pss_cut (ps_if (PW.pt (pw_or (pt_cmpR op_ne (pe_callB (call_reprD hgd hu) (by rfl) TX.repr (by decide +kernel) (pa_cons (pe_call GN hr (by rfl) TN.gNumberOf TN.FNumberOf.kp TN.bNumberOf .nil passL (pa_cons (pv 3) (pa_cons (pv 4) pa_nil))) pa_nil)) (pe_callB (call_reprD hgd hu) (by rfl) TX.repr (by decide +kernel) (pa_cons (pv 5) pa_nil)) (nomark _)) (pw_or1 (pt_cmpR op_ne (pe_callB (call_reprD hgd hu) (by rfl) TX.repr (by decide +kernel) (pa_cons (pe_call GN hr (by rfl) TN.gNumberOf TN.FNumberOf.kp TN.bNumberOf .nil passL (pa_cons (pv 6) (pa_cons (pv 7) pa_nil))) pa_nil)) (pe_callB (call_reprD hgd hu) (by rfl) TX.repr (by decide +kernel) (pa_cons (pv 8) pa_nil)) (nomark _))))) (pss_one (ps_ret pe_bl)) pss_nil)
 (Evl.pss_cut (ps_if (PW.pt (pw_or (pt_cmpR op_ne (pe_callB (call_reprD hgd hu) (by rfl) TX.repr (by decide +kernel) (pa_cons (pe_call GP hr (by rfl) TN.gPlus TN.FPlus.kp TN.bPlus .nil passL (pa_cons (pv 5) (pa_cons (pv 8) pa_nil))) pa_nil)) (pe_callB (call_reprD hgd hu) (by rfl) TX.repr (by decide +kernel) (pa_cons (pe_call GXP hr (by rfl) TX.gXPlus TX.FXPlus.kp TX.bXPlus .nil pass0 (pa_cons (pv 5) (pa_cons (pv 8) pa_nil))) pa_nil)) (nomark _)) (pw_or1 (pt_cmpR op_ne (pe_callB (call_reprD hgd hu) (by rfl) TX.repr (by decide +kernel) (pa_cons (pe_call GM hr (by rfl) TN.gMinus TN.FMinus.kp TN.bMinus .nil passL (pa_cons (pv 5) (pa_cons (pv 8) pa_nil))) pa_nil)) (pe_callB (call_reprD hgd hu) (by rfl) TX.repr (by decide +kernel) (pa_cons (pe_call GXM hr (by rfl) TX.gXMinus TX.FXMinus.kp TX.bXMinus .nil pass0 (pa_cons (pv 5) (pa_cons (pv 8) pa_nil))) pa_nil)) (nomark _))))) (pss_one (ps_ret pe_bl)) pss_nil)
 (Evl.pss_cut (ps_set (i := 9) scLaw.nd rfl (.inl rfl) (pe_op op_sub (pe_callTy call_int1 (by rfl) TX.int (by decide +kernel) (pa_cons (pe_call GXL hr (by rfl) TX.gXLess TX.FXLess.kp TX.bXLess .nil pass0 (pa_cons (pv 8) (pa_cons (pv 5) pa_nil))) pa_nil)) (pe_callTy call_int1 (by rfl) TX.int (by decide +kernel) (pa_cons (pe_call GXL hr (by rfl) TX.gXLess TX.FXLess.kp TX.bXLess .nil pass0 (pa_cons (pv 5) (pa_cons (pv 8) pa_nil))) pa_nil))))
 (Evl.pss_cut (ps_if (PW.pt (pw_or (pt_cmpR op_ne (pe_callB (call_reprD hgd hu) (by rfl) TX.repr (by decide +kernel) (pa_cons (pe_call GC hr (by rfl) TN.gCompared TN.FCompared.kp TN.bCompared .nil passL (pa_cons (pv 5) (pa_cons (pv 8) pa_nil))) pa_nil)) (pe_callB (call_reprD hgd hu) (by rfl) TX.repr (by decide +kernel) (pa_cons (pv 9) pa_nil)) (nomark _)) (pw_or (pt_cmpR op_ne (pe_callB (call_reprD hgd hu) (by rfl) TX.repr (by decide +kernel) (pa_cons (pe_call GC hr (by rfl) TN.gCompared TN.FCompared.kp TN.bCompared .nil passL (pa_cons (pv 8) (pa_cons (pv 5) pa_nil))) pa_nil)) (pe_callB (call_reprD hgd hu) (by rfl) TX.repr (by decide +kernel) (pa_cons (pe_un un_neg (pv 9)) pa_nil)) (nomark _)) (pw_or1 (pt_cmpR op_ne (pe_call GC hr (by rfl) TN.gCompared TN.FCompared.kp TN.bCompared .nil passL (pa_cons (pv 5) (pa_cons (pv 5) pa_nil))) pe_int (nomark _)))))) (pss_one (ps_ret pe_bl)) pss_nil)
 (pss_one (ps_if (PW.pt (pw_or (pt_cmpR op_ne (pe_callB (call_reprD hgd hu) (by rfl) TX.repr (by decide +kernel) (pa_cons (pe_call GM hr (by rfl) TN.gMinus TN.FMinus.kp TN.bMinus .nil passL (pa_cons (pe_call GP hr (by rfl) TN.gPlus TN.FPlus.kp TN.bPlus .nil passL (pa_cons (pv 5) (pa_cons (pv 8) pa_nil))) (pa_cons (pv 8) pa_nil))) pa_nil)) (pe_callB (call_reprD hgd hu) (by rfl) TX.repr (by decide +kernel) (pa_cons (pv 5) pa_nil)) (nomark _)) (pw_or (pt_cmpR (op_neD hu) (pe_call GP hr (by rfl) TN.gPlus TN.FPlus.kp TN.bPlus .nil passL (pa_cons (pv 8) (pa_cons (pv 5) pa_nil))) (pe_call GP hr (by rfl) TN.gPlus TN.FPlus.kp TN.bPlus .nil passL (pa_cons (pv 5) (pa_cons (pv 8) pa_nil))) (nomark _)) (pw_or1 (pt_cmpR (op_neD hu) (pe_call GM hr (by rfl) TN.gMinus TN.FMinus.kp TN.bMinus .nil passL (pa_cons (pv 5) (pa_cons (pv 5) pa_nil))) (pe_tup (pa_cons pe_int (pa_cons pe_int pa_nil))) (nomark _)))))) (pss_one (ps_ret pe_bl)) pss_nil))))))))))
 (pss_one (ps_ret pe_bl)))), ?_⟩
    refine ⟨_, rfl, a, ns, rfl, hS, hl, fun H0 p s0 np hP0 => ?_⟩
    refine ⟨6, rfl, by decide, by decide, for_range (lo := 0) (n := 6) (fun i σ H' => ∃ v2 v3 v4 v5 v6 v7 v8 v9 : Option V, σ = [some (.ref a), some (.ref p), v2, v3, v4, v5, v6, v7, v8, v9] ∧ Pen H' p (13 * i))
      ⟨none, none, none, none, none, none, none, none, rfl, hP0⟩ ?_ ?_⟩
    · rintro i σ H hi ⟨v2, v3, v4, v5, v6, v7, v8, v9, rfl, hP⟩
      -- n, d, a
      refine ⟨fun σ H' => ∃ (n d p1 q1 : Int) (ua : Addr), σ = [some (.ref a), some (.ref p), some (.int (0 + (i : Int))), some (.int n), some (.int d), some (.ref ua), v6, v7, v8, v9] ∧ H' ua = some (.tup [.int p1, .int q1]) ∧ Frc n d p1 q1 ∧ d.natAbs < 2 ^ 4650 ∧ Pen H' p (13 * i + 6), ?_, ?_⟩
      · refine ⟨_, rfl, p, 13 * i, rfl, hP, by omega, fun H' t u N D B _ hP' hA => ?_⟩
        exact ⟨t, _, rfl, SqT.of hA.tup, rfl, _, _, rfl, _, _, rfl, _, _, rfl, rfl, _, _, _, _, _, rfl, hA.low, hA.frc, big_of (wide_lt hA.d1 hA.b1) (by decide), hP'⟩
      rintro σ H ⟨n, d, p1, q1, ua, rfl, hua, fa, sd, hP⟩
      -- k, e, b
      refine ⟨fun σ H' => ∃ (k e r1 s1 : Int) (ub : Addr), σ = [some (.ref a), some (.ref p), some (.int (0 + (i : Int))), some (.int n), some (.int d), some (.ref ua), some (.int k), some (.int e), some (.ref ub), v9] ∧ H' ua = some (.tup [.int p1, .int q1]) ∧ H' ub = some (.tup [.int r1, .int s1]) ∧ Frc k e r1 s1 ∧ Pen H' p (13 * i + 12), ?_, ?_⟩
      · refine ⟨_, rfl, p, 13 * i + 6, rfl, hP, by omega, fun H' t u N D B b2 hP' hA => ?_⟩
        have nua : ua ≠ p := by
          obtain ⟨xs, e⟩ := hP.ls
          exact ne_of hua e (by intro z; cases z)
        exact ⟨t, _, rfl, SqT.of hA.tup, rfl, _, _, rfl, _, _, rfl, _, _, rfl, rfl, _, _, _, _, _, rfl, b2 _ _ nua hua, hA.low, hA.frc, hP'⟩
      rintro σ H ⟨k, e, r1, s1, ub, rfl, hua, hub, fb, hP⟩
      -- perhaps b is a
      refine ⟨fun σ H' => ∃ (k e r1 s1 : Int) (ub : Addr), σ = [some (.ref a), some (.ref p), some (.int (0 + (i : Int))), some (.int n), some (.int d), some (.ref ua), some (.int k), some (.int e), some (.ref ub), v9] ∧ H' ua = some (.tup [.int p1, .int q1]) ∧ H' ub = some (.tup [.int r1, .int s1]) ∧ Frc k e r1 s1 ∧ Pen H' p (13 * i + 13), ?_, ?_⟩
      · refine ⟨_, rfl, p, 5, 13 * i + 12, rfl, hP, by omega, by decide, by decide, fun H' k' b2 hP' _ _ => ?_⟩
        have nua : ua ≠ p := by
          obtain ⟨xs, e⟩ := hP.ls
          exact ne_of hua e (by intro z; cases z)
        have nub : ub ≠ p := by
          obtain ⟨xs, e⟩ := hP.ls
          exact ne_of hub e (by intro z; cases z)
        refine ⟨rfl, _, rfl, ite2 (fun _ => ?_) (fun _ => ?_)⟩
        · exact ⟨_, rfl, _, _, rfl, rfl, .inr ⟨by decide, by decide⟩, _, rfl, _, _, rfl, rfl, .inr ⟨by decide, by decide⟩, _, rfl, _, _, _, rfl, _, _, _, _, _, rfl, b2 _ _ nua hua, b2 _ _ nua hua, fa.seven sd, hP'⟩
        · exact ⟨k, e, r1, s1, ub, rfl, b2 _ _ nua hua, b2 _ _ nub hub, fb, hP'⟩
      rintro σ H ⟨k, e, r1, s1, ub, rfl, hua, hub, fb, hP⟩
      obtain ⟨ap, as, rfl, rfl, al, an, ad⟩ := fa
      obtain ⟨bp, bs, rfl, rfl, bl, bn, bd⟩ := fb
      have A1 := big_of an (show 600 ≤ 1900 by decide)
      have A2 := big_of ad (show 600 ≤ 1900 by decide)
      have B1 := big_of bn (show 600 ≤ 1900 by decide)
      have B2 := big_of bd (show 600 ≤ 1900 by decide)
      have SA1 : Sml (rn n d) := big_of an (show 600 ≤ 4000 by decide)
      have SA2 : Sml (rd n d) := big_of ad (show 600 ≤ 4000 by decide)
      have SB1 : Sml (rn k e) := big_of bn (show 600 ≤ 4000 by decide)
      have SB2 : Sml (rd k e) := big_of bd (show 600 ≤ 4000 by decide)
      obtain ⟨P1, P2⟩ := plus_small an ad bn bd fPlus fPlus_le al.pos bl.pos
      obtain ⟨M1, M2⟩ := plus_small an ad bn bd fMinus fMinus_le al.pos bl.pos
      -- number_of
      refine ⟨fun σ H' => σ = [some (.ref a), some (.ref p), some (.int (0 + (i : Int))), some (.int n), some (.int d), some (.ref ua), some (.int k), some (.int e), some (.ref ub), v9] ∧ Same H H', ?_, ?_⟩
      · refine ⟨_, rfl, _, rfl, _, _, rfl, .inl ⟨n, d, rfl, rfl, ap, big_of as (by decide), fun t ht => ⟨_, _, rfl, dp_num upd_same, (show_num A1 A2).1, (show_num A1 A2).2.1, (show_num A1 A2).2.2, ?_⟩⟩⟩
        refine ⟨_, rfl, _, _, rfl, dp_num (same_upd ht _ _ hua), (show_num A1 A2).1, (show_num A1 A2).2.1, (show_num A1 A2).2.2, rfl, false, neS _, iteF ?_⟩
        refine ⟨_, rfl, _, rfl, _, _, rfl, .inl ⟨k, e, rfl, rfl, bp, big_of bs (by decide), fun u hu' => ⟨_, _, rfl, dp_num upd_same, (show_num B1 B2).1, (show_num B1 B2).2.1, (show_num B1 B2).2.2, ?_⟩⟩⟩
        refine ⟨_, rfl, _, _, rfl, dp_num (same_upd hu' _ _ (same_upd ht _ _ hub)), (show_num B1 B2).1, (show_num B1 B2).2.1, (show_num B1 B2).2.2, rfl, false, neS _, iteF ?_⟩
        exact ⟨rfl, (same_upd ht).trans (same_upd hu')⟩
      rintro σ H1 ⟨rfl, s1⟩
      have hua1 := s1 _ _ hua
      have hub1 := s1 _ _ hub
      have hP1 := hP.same s1
      -- plus, minus
      refine ⟨fun σ H' => σ = [some (.ref a), some (.ref p), some (.int (0 + (i : Int))), some (.int n), some (.int d), some (.ref ua), some (.int k), some (.int e), some (.ref ub), v9] ∧ Same H1 H', ?_, ?_⟩
      · refine ⟨_, rfl, _, rfl, _, _, rfl, .inl ⟨_, _, _, _, numOf hua1 al, numOf hub1 bl, SA1, SA2, SB1, SB2, fun t ht => ⟨_, _, rfl, dp_num upd_same, (show_num P1 P2).1, (show_num P1 P2).2.1, (show_num P1 P2).2.2, ?_⟩⟩⟩
        have st := same_upd (o := HO.tup [.int (rn (fPlus (rn n d) (rd n d) (rn k e) (rd k e)) (rd n d * rd k e)), .int (rd (fPlus (rn n d) (rd n d) (rn k e) (rd k e)) (rd n d * rd k e))]) ht
        refine ⟨_, rfl, _, rfl, _, _, _, _, _, _, rfl, numOf (st _ _ hua1) al, numOf (st _ _ hub1) bl, SA1, SA2, SB1, SB2, fun t2 ht2 => ⟨_, _, rfl, dp_num upd_same, (show_num P1 P2).1, (show_num P1 P2).2.1, (show_num P1 P2).2.2, rfl, false, neS _, iteF ?_⟩⟩
        have st2 := st.trans (same_upd (o := HO.tup [.int (rn (fPlus (rn n d) (rd n d) (rn k e) (rd k e)) (rd n d * rd k e)), .int (rd (fPlus (rn n d) (rd n d) (rn k e) (rd k e)) (rd n d * rd k e))]) ht2)
        refine ⟨_, rfl, _, rfl, _, _, rfl, .inl ⟨_, _, _, _, numOf (st2 _ _ hua1) al, numOf (st2 _ _ hub1) bl, SA1, SA2, SB1, SB2, fun t3 ht3 => ⟨_, _, rfl, dp_num upd_same, (show_num M1 M2).1, (show_num M1 M2).2.1, (show_num M1 M2).2.2, ?_⟩⟩⟩
        have st3 := st2.trans (same_upd (o := HO.tup [.int (rn (fMinus (rn n d) (rd n d) (rn k e) (rd k e)) (rd n d * rd k e)), .int (rd (fMinus (rn n d) (rd n d) (rn k e) (rd k e)) (rd n d * rd k e))]) ht3)
        refine ⟨_, rfl, _, rfl, _, _, _, _, _, _, rfl, numOf (st3 _ _ hua1) al, numOf (st3 _ _ hub1) bl, SA1, SA2, SB1, SB2, fun t4 ht4 => ⟨_, _, rfl, dp_num upd_same, (show_num M1 M2).1, (show_num M1 M2).2.1, (show_num M1 M2).2.2, rfl, false, neS _, iteF ?_⟩⟩
        exact ⟨rfl, st3.trans (same_upd ht4)⟩
      rintro σ H2 ⟨rfl, s2⟩
      have hua2 := s2 _ _ hua1
      have hub2 := s2 _ _ hub1
      have hP2 := hP1.same s2
      -- due
      refine ⟨fun σ H' => σ = [some (.ref a), some (.ref p), some (.int (0 + (i : Int))), some (.int n), some (.int d), some (.ref ua), some (.int k), some (.int e), some (.ref ub), some (.int (cmpI (rn n d) (rd n d) (rn k e) (rd k e)))] ∧ H' = H2, ?_, ?_⟩
      · refine ⟨_, rfl, _, rfl, _, _, _, _, _, _, rfl, numOf hub2 bl, numOf hua2 al, SB1, SB2, SA1, SA2, .inr ⟨_, rfl, ?_⟩⟩
        refine ⟨_, rfl, _, rfl, _, _, _, _, _, _, rfl, numOf hua2 al, numOf hub2 bl, SA1, SA2, SB1, SB2, .inr ⟨_, rfl, _, _, rfl, rfl, ?_, rfl⟩⟩
        rw [cmp_due]
        rfl
      rintro σ H2 ⟨rfl, rfl⟩
      -- compared
      have c1 := cmp_small (rn n d) (rd n d) (rn k e) (rd k e)
      have c2 : (-cmpI (rn n d) (rd n d) (rn k e) (rd k e)).natAbs < 2 ^ 1900 := by rw [Int.natAbs_neg]; exact c1
      refine ⟨fun σ H' => σ = [some (.ref a), some (.ref p), some (.int (0 + (i : Int))), some (.int n), some (.int d), some (.ref ua), some (.int k), some (.int e), some (.ref ub), some (.int (cmpI (rn n d) (rd n d) (rn k e) (rd k e)))] ∧ H' = H2, ?_, ?_⟩
      · refine ⟨_, rfl, _, rfl, _, _, rfl, .inl ⟨_, _, _, _, numOf hua2 al, numOf hub2 bl, SA1, SA2, SB1, SB2, _, _, rfl, .int _, (show_int c1).1, (show_int c1).2.1, Nat.le_trans (show_int c1).2.2 (by rw [sizeLine_eq]; omega), ?_⟩⟩
        refine ⟨_, rfl, _, _, rfl, .int _, (show_int c1).1, (show_int c1).2.1, Nat.le_trans (show_int c1).2.2 (by rw [sizeLine_eq]; omega), rfl, false, neS _, iteF ?_⟩
        refine ⟨_, rfl, _, rfl, _, _, rfl, .inl ⟨_, _, _, _, numOf hub2 bl, numOf hua2 al, SB1, SB2, SA1, SA2, _, _, rfl, dp_intE (cmp_neg _ _ _ _), (show_int c2).1, (show_int c2).2.1, Nat.le_trans (show_int c2).2.2 (by rw [sizeLine_eq]; omega), ?_⟩⟩
        refine ⟨_, rfl, _, rfl, _, _, rfl, .int _, (show_int c2).1, (show_int c2).2.1, Nat.le_trans (show_int c2).2.2 (by rw [sizeLine_eq]; omega), rfl, false, neS _, iteF ?_⟩
        exact ⟨_, rfl, _, rfl, _, _, rfl, .inl ⟨_, _, _, _, numOf hua2 al, numOf hua2 al, SA1, SA2, SA1, SA2, rfl, false, neI (cmp_self _ _), iteF ⟨rfl, rfl⟩⟩⟩
      rintro σ H2 ⟨rfl, rfl⟩
      -- what is added and taken away again
      refine ⟨_, rfl, _, rfl, _, _, rfl, .inl ⟨_, _, _, _, numOf hua2 al, numOf hub2 bl, SA1, SA2, SB1, SB2, fun t ht => ?_⟩⟩
      have st := same_upd (o := HO.tup [.int (rn (fPlus (rn n d) (rd n d) (rn k e) (rd k e)) (rd n d * rd k e)), .int (rd (fPlus (rn n d) (rd n d) (rn k e) (rd k e)) (rd n d * rd k e))]) ht
      refine ⟨_, rfl, _, _, rfl, .inl ⟨_, _, _, _, numOf upd_same (low_r (Int.mul_pos al.pos bl.pos)), numOf (st _ _ hub2) bl, big_of P1 (show 1900 ≤ 4000 by decide), big_of P2 (show 1900 ≤ 4000 by decide), SB1, SB2, fun t2 ht2 => ⟨_, _, rfl, dp_numE (add_sub al bl) upd_same, (show_num A1 A2).1, (show_num A1 A2).2.1, (show_num A1 A2).2.2, ?_⟩⟩⟩
      refine ⟨_, rfl, _, _, rfl, dp_num (same_upd ht2 _ _ (st _ _ hua2)), (show_num A1 A2).1, (show_num A1 A2).2.1, (show_num A1 A2).2.2, rfl, false, neS _, iteF ?_⟩
      refine ⟨_, rfl, _, rfl, _, _, rfl, .inl ⟨_, _, _, _, numOf (same_upd ht2 _ _ (st _ _ hub2)) bl, numOf (same_upd ht2 _ _ (st _ _ hua2)) al, SB1, SB2, SA1, SA2, fun t3 ht3 => ?_⟩⟩
      refine ⟨_, rfl, _, rfl, _, _, rfl, .inl ⟨_, _, _, _, numOf (same_upd ht3 _ _ (same_upd ht2 _ _ (st _ _ hua2))) al, numOf (same_upd ht3 _ _ (same_upd ht2 _ _ (st _ _ hub2))) bl, SA1, SA2, SB1, SB2, fun t4 ht4 => ?_⟩⟩
      refine ⟨_, _, dp_numE (by rw [plus_comm, Int.mul_comm (rd k e)]; exact ⟨rfl, rfl⟩) (same_upd ht4 _ _ upd_same), dp_num upd_same, shaped_num _ _, shaped_num _ _, false, neD _ _, iteF ?_⟩
      have hua4 := same_upd (o := HO.tup [.int (rn (fPlus (rn n d) (rd n d) (rn k e) (rd k e)) (rd n d * rd k e)), .int (rd (fPlus (rn n d) (rd n d) (rn k e) (rd k e)) (rd n d * rd k e))]) ht4 _ _ (same_upd ht3 _ _ (same_upd ht2 _ _ (st _ _ hua2)))
      refine ⟨_, rfl, _, rfl, _, _, rfl, .inl ⟨_, _, _, _, numOf hua4 al, numOf hua4 al, SA1, SA2, SA1, SA2, fun t5 ht5 => ?_⟩⟩
      refine ⟨(by show 2 ≤ sizeLine; decide), fun t6 ht6 => ?_⟩
      refine ⟨_, _, dp_numE (sub_self al) (same_upd ht6 _ _ upd_same), dp_num upd_same, shaped_num _ _, shaped_num _ _, false, neD _ _, iteF ?_⟩
      refine ⟨_, _, _, _, _, _, _, _, rfl, Pen.mono (n := 13 * i + 13) (Pen.same hP2 ?_) (by omega)⟩
      exact ((((st.trans (same_upd ht2)).trans (same_upd ht3)).trans (same_upd ht4)).trans (same_upd ht5)).trans (same_upd ht6)
    · rintro σ H' ⟨v2, v3, v4, v5, v6, v7, v8, v9, rfl, _⟩
      exact q _
end
/-! ### what the top has written, the head -/
theorem all_mk {l : PySem.W.OpenLaw} {w : World} {K : PySem.W.Frag} {h : Heap} {mg : Str → Option Value} {fa C1 C2 : Addr} {f1 f2 f3 f4 f5 f6 f7 f8 f9 f10 f11 f12 f60 f13 f14 f15 f16 f17 f18 f19 : Addr} {od1 od2 od3 od4 od5 od6 od7 od8 od9 od10 od11 od12 od60 od13 od14 od15 od16 od17 od18 od19 an1 an2 an3 an4 an5 an6 an7 an8 an9 an10 an11 an12 an60 an13 an14 an15 an16 an17 an18 an19 : Option Addr} {sl1 sl2 sl3 sl4 sl5 sl6 sl7 sl8 sl9 sl10 sl11 sl12 sl60 sl13 sl14 sl15 sl16 sl17 sl18 sl19 : Array (Option Value)} {oc1 oc2 oc3 oc4 oc5 oc6 oc7 oc8 oc9 oc10 oc11 oc12 oc60 oc13 oc14 oc15 oc16 oc17 oc18 oc19 kV1 kV2 kV3 kV4 kV5 kV6 kV7 kV8 kV9 kV10 kV11 kV12 kV60 kV13 kV14 kV15 kV16 kV17 kV18 kV19 dc1 dc2 dc3 dc4 dc5 dc6 dc7 dc8 dc9 dc10 dc11 dc12 dc60 dc13 dc14 dc15 dc16 dc17 dc18 dc19 pm1 pm2 pm3 pm4 pm5 pm6 pm7 pm8 pm9 pm10 pm11 pm12 pm60 pm13 pm14 pm15 pm16 pm17 pm18 pm19 cd1 cd2 cd3 cd4 cd5 cd6 cd7 cd8 cd9 cd10 cd11 cd12 cd60 cd13 cd14 cd15 cd16 cd17 cd18 cd19 ct1 ct2 ct3 ct4 ct5 ct6 ct7 ct8 ct9 ct10 ct11 ct12 ct60 ct13 ct14 ct15 ct16 ct17 ct18 ct19 : Value}
    (X : K.In h) (G : h.Ns mainGlobals mg) (hfa : mg "law" = some (.ref fa))
    (a1 : PySem.W.nsIn K mainGlobals "_law_spread" = some (some (.ref f1)))
    (l1 : K.lookup f1 = some ⟨oc1, od1, .func (PySem.W.fnOf "_law_spread" "_law_spread" (defArgs sSpread) (defBody sSpread) (defScope sSpread) .none kV1 dc1 pm1 an1 cd1 ct1), sl1⟩)
    (c1 : PySem.W.codeIn K cd1 "_law_spread" = true) (k1 : PySem.W.keepIn K (.ref f1) = true)
    (a2 : PySem.W.nsIn K mainGlobals "_law_open" = some (some (.ref f2)))
    (l2 : K.lookup f2 = some ⟨oc2, od2, .func (PySem.W.fnOf "_law_open" "_law_open" (defArgs sOpen) (defBody sOpen) (defScope sOpen) .none kV2 dc2 pm2 an2 cd2 ct2), sl2⟩)
    (c2 : PySem.W.codeIn K cd2 "_law_open" = true) (k2 : PySem.W.keepIn K (.ref f2) = true)
    (a3 : PySem.W.nsIn K mainGlobals "_law_take" = some (some (.ref f3)))
    (l3 : K.lookup f3 = some ⟨oc3, od3, .func (PySem.W.fnOf "_law_take" "_law_take" (defArgs sTake) (defBody sTake) (defScope sTake) .none kV3 dc3 pm3 an3 cd3 ct3), sl3⟩)
    (c3 : PySem.W.codeIn K cd3 "_law_take" = true) (k3 : PySem.W.keepIn K (.ref f3) = true)
    (a4 : PySem.W.nsIn K mainGlobals "_law_x_pick" = some (some (.ref f4)))
    (l4 : K.lookup f4 = some ⟨oc4, od4, .func (PySem.W.fnOf "_law_x_pick" "_law_x_pick" (defArgs sPick) (defBody sPick) (defScope sPick) .none kV4 dc4 pm4 an4 cd4 ct4), sl4⟩)
    (c4 : PySem.W.codeIn K cd4 "_law_x_pick" = true) (k4 : PySem.W.keepIn K (.ref f4) = true)
    (a5 : PySem.W.nsIn K mainGlobals "number_of" = some (some (.ref f5)))
    (l5 : K.lookup f5 = some ⟨oc5, od5, .func (PySem.W.fnOf "number_of" "number_of" (defArgs sNumberOf) (defBody sNumberOf) (defScope sNumberOf) .none kV5 dc5 pm5 an5 cd5 ct5), sl5⟩)
    (c5 : PySem.W.codeIn K cd5 "number_of" = true) (k5 : PySem.W.keepIn K (.ref f5) = true)
    (a6 : PySem.W.nsIn K mainGlobals "plus" = some (some (.ref f6)))
    (l6 : K.lookup f6 = some ⟨oc6, od6, .func (PySem.W.fnOf "plus" "plus" (defArgs sPlus) (defBody sPlus) (defScope sPlus) .none kV6 dc6 pm6 an6 cd6 ct6), sl6⟩)
    (c6 : PySem.W.codeIn K cd6 "plus" = true) (k6 : PySem.W.keepIn K (.ref f6) = true)
    (a7 : PySem.W.nsIn K mainGlobals "minus" = some (some (.ref f7)))
    (l7 : K.lookup f7 = some ⟨oc7, od7, .func (PySem.W.fnOf "minus" "minus" (defArgs sMinus) (defBody sMinus) (defScope sMinus) .none kV7 dc7 pm7 an7 cd7 ct7), sl7⟩)
    (c7 : PySem.W.codeIn K cd7 "minus" = true) (k7 : PySem.W.keepIn K (.ref f7) = true)
    (a8 : PySem.W.nsIn K mainGlobals "compared" = some (some (.ref f8)))
    (l8 : K.lookup f8 = some ⟨oc8, od8, .func (PySem.W.fnOf "compared" "compared" (defArgs sCompared) (defBody sCompared) (defScope sCompared) .none kV8 dc8 pm8 an8 cd8 ct8), sl8⟩)
    (c8 : PySem.W.codeIn K cd8 "compared" = true) (k8 : PySem.W.keepIn K (.ref f8) = true)
    (a9 : PySem.W.nsIn K mainGlobals "is_whole" = some (some (.ref f9)))
    (l9 : K.lookup f9 = some ⟨oc9, od9, .func (PySem.W.fnOf "is_whole" "is_whole" (defArgs sIsWhole) (defBody sIsWhole) (defScope sIsWhole) .none kV9 dc9 pm9 an9 cd9 ct9), sl9⟩)
    (c9 : PySem.W.codeIn K cd9 "is_whole" = true) (k9 : PySem.W.keepIn K (.ref f9) = true)
    (a10 : PySem.W.nsIn K mainGlobals "is_number" = some (some (.ref f10)))
    (l10 : K.lookup f10 = some ⟨oc10, od10, .func (PySem.W.fnOf "is_number" "is_number" (defArgs sIsNumber) (defBody sIsNumber) (defScope sIsNumber) .none kV10 dc10 pm10 an10 cd10 ct10), sl10⟩)
    (c10 : PySem.W.codeIn K cd10 "is_number" = true) (k10 : PySem.W.keepIn K (.ref f10) = true)
    (a11 : PySem.W.nsIn K mainGlobals "need_number" = some (some (.ref f11)))
    (l11 : K.lookup f11 = some ⟨oc11, od11, .func (PySem.W.fnOf "need_number" "need_number" (defArgs sNeed) (defBody sNeed) (defScope sNeed) .none kV11 dc11 pm11 an11 cd11 ct11), sl11⟩)
    (c11 : PySem.W.codeIn K cd11 "need_number" = true) (k11 : PySem.W.keepIn K (.ref f11) = true)
    (a12 : PySem.W.nsIn K mainGlobals "lowest" = some (some (.ref f12)))
    (l12 : K.lookup f12 = some ⟨oc12, od12, .func (PySem.W.fnOf "lowest" "lowest" (defArgs sLowest) (defBody sLowest) (defScope sLowest) .none kV12 dc12 pm12 an12 cd12 ct12), sl12⟩)
    (c12 : PySem.W.codeIn K cd12 "lowest" = true) (k12 : PySem.W.keepIn K (.ref f12) = true)
    (a60 : PySem.W.nsIn K mainGlobals "difference" = some (some (.ref f60)))
    (l60 : K.lookup f60 = some ⟨oc60, od60, .func (PySem.W.fnOf "difference" "difference" (defArgs sDifference) (defBody sDifference) (defScope sDifference) .none kV60 dc60 pm60 an60 cd60 ct60), sl60⟩)
    (c60 : PySem.W.codeIn K cd60 "difference" = true) (k60 : PySem.W.keepIn K (.ref f60) = true)
    (a13 : PySem.W.nsIn K mainGlobals "_law_x_number" = some (some (.ref f13)))
    (l13 : K.lookup f13 = some ⟨oc13, od13, .func (PySem.W.fnOf "_law_x_number" "_law_x_number" (defArgs sXNumber) (defBody sXNumber) (defScope sXNumber) .none kV13 dc13 pm13 an13 cd13 ct13), sl13⟩)
    (c13 : PySem.W.codeIn K cd13 "_law_x_number" = true) (k13 : PySem.W.keepIn K (.ref f13) = true)
    (a14 : PySem.W.nsIn K mainGlobals "_law_x_plus" = some (some (.ref f14)))
    (l14 : K.lookup f14 = some ⟨oc14, od14, .func (PySem.W.fnOf "_law_x_plus" "_law_x_plus" (defArgs sXPlus) (defBody sXPlus) (defScope sXPlus) .none kV14 dc14 pm14 an14 cd14 ct14), sl14⟩)
    (c14 : PySem.W.codeIn K cd14 "_law_x_plus" = true) (k14 : PySem.W.keepIn K (.ref f14) = true)
    (a15 : PySem.W.nsIn K mainGlobals "_law_x_minus" = some (some (.ref f15)))
    (l15 : K.lookup f15 = some ⟨oc15, od15, .func (PySem.W.fnOf "_law_x_minus" "_law_x_minus" (defArgs sXMinus) (defBody sXMinus) (defScope sXMinus) .none kV15 dc15 pm15 an15 cd15 ct15), sl15⟩)
    (c15 : PySem.W.codeIn K cd15 "_law_x_minus" = true) (k15 : PySem.W.keepIn K (.ref f15) = true)
    (a16 : PySem.W.nsIn K mainGlobals "_law_x_is_less" = some (some (.ref f16)))
    (l16 : K.lookup f16 = some ⟨oc16, od16, .func (PySem.W.fnOf "_law_x_is_less" "_law_x_is_less" (defArgs sXLess) (defBody sXLess) (defScope sXLess) .none kV16 dc16 pm16 an16 cd16 ct16), sl16⟩)
    (c16 : PySem.W.codeIn K cd16 "_law_x_is_less" = true) (k16 : PySem.W.keepIn K (.ref f16) = true)
    (a17 : PySem.W.nsIn K mainGlobals "_law_x_great" = some (some (.ref f17)))
    (l17 : K.lookup f17 = some ⟨oc17, od17, .func (PySem.W.fnOf "_law_x_great" "_law_x_great" (defArgs sXGreat) (defBody sXGreat) (defScope sXGreat) .none kV17 dc17 pm17 an17 cd17 ct17), sl17⟩)
    (c17 : PySem.W.codeIn K cd17 "_law_x_great" = true) (k17 : PySem.W.keepIn K (.ref f17) = true)
    (a18 : PySem.W.nsIn K mainGlobals "_law_x_any" = some (some (.ref f18)))
    (l18 : K.lookup f18 = some ⟨oc18, od18, .func (PySem.W.fnOf "_law_x_any" "_law_x_any" (defArgs sXAny) (defBody sXAny) (defScope sXAny) .none kV18 dc18 pm18 an18 cd18 ct18), sl18⟩)
    (c18 : PySem.W.codeIn K cd18 "_law_x_any" = true) (k18 : PySem.W.keepIn K (.ref f18) = true)
    (a19 : PySem.W.nsIn K mainGlobals "law" = some (some (.ref f19)))
    (l19 : K.lookup f19 = some ⟨oc19, od19, .func (PySem.W.fnOf "law" "law" (defArgs sLaw) (defBody sLaw) (defScope sLaw) .none kV19 dc19 pm19 an19 cd19 ct19), sl19⟩)
    (c19 : PySem.W.codeIn K cd19 "law" = true) (k19 : PySem.W.keepIn K (.ref f19) = true)
    (ea1 : PySem.W.nsIn K mainGlobals "NoNumber" = some (some (.ref C1))) (eq1 : PySem.W.excIn K C1 [.type "ValueError", .type "Exception", .type "BaseException", .type "object"] "ValueError.__new__" = true)
    (ek1 : PySem.W.keepIn K (.ref C1) = true) (eb1 : PySem.W.subIn K (.ref C1) (.type "BaseException") = some true) (et1 : PySem.W.typeIn K (.ref C1) = some (.type "type"))
    (ea2 : PySem.W.nsIn K mainGlobals "NoDivisor" = some (some (.ref C2))) (eq2 : PySem.W.excIn K C2 [.type "ValueError", .type "Exception", .type "BaseException", .type "object"] "ValueError.__new__" = true)
    (ek2 : PySem.W.keepIn K (.ref C2) = true) (eb2 : PySem.W.subIn K (.ref C2) (.type "BaseException") = some true) (et2 : PySem.W.typeIn K (.ref C2) = some (.type "type"))
    (gcd : PySem.W.nsIn K mainGlobals "gcd" = some (some (.builtin "math.gcd")))
    (z0 : PySem.W.nsIn K mainGlobals "int" = some none)
    (z1 : PySem.W.nsIn K mainGlobals "list" = some none)
    (z2 : PySem.W.nsIn K mainGlobals "len" = some none)
    (z3 : PySem.W.nsIn K mainGlobals "enumerate" = some none)
    (z4 : PySem.W.nsIn K mainGlobals "type" = some none)
    (z5 : PySem.W.nsIn K mainGlobals "tuple" = some none)
    (z6 : PySem.W.nsIn K mainGlobals "abs" = some none)
    (z7 : PySem.W.nsIn K mainGlobals "range" = some none)
    (z8 : PySem.W.nsIn K mainGlobals "repr" = some none) :
    ∃ fd : FuncData, (∀ (s : Shared) (v : Value), BindsTo s fd ⟨[v], []⟩ [("script", v)]) ∧ ∀ base : Heap, K.In base → base.Ns mainGlobals mg → FnG l.prog w K mg base CX0 6 fa fd ["script"] (spLaw K) := by
  cases hfa.symm.trans (PySem.W.mg_of X G a19)
  have F1 := fun_mk (st := sSpread) l1 c1 k1
  have b1 := F1.binds (ps := ["cell", "at"]) fun _ _ _ _ _ _ us hl => match us, hl with | [_, _], _ => rfl
  have F2 := fun_mk (st := sOpen) l2 c2 k2
  have b2 := F2.binds (ps := ["script"]) fun _ _ _ _ _ _ us hl => match us, hl with | [_], _ => rfl
  have F3 := fun_mk (st := sTake) l3 c3 k3
  have b3 := F3.binds (ps := ["pen", "many"]) fun _ _ _ _ _ _ us hl => match us, hl with | [_, _], _ => rfl
  have F4 := fun_mk (st := sPick) l4 c4 k4
  have b4 := F4.binds (ps := ["pen", "some"]) fun _ _ _ _ _ _ us hl => match us, hl with | [_, _], _ => rfl
  have F5 := fun_mk (st := sNumberOf) l5 c5 k5
  have b5 := F5.binds (ps := ["n", "d"]) fun _ _ _ _ _ _ us hl => match us, hl with | [_, _], _ => rfl
  have F6 := fun_mk (st := sPlus) l6 c6 k6
  have b6 := F6.binds (ps := ["a", "b"]) fun _ _ _ _ _ _ us hl => match us, hl with | [_, _], _ => rfl
  have F7 := fun_mk (st := sMinus) l7 c7 k7
  have b7 := F7.binds (ps := ["a", "b"]) fun _ _ _ _ _ _ us hl => match us, hl with | [_, _], _ => rfl
  have F8 := fun_mk (st := sCompared) l8 c8 k8
  have b8 := F8.binds (ps := ["a", "b"]) fun _ _ _ _ _ _ us hl => match us, hl with | [_, _], _ => rfl
  have F9 := fun_mk (st := sIsWhole) l9 c9 k9
  have b9 := F9.binds (ps := ["thing"]) fun _ _ _ _ _ _ us hl => match us, hl with | [_], _ => rfl
  have F10 := fun_mk (st := sIsNumber) l10 c10 k10
  have b10 := F10.binds (ps := ["thing"]) fun _ _ _ _ _ _ us hl => match us, hl with | [_], _ => rfl
  have F11 := fun_mk (st := sNeed) l11 c11 k11
  have b11 := F11.binds (ps := ["thing", "name"]) fun _ _ _ _ _ _ us hl => match us, hl with | [_, _], _ => rfl
  have F12 := fun_mk (st := sLowest) l12 c12 k12
  have b12 := F12.binds (ps := ["n", "d"]) fun _ _ _ _ _ _ us hl => match us, hl with | [_, _], _ => rfl
  have F60 := fun_mk (st := sDifference) l60 c60 k60
  have b60 := F60.binds (ps := ["a", "b"]) fun _ _ _ _ _ _ us hl => match us, hl with | [_, _], _ => rfl
  have F13 := fun_mk (st := sXNumber) l13 c13 k13
  have b13 := F13.binds (ps := ["n", "d"]) fun _ _ _ _ _ _ us hl => match us, hl with | [_, _], _ => rfl
  have F14 := fun_mk (st := sXPlus) l14 c14 k14
  have b14 := F14.binds (ps := ["a", "b"]) fun _ _ _ _ _ _ us hl => match us, hl with | [_, _], _ => rfl
  have F15 := fun_mk (st := sXMinus) l15 c15 k15
  have b15 := F15.binds (ps := ["a", "b"]) fun _ _ _ _ _ _ us hl => match us, hl with | [_, _], _ => rfl
  have F16 := fun_mk (st := sXLess) l16 c16 k16
  have b16 := F16.binds (ps := ["a", "b"]) fun _ _ _ _ _ _ us hl => match us, hl with | [_, _], _ => rfl
  have F17 := fun_mk (st := sXGreat) l17 c17 k17
  have b17 := F17.binds (ps := []) fun _ _ _ _ _ _ us hl => match us, hl with | [], _ => rfl
  have F18 := fun_mk (st := sXAny) l18 c18 k18
  have b18 := F18.binds (ps := ["pen"]) fun _ _ _ _ _ _ us hl => match us, hl with | [_], _ => rfl
  have F19 := fun_mk (st := sLaw) l19 c19 k19
  have b19 := F19.binds (ps := ["script"]) fun _ _ _ _ _ _ us hl => match us, hl with | [_], _ => rfl
  have TP : PenTxt K mg f1 f2 f3 f4 _ _ _ _ := { int := PySem.W.mg_none_of X G z0, list := PySem.W.mg_none_of X G z1, len := PySem.W.mg_none_of X G z2, enumerate := PySem.W.mg_none_of X G z3, FSpread := F1, bSpread := b1, gSpread := PySem.W.mg_of X G a1, FOpen := F2, bOpen := b2, gOpen := PySem.W.mg_of X G a2, FTake := F3, bTake := b3, gTake := PySem.W.mg_of X G a3, FPick := F4, bPick := b4, gPick := PySem.W.mg_of X G a4 }
  have TN : NumTxt K mg f5 f6 f7 f8 f9 f10 f11 f12 C1 C2 _ _ _ _ _ _ _ _ := { type := PySem.W.mg_none_of X G z4, int := PySem.W.mg_none_of X G z0, tuple := PySem.W.mg_none_of X G z5, len := PySem.W.mg_none_of X G z2, gcd := PySem.W.mg_of X G gcd, diff := ⟨f60, _, F60, b60, PySem.W.mg_of X G a60⟩, number := ⟨PySem.W.mg_of X G ea1, eq1, ek1, eb1, et1⟩, divisor := ⟨PySem.W.mg_of X G ea2, eq2, ek2, eb2, et2⟩, FNumberOf := F5, bNumberOf := b5, gNumberOf := PySem.W.mg_of X G a5, FPlus := F6, bPlus := b6, gPlus := PySem.W.mg_of X G a6, FMinus := F7, bMinus := b7, gMinus := PySem.W.mg_of X G a7, FCompared := F8, bCompared := b8, gCompared := PySem.W.mg_of X G a8, FIsWhole := F9, bIsWhole := b9, gIsWhole := PySem.W.mg_of X G a9, FIsNumber := F10, bIsNumber := b10, gIsNumber := PySem.W.mg_of X G a10, FNeed := F11, bNeed := b11, gNeed := PySem.W.mg_of X G a11, FLowest := F12, bLowest := b12, gLowest := PySem.W.mg_of X G a12 }
  have TX : X31 K mg f13 f14 f15 f16 f17 f18 _ _ _ _ _ _ := { int := PySem.W.mg_none_of X G z0, abs := PySem.W.mg_none_of X G z6, range := PySem.W.mg_none_of X G z7, repr := PySem.W.mg_none_of X G z8, FXNumber := F13, bXNumber := b13, gXNumber := PySem.W.mg_of X G a13, FXPlus := F14, bXPlus := b14, gXPlus := PySem.W.mg_of X G a14, FXMinus := F15, bXMinus := b15, gXMinus := PySem.W.mg_of X G a15, FXLess := F16, bXLess := b16, gXLess := PySem.W.mg_of X G a16, FXGreat := F17, bXGreat := b17, gXGreat := PySem.W.mg_of X G a17, FXAny := F18, bXAny := b18, gXAny := PySem.W.mg_of X G a18 }
  exact ⟨_, fun s v => .of_eq rfl, fun base _ _ => ok_law F19 TP TN TX⟩
end My
open PySem PySem.W PyProof.Rows
set_option maxHeartbeats 0 in
theorem PySem.Challenge.cw_laterless_k31_numbers_holds : PySem.Challenge.rw_laterless_k31_numbers.Holds := by
  w_on; o_law; k_head; (case hw => w_witness2)
  k_fill
  refine My.walk_ofG (l := PySem.Challenge.rw_laterless_k31_numbers) (n := 63) (k := 6) (x := "script") (CX := fun _ => L2.CX0) (sp := fun w => My.spLaw _) rfl (by decide) rfl ⟨rfl, by decide, by decide⟩ (fun w h Y => PySem.W.kIn_of Y) ?F (fun _ _ a ns hl _ hS => ⟨a, ns, rfl, hS, hl, fun _ => rfl⟩) (fun _ _ _ _ _ h => h)
  case F =>
    intro w mg fa h KX G hmg
    refine' My.all_mk KX G hmg ?a1 ?l1 ?c1 ?k1 ?a2 ?l2 ?c2 ?k2 ?a3 ?l3 ?c3 ?k3 ?a4 ?l4 ?c4 ?k4 ?a5 ?l5 ?c5 ?k5 ?a6 ?l6 ?c6 ?k6 ?a7 ?l7 ?c7 ?k7 ?a8 ?l8 ?c8 ?k8 ?a9 ?l9 ?c9 ?k9 ?a10 ?l10 ?c10 ?k10 ?a11 ?l11 ?c11 ?k11 ?a12 ?l12 ?c12 ?k12 ?a60 ?l60 ?c60 ?k60 ?a13 ?l13 ?c13 ?k13 ?a14 ?l14 ?c14 ?k14 ?a15 ?l15 ?c15 ?k15 ?a16 ?l16 ?c16 ?k16 ?a17 ?l17 ?c17 ?k17 ?a18 ?l18 ?c18 ?k18 ?a19 ?l19 ?c19 ?k19 ?ea1 ?eq1 ?ek1 ?eb1 ?et1 ?ea2 ?eq2 ?ek2 ?eb2 ?et2 ?gcd ?z0 ?z1 ?z2 ?z3 ?z4 ?z5 ?z6 ?z7 ?z8
    (case a1 => k_is); (case l1 => k_is); (case c1 => k_is); (case k1 => k_is)
    (case a2 => k_is); (case l2 => k_is); (case c2 => k_is); (case k2 => k_is)
    (case a3 => k_is); (case l3 => k_is); (case c3 => k_is); (case k3 => k_is)
    (case a4 => k_is); (case l4 => k_is); (case c4 => k_is); (case k4 => k_is)
    (case a5 => k_is); (case l5 => k_is); (case c5 => k_is); (case k5 => k_is)
    (case a6 => k_is); (case l6 => k_is); (case c6 => k_is); (case k6 => k_is)
    (case a7 => k_is); (case l7 => k_is); (case c7 => k_is); (case k7 => k_is)
    (case a8 => k_is); (case l8 => k_is); (case c8 => k_is); (case k8 => k_is)
    (case a9 => k_is); (case l9 => k_is); (case c9 => k_is); (case k9 => k_is)
    (case a10 => k_is); (case l10 => k_is); (case c10 => k_is); (case k10 => k_is)
    (case a11 => k_is); (case l11 => k_is); (case c11 => k_is); (case k11 => k_is)
    (case a12 => k_is); (case l12 => k_is); (case c12 => k_is); (case k12 => k_is)
    (case a60 => k_is); (case l60 => k_is); (case c60 => k_is); (case k60 => k_is)
    (case a13 => k_is); (case l13 => k_is); (case c13 => k_is); (case k13 => k_is)
    (case a14 => k_is); (case l14 => k_is); (case c14 => k_is); (case k14 => k_is)
    (case a15 => k_is); (case l15 => k_is); (case c15 => k_is); (case k15 => k_is)
    (case a16 => k_is); (case l16 => k_is); (case c16 => k_is); (case k16 => k_is)
    (case a17 => k_is); (case l17 => k_is); (case c17 => k_is); (case k17 => k_is)
    (case a18 => k_is); (case l18 => k_is); (case c18 => k_is); (case k18 => k_is)
    (case a19 => k_is); (case l19 => k_is); (case c19 => k_is); (case k19 => k_is)
    (case ea1 => k_is); (case eq1 => k_exc); (case ek1 => k_is); (case eb1 => k_is); (case et1 => k_is)
    (case ea2 => k_is); (case eq2 => k_exc); (case ek2 => k_is); (case eb2 => k_is); (case et2 => k_is)
    (case gcd => k_is)
    (case z0 => k_is); (case z1 => k_is); (case z2 => k_is); (case z3 => k_is); (case z4 => k_is); (case z5 => k_is); (case z6 => k_is); (case z7 => k_is); (case z8 => k_is)
