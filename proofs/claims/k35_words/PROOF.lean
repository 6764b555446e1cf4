import PyProof.Rows.All
import Wide.All
import OpenK.AllK
import Wide.FinOn
import HandS.ForMost
import HandS.ForExc
import HandS.Wide
import HandS.Gcd
import HandS.Evl
import HandS.Walk
import HandS.More
import HandS.FStr
import HandS.IsInst
import HandS.RaiseMore
import HandS.Style
import HandS.ExcValue
import HandS.ExcIs
import HandS.Lambda
import HandS.EndTab
import HandS.EndOwn
import PyProof.TypeEq
import PyProof.ReprLen
import HandS.TupSets
import HandS.Replace
import HandS.Defaults
import PyProof.ListStr
import HandS.TupMul
import HandS.MakeKwOnly
import PySem.Challenge.RW_laterless_k35_words_of_rules
set_option Elab.async false
set_option linter.all false
set_option maxRecDepth 100000
set_option maxHeartbeats 4000000
namespace My
open PySem PySem.Spec PyProof.Rows L2
/-! ### the text by places -/
def topS (i : Nat) : Stmt := PySem.Challenge.pw_laterless_k35_words_of_rules.main.body.getD i (.Pass ⟨0, 0, 0, 0⟩)
abbrev sSpread : Stmt := topS 31
abbrev sOpen : Stmt := topS 32
abbrev sTake : Stmt := topS 33
abbrev sPick : Stmt := topS 34
theorem scSpread : FnScope ["cell", "at", "primes", "one", "two", "three"] ["cell", "at"] (defScope sSpread) := ⟨rfl, rfl, rfl, by decide +kernel, rfl, by decide +kernel, by decide +kernel⟩
theorem scOpen : FnScope ["script", "cells", "nth", "cell"] ["script"] (defScope sOpen) := ⟨rfl, rfl, rfl, by decide +kernel, rfl, by decide +kernel, by decide +kernel⟩
theorem scTake : FnScope ["pen", "many", "at", "cell", "found"] ["pen", "many"] (defScope sTake) := ⟨rfl, rfl, rfl, by decide +kernel, rfl, by decide +kernel, by decide +kernel⟩
theorem scPick : FnScope ["pen", "some"] ["pen", "some"] (defScope sPick) := ⟨rfl, rfl, rfl, by decide +kernel, rfl, by decide +kernel, by decide +kernel⟩
/-! ### heaps -/
theorem same_upd {H : Hp} {p : Addr} {o : HO} (h : H p = none) : Same H (upd H p o) := fun b x e => by
  rw [upd_ne (ne_of_none e h)]
  exact e
/-- all tracked things but the one at p stand as they stood -/
def But (p : Addr) (H H' : Hp) : Prop := ∀ b o, b ≠ p → H b = some o → H' b = some o
theorem But.of {p : Addr} {H H' : Hp} (s : Same H H') : But p H H' := fun b o _ e => s b o e
theorem But.trans {p : Addr} {H H1 H2 : Hp} (a : But p H H1) (b : But p H1 H2) : But p H H2 := fun c o n e => b c o n (a c o n e)
theorem but_upd {H : Hp} {p : Addr} {o : HO} : But p H (upd H p o) := fun b x n e => by
  rw [upd_ne n]
  exact e
/-- a pen stands at p: a list of the list of cells (at c), the number of cells read so far, at most n, and what is left of the last one -/
structure Pen (H : Hp) (p : Addr) (n : Nat) : Prop where
  ex : ∃ (c : Addr) (cs : List Int) (a r : Int), H p = some (.lst [.ref c, .int a, .int r]) ∧ H c = some (.lst (cs.map V.int)) ∧ c ≠ p ∧ cs.length ≤ 12 ∧ 0 ≤ a ∧ a ≤ (n : Int) ∧ 0 ≤ r
theorem Pen.same {H H' : Hp} {p : Addr} {n : Nat} (h : Pen H p n) (s : Same H H') : Pen H' p n := by
  obtain ⟨c, cs, a, r, h1, h2, h3⟩ := h.ex
  exact ⟨c, cs, a, r, s _ _ h1, s _ _ h2, h3⟩
theorem Pen.mono {H : Hp} {p : Addr} {n m : Nat} (h : Pen H p n) (l : n ≤ m) : Pen H p m := by
  obtain ⟨c, cs, a, r, h1, h2, h3, h4, h5, h6, h7⟩ := h.ex
  exact ⟨c, cs, a, r, h1, h2, h3, h4, h5, by omega, h7⟩
theorem Pen.ls {H : Hp} {p : Addr} {n : Nat} (h : Pen H p n) : ∃ xs, H p = some (.lst xs) := by
  obtain ⟨c, cs, a, r, h1, _⟩ := h.ex
  exact ⟨_, h1⟩
/-! ### the promises -/
def spSpread : Sp := fun vs H Q _ => ∃ (c a : Int), vs = [.int c, .int a] ∧ 0 ≤ a ∧ a < 1048576 ∧ ∀ H' r, Same H H' → 0 ≤ r → Q (.int r) H'
def spOpen (K : PySem.W.Frag) : Sp := fun vs H Q _ => ∃ (a : Addr) (ns : List Int), vs = [.ref a] ∧ SqL K H a (ns.map V.int) ∧ ns.length ≤ 63 ∧ ∀ H' p, Same H H' → H p = none → Pen H' p 0 → Q (.ref p) H'
def spTake : Sp := fun vs H Q _ => ∃ (p : Addr) (many : Int) (n : Nat), vs = [.ref p, .int many] ∧ Pen H p n ∧ n < 1048000 ∧ 0 < many ∧ many.natAbs.log2 < 9000 ∧ ∀ H' k, But p H H' → Pen H' p (n + 1) → 0 ≤ k → k < many → Q (.int k) H'
def spPick (K : PySem.W.Frag) : Sp := fun vs H Q _ => ∃ (p s : Addr) (xs : List V) (n : Nat), vs = [.ref p, .ref s] ∧ Pen H p n ∧ n < 1048000 ∧ SqL K H s xs ∧ s ≠ p ∧ 0 < xs.length ∧ xs.length ≤ 1000 ∧ ∀ (H' : Hp) (k : Nat) (v : V), But p H H' → Pen H' p (n + 1) → xs[(k : Nat)]? = some (v : V) → Q v H'
def primesV : List V := ([.int 2147483629, .int 2147483587, .int 2147483579, .int 2147483563, .int 2147483549, .int 2147483543, .int 2147483497, .int 2147483489] : List V) ++ [.int 2147483477, .int 2147483423, .int 2147483399, .int 2147483353, .int 2147483323]
theorem prime_at {k : Int} (h0 : 0 ≤ k) (h1 : k < 13) : ∃ m : Int, atI primesV k = some (.int m) ∧ 0 < m ∧ m < 2147483648 := by
  have h : k = 0 ∨ k = 1 ∨ k = 2 ∨ k = 3 ∨ k = 4 ∨ k = 5 ∨ k = 6 ∨ k = 7 ∨ k = 8 ∨ k = 9 ∨ k = 10 ∨ k = 11 ∨ k = 12 := by omega
  rcases h with rfl | rfl | rfl | rfl | rfl | rfl | rfl | rfl | rfl | rfl | rfl | rfl | rfl <;> exact ⟨_, rfl, by decide, by decide⟩
theorem ixN_of {n : Nat} {i : Int} (h0 : 0 ≤ i) (h1 : i < (n : Int)) : ixN n i = some i.toNat := by
  unfold ixN
  rw [if_pos h0, if_pos h1]
theorem atI_int {cs : List Int} {i : Int} (h0 : 0 ≤ i) (h1 : i < (cs.length : Int)) : ∃ z : Int, atI (cs.map V.int) i = some (.int z) := by
  have h2 : i.toNat < cs.length := by omega
  refine ⟨cs[i.toNat], ?_⟩
  unfold atI
  rw [List.length_map, ixN_of h0 h1]
  show (cs.map V.int)[i.toNat]? = _
  rw [List.getElem?_map, List.getElem?_eq_getElem h2]
  rfl
theorem cut_ints (ns : List Int) (lo hi : Option Int) : cutV (ns.map V.int) lo hi = ((ns.drop (HT.sIx ns.length 0 lo)).take (HT.sIx ns.length ns.length hi - HT.sIx ns.length 0 lo)).map V.int := by
  unfold cutV
  rw [List.length_map, List.map_take, List.map_drop]
theorem cut_len (ns : List Int) (lo hi : Option Int) : ((ns.drop (HT.sIx ns.length 0 lo)).take (HT.sIx ns.length ns.length hi - HT.sIx ns.length 0 lo)).length = min (HT.sIx ns.length ns.length hi - HT.sIx ns.length 0 lo) (ns.length - HT.sIx ns.length 0 lo) := by
  rw [List.length_take, List.length_drop]
theorem int_of {ds : List Int} {i : Nat} {y : V} (h : (ds.map V.int)[i]? = some y) : i < ds.length ∧ ∃ d : Int, y = .int d := by
  rw [List.getElem?_map] at h
  cases e : ds[i]? with
  | none =>
    rw [e] at h
    cases h
  | some d =>
    rw [e] at h
    exact ⟨(List.getElem?_eq_some_iff.mp e).1, d, (Option.some.inj h).symm⟩
theorem mul_bd {x y m : Int} (h0 : 0 ≤ x) (h1 : x ≤ m) (h2 : 0 ≤ y) : 0 ≤ x * y ∧ x * y ≤ m * y := ⟨Int.mul_nonneg h0 h2, Int.mul_le_mul_of_nonneg_right h1 h2⟩
/-- what the top has left of the pen's defs and the built-ins that they call -/
structure PenTxt (K : PySem.W.Frag) (mg : Str → Option Value) (f1 f2 f3 f4 : Addr) (d1 d2 d3 d4 : FuncData) : Prop where
  int : mg "int" = none
  list : mg "list" = none
  len : mg "len" = none
  enumerate : mg "enumerate" = none
  FSpread : Fun K "_law_spread" "_law_spread" sSpread f1 d1
  bSpread : Binds K d1 ["cell", "at"] []
  gSpread : mg "_law_spread" = some (.ref f1)
  FOpen : Fun K "_law_open" "_law_open" sOpen f2 d2
  bOpen : Binds K d2 ["script"] []
  gOpen : mg "_law_open" = some (.ref f2)
  FTake : Fun K "_law_take" "_law_take" sTake f3 d3
  bTake : Binds K d3 ["pen", "many"] []
  gTake : mg "_law_take" = some (.ref f3)
  FPick : Fun K "_law_x_pick" "_law_x_pick" sPick f4 d4
  bPick : Binds K d4 ["pen", "some"] []
  gPick : mg "_law_x_pick" = some (.ref f4)
section
variable {P : Program} {w : World} {K : PySem.W.Frag} {mg : Str → Option Value} {base : Heap} {f1 f2 f3 f4 : Addr} {d1 d2 d3 d4 : FuncData}
theorem ok_spread (T : PenTxt K mg f1 f2 f3 f4 d1 d2 d3 d4) {k : Nat} : FnOk P w K mg base CX0 (k + 1) f1 d1 ["cell", "at"] spSpread := by
  have F := T.FSpread
  refine F.ok scSpread (fun vs H Q E h => ?_) (fun cdv A outer s H vs Q E hr h => ?_)
  · obtain ⟨c, a, rfl, _⟩ := h
    rfl
  · obtain ⟨c, a, rfl, a0, a1, q⟩ := h
    refine ⟨_, (pss_cons (ps_if (pt_cmpR op_ge (pv 0) (pe_op op_pow pe_int pe_int) (nomark _)) (pss_one (ps_ret (pv 0))) pss_nil)
 (pss_cons (ps_set (i := 2) scSpread.nd rfl (.inl rfl) (pe_lst (pa_cons pe_int (pa_cons pe_int (pa_cons pe_int (pa_cons pe_int (pa_cons pe_int (pa_cons pe_int (pa_cons pe_int (pa_cons pe_int pa_nil))))))))))
 (Evl.pss_cut (ps_set (i := 2) scSpread.nd rfl (.inl rfl) (pe_op op_cat (pv 2) (pe_lst (pa_cons pe_int (pa_cons pe_int (pa_cons pe_int (pa_cons pe_int (pa_cons pe_int pa_nil))))))))
 (Evl.pss_cut (ps_set (i := 3) scSpread.nd rfl (.inl rfl) (pe_op op_mul (pe_op op_mod (pe_callTy call_int1 (by rfl) T.int (by decide +kernel) (pa_cons (pv 0) pa_nil)) pe_int) (pe_op op_add (pe_op op_mul pe_int (pv 1)) pe_int)))
 (Evl.pss_cut (ps_set (i := 3) scSpread.nd rfl (.inl rfl) (pe_op op_mod (pe_callTy call_int1 (by rfl) T.int (by decide +kernel) (pa_cons (pe_op op_pow (pe_op op_add (pe_op op_add (pv 3) (pe_op op_mul (pv 1) pe_int)) pe_int) pe_int) pa_nil)) (pe_ix ix_list (pv 2) (pe_op op_mod (pe_callTy call_int1 (by rfl) T.int (by decide +kernel) (pa_cons (pv 1) pa_nil)) pe_int) (fun _ _ => rfl))))
 (Evl.pss_cut (ps_set (i := 4) scSpread.nd rfl (.inl rfl) (pe_op op_mod (pe_callTy call_int1 (by rfl) T.int (by decide +kernel) (pa_cons (pe_op op_pow (pe_op op_add (pe_op op_add (pe_op op_mul (pv 3) (pe_op op_add (pv 1) pe_int)) (pe_op op_mod (pe_callTy call_int1 (by rfl) T.int (by decide +kernel) (pa_cons (pv 0) pa_nil)) pe_int)) pe_int) pe_int) pa_nil)) (pe_ix ix_list (pv 2) (pe_op op_mod (pe_callTy call_int1 (by rfl) T.int (by decide +kernel) (pa_cons (pe_op op_add (pv 1) pe_int) pa_nil)) pe_int) (fun _ _ => rfl))))
 (Evl.pss_cut (ps_set (i := 5) scSpread.nd rfl (.inl rfl) (pe_op op_mod (pe_callTy call_int1 (by rfl) T.int (by decide +kernel) (pa_cons (pe_op op_pow (pe_op op_add (pe_op op_add (pv 4) (pe_op op_mod (pe_callTy call_int1 (by rfl) T.int (by decide +kernel) (pa_cons (pv 3) pa_nil)) pe_int)) (pv 1)) pe_int) pa_nil)) (pe_ix ix_list (pv 2) (pe_op op_mod (pe_callTy call_int1 (by rfl) T.int (by decide +kernel) (pa_cons (pe_op op_add (pv 1) pe_int) pa_nil)) pe_int) (fun _ _ => rfl))))
 (pss_one (ps_ret (pe_op op_add (pe_op op_mul (pe_op op_add (pe_op op_mul (pv 3) pe_int) (pv 4)) pe_int) (pv 5))))))))))), ?_⟩
    refine ⟨.int c, rfl, 10, 18, rfl, rfl, ⟨by decide, by decide, by decide⟩, c, _, rfl, rfl, _, rfl, ite2 (fun e => ?_) (fun e => ?_)⟩
    · have e' := of_decide_eq_true e
      exact ⟨_, rfl, q H c (Same.refl H) (Int.le_trans (by decide) e')⟩
    · refine ⟨(by show 8 ≤ sizeLine; decide), fun p hp => ?_⟩
      refine ⟨fun σ H' => ∃ l, σ = [some (.int c), some (.int a), some (.ref l), none, none, none] ∧ Same H H' ∧ SqL K H' l primesV, ?_, ?_⟩
      · refine ⟨_, rfl, (by show 5 ≤ sizeLine; decide), fun p2 hp2 => ?_⟩
        have n12 : p ≠ p2 := ne_of_none upd_same hp2
        exact ⟨p, p2, _, _, rfl, rfl, (by rw [upd_ne n12]; exact upd_same), upd_same, (by show 13 ≤ sizeLine; decide), fun l hl => ⟨l, rfl, ((same_upd hp).trans (same_upd hp2)).trans (same_upd hl), SqL.of upd_same⟩⟩
      rintro σ H3 ⟨l, rfl, s3, hS⟩
      -- one
      refine ⟨fun σ H' => ∃ one : Int, σ = [some (.int c), some (.int a), some (.ref l), some (.int one), none, none] ∧ H' = H3 ∧ 0 ≤ one ∧ one ≤ 1000000006 * (2 * a + 69069), ?_, ?_⟩
      · have c1 := Int.emod_nonneg c (show (1000000007 : Int) ≠ 0 by decide)
        have c2 := Int.emod_lt_of_pos c (show (0 : Int) < 1000000007 by decide)
        obtain ⟨o1, o2⟩ := mul_bd c1 (show c % 1000000007 ≤ 1000000006 by omega) (show 0 ≤ 2 * a + 69069 by omega)
        exact ⟨_, rfl, .inl ⟨_, rfl, _, _, rfl, rfl, (by show (0 : Int) < 1000000007; decide), _, rfl, _, _, rfl, rfl, .inl ⟨by decide, by decide⟩, _, _, rfl, rfl, _, _, rfl, rfl, .inl ⟨(by omega), (by omega)⟩, _, rfl, rfl, o1, o2⟩⟩
      rintro σ H3 ⟨one, rfl, rfl, o1, o2⟩
      refine ⟨fun σ H' => ∃ one : Int, σ = [some (.int c), some (.int a), some (.ref l), some (.int one), none, none] ∧ H' = H3 ∧ 0 ≤ one ∧ one < 2147483648, ?_, ?_⟩
      · obtain ⟨m, hm, m0, m1⟩ := prime_at (Int.emod_nonneg a (show (13 : Int) ≠ 0 by decide)) (Int.emod_lt_of_pos a (show (0 : Int) < 13 by decide))
        have u1 := Int.emod_nonneg ((one + a * 40503 + 977) ^ (3 : Int).toNat) (show m ≠ 0 by omega)
        have u2 := Int.emod_lt_of_pos ((one + a * 40503 + 977) ^ (3 : Int).toNat) m0
        refine ⟨_, rfl, _, rfl, _, _, rfl, rfl, .inl ⟨(by omega), (by omega)⟩, _, _, rfl, rfl, _, _, rfl, rfl, _, _, rfl, rfl, ⟨by decide, by decide, (by omega)⟩, .inl ⟨_, rfl, ?_⟩⟩
        exact ⟨_, rfl, _, rfl, .inl ⟨_, rfl, _, _, rfl, rfl, (by show (0 : Int) < 13; decide), l, _, _, _, rfl, rfl, hS, hm, _, _, rfl, rfl, m0, _, rfl, rfl, u1, Int.lt_trans u2 m1⟩⟩
      rintro σ H3 ⟨one, rfl, rfl, p1, p2⟩
      -- two
      refine ⟨fun σ H' => ∃ two : Int, σ = [some (.int c), some (.int a), some (.ref l), some (.int one), some (.int two), none] ∧ H' = H3 ∧ 0 ≤ two ∧ two < 2147483648, ?_, ?_⟩
      · have d1 := Int.emod_nonneg c (show (65537 : Int) ≠ 0 by decide)
        have d2 := Int.emod_lt_of_pos c (show (0 : Int) < 65537 by decide)
        obtain ⟨o1, o2⟩ := mul_bd p1 (show one ≤ 2147483647 by omega) (show 0 ≤ a + 3 by omega)
        obtain ⟨m, hm, m0, m1⟩ := prime_at (Int.emod_nonneg (a + 5) (show (13 : Int) ≠ 0 by decide)) (Int.emod_lt_of_pos (a + 5) (show (0 : Int) < 13 by decide))
        have u1 := Int.emod_nonneg ((one * (a + 3) + c % 65537 + 5) ^ (5 : Int).toNat) (show m ≠ 0 by omega)
        have u2 := Int.emod_lt_of_pos ((one * (a + 3) + c % 65537 + 5) ^ (5 : Int).toNat) m0
        refine ⟨_, rfl, _, rfl, _, _, rfl, rfl, _, _, rfl, rfl, .inl ⟨(by omega), (by omega)⟩, _, rfl, .inl ⟨_, rfl, _, _, rfl, rfl, (by show (0 : Int) < 65537; decide), _, _, rfl, rfl, _, _, rfl, rfl, _, _, rfl, rfl, ⟨by decide, by decide, (by omega)⟩, .inl ⟨_, rfl, ?_⟩⟩⟩
        exact ⟨_, rfl, _, rfl, _, _, rfl, rfl, .inl ⟨_, rfl, _, _, rfl, rfl, (by show (0 : Int) < 13; decide), l, _, _, _, rfl, rfl, hS, hm, _, _, rfl, rfl, m0, _, rfl, rfl, u1, Int.lt_trans u2 m1⟩⟩
      rintro σ H3 ⟨two, rfl, rfl, q1, q2⟩
      -- three
      refine ⟨fun σ H' => ∃ three : Int, σ = [some (.int c), some (.int a), some (.ref l), some (.int one), some (.int two), some (.int three)] ∧ H' = H3 ∧ 0 ≤ three, ?_, ?_⟩
      · have e1 := Int.emod_nonneg one (show (1009 : Int) ≠ 0 by decide)
        have e2 := Int.emod_lt_of_pos one (show (0 : Int) < 1009 by decide)
        obtain ⟨m, hm, m0, m1⟩ := prime_at (Int.emod_nonneg (a + 7) (show (13 : Int) ≠ 0 by decide)) (Int.emod_lt_of_pos (a + 7) (show (0 : Int) < 13 by decide))
        have u1 := Int.emod_nonneg ((two + one % 1009 + a) ^ (3 : Int).toNat) (show m ≠ 0 by omega)
        refine ⟨_, rfl, _, rfl, .inl ⟨_, rfl, _, _, rfl, rfl, (by show (0 : Int) < 1009; decide), _, _, rfl, rfl, _, rfl, _, _, rfl, rfl, _, _, rfl, rfl, ⟨by decide, by decide, (by omega)⟩, .inl ⟨_, rfl, ?_⟩⟩⟩
        exact ⟨_, rfl, _, rfl, _, _, rfl, rfl, .inl ⟨_, rfl, _, _, rfl, rfl, (by show (0 : Int) < 13; decide), l, _, _, _, rfl, rfl, hS, hm, _, _, rfl, rfl, m0, _, rfl, rfl, u1⟩⟩
      rintro σ H3 ⟨three, rfl, rfl, r1⟩
      exact ⟨_, rfl, _, _, rfl, rfl, .inr ⟨by decide, by decide⟩, _, rfl, _, _, rfl, rfl, _, _, rfl, rfl, .inr ⟨by decide, by decide⟩, _, rfl, _, _, rfl, rfl, q H3 _ s3 (by omega)⟩
theorem ok_open (T : PenTxt K mg f1 f2 f3 f4 d1 d2 d3 d4) {k : Nat} : FnOk P w K mg base CX0 (k + 1) f2 d2 ["script"] (spOpen K) := by
  have F := T.FOpen
  refine F.ok scOpen (fun vs H Q E h => ?_) (fun cdv A outer s H vs Q E hr h => ?_)
  · obtain ⟨c, a, rfl, _⟩ := h
    rfl
  · obtain ⟨a, ns, rfl, hS, hl, q⟩ := h
    refine ⟨_, (Evl.pss_cut (ps_set (i := 1) scOpen.nd rfl (.inl rfl) (pe_callTy call_list_of (by rfl) T.list (by decide +kernel) (pa_cons (pe_slice sl_list (pv 0) po_none (po_some pe_int)) pa_nil)))
 (pss_cons (ps_for PassesOwn.never rfl (pi_enum (by rfl) T.enumerate (pa_cons (pe_slice sl_list (pv 0) (po_some pe_int) (po_some pe_int)) pa_nil)) (pg_tup rfl (pgs_cons (pg_name (i := 2) scOpen.nd rfl (.inl rfl)) (pgs_cons (pg_name (i := 3) scOpen.nd rfl (.inl rfl)) pgs_nil)))
 (pss_one (ps_asg (pe_op op_add (pe_ix ix_list (pv 1) (pe_op op_mod (pe_callTy call_int1 (by rfl) T.int (by decide +kernel) (pa_cons (pv 2) pa_nil)) pe_int) (fun _ _ => rfl)) (pv 3)) (pg_sub (pv 1) (pe_op op_mod (pe_callTy call_int1 (by rfl) T.int (by decide +kernel) (pa_cons (pv 2) pa_nil)) pe_int) set_list))))
 (pss_one (ps_ret (pe_lst (pa_cons (pv 1) (pa_cons pe_int (pa_cons pe_int pa_nil)))))))), ?_⟩
    -- cells
    refine ⟨fun σ H' => ∃ (c : Addr) (cs : List Int), σ = [some (.ref a), some (.ref c), none, none] ∧ Same H H' ∧ H c = none ∧ H' c = some (.lst (cs.map V.int)) ∧ cs.length = min 12 ns.length, ?_, ?_⟩
    · refine ⟨.ref a, rfl, 12, rfl, a, ns.map V.int, rfl, hS, fun c nc => ⟨c, _, rfl, .inl (SqL.of upd_same), fun l hl => ⟨l, (ns.drop (HT.sIx ns.length 0 none)).take (HT.sIx ns.length ns.length (some 12) - HT.sIx ns.length 0 none), rfl, (same_upd nc).trans (same_upd hl), (same_upd nc).free hl, ?_, ?_⟩⟩⟩
      · rw [upd_same, cut_ints]
      · rw [cut_len]
        rw [HT.sIx_none, show HT.sIx ns.length ns.length (some 12) = min 12 ns.length from HT.sIx_nat ns.length ns.length 12]
        omega
    rintro σ H1 ⟨c, cs, rfl, s1, nc, hC, lC⟩
    have hS1 : SqL K H1 a (ns.map V.int) := s1.seq hS
    refine ⟨.ref a, rfl, 12, rfl, 63, rfl, a, ns.map V.int, rfl, hS1, fun d nd => ⟨d, _, rfl, SqL.of upd_same, ?_⟩⟩
    have s2 : Same H1 (upd H1 d (.lst (cutV (ns.map V.int) (some 12) (some 63)))) := same_upd nd
    rw [cut_ints] at s2 ⊢
    have l2 := cut_len ns (some 12) (some 63)
    rw [show HT.sIx ns.length 0 (some 12) = min 12 ns.length from HT.sIx_nat ns.length 0 12] at l2 s2 ⊢
    have hd : (upd H1 d (.lst ((List.take (HT.sIx ns.length ns.length (some 63) - min 12 ns.length) (List.drop (min 12 ns.length) ns)).map V.int))) d = some (.lst ((List.take (HT.sIx ns.length ns.length (some 63) - min 12 ns.length) (List.drop (min 12 ns.length) ns)).map V.int)) := upd_same
    generalize (List.take (HT.sIx ns.length ns.length (some 63) - min 12 ns.length) (List.drop (min 12 ns.length) ns)) = ds at s2 l2 hd ⊢
    have ncd : c ≠ d := ne_of_none hC nd
    refine for_it (walk_enum (K := K) (a := d) (xs := ds.map V.int)) (fun i σ H' => ∃ (v2 v3 : Option V) (cs : List Int), σ = [some (.ref a), some (.ref c), v2, v3] ∧ Same H H' ∧ H' c = some (.lst (cs.map V.int)) ∧ cs.length = min 12 ns.length ∧ H' d = some (.lst (ds.map V.int)))
      ⟨none, none, cs, rfl, s1.trans s2, s2 _ _ hC, lC, hd⟩ ?_ ?_ ?_
    · rintro i σ H' _ ⟨_, _, _, _, _, _, _, h⟩
      exact SqL.of h
    · rintro i x σ H' H'' hi ⟨v2, v3, cs, rfl, s3, hC, lC, hD⟩ ⟨T, x1, y, rfl, nT, rfl, ex, ey⟩
      obtain rfl : V.int (i : Nat) = x1 := Option.some.inj ex
      obtain ⟨hi2, z, rfl⟩ := int_of ey
      have c12 : cs.length = 12 := by omega
      have sT : Same H' (upd H' T (.tup [.int (i : Nat), .int z])) := same_upd nT
      have hC' := sT _ _ hC
      have m0 := Int.emod_nonneg ((i : Nat) : Int) (show (12 : Int) ≠ 0 by decide)
      have m1 := Int.emod_lt_of_pos ((i : Nat) : Int) (show (0 : Int) < 12 by decide)
      obtain ⟨u, hu⟩ := atI_int (cs := cs) m0 (by omega)
      refine ⟨T, _, rfl, SqT.of upd_same, rfl, _, _, rfl, _, _, rfl, rfl, ?_⟩
      refine ⟨_, rfl, _, rfl, .inl ⟨_, rfl, _, _, rfl, rfl, (by show (0 : Int) < 12; decide), c, _, _, _, rfl, rfl, SqL.of hC', hu, _, rfl, _, _, rfl, rfl, _, rfl, _, rfl, .inl ⟨_, rfl, _, _, rfl, rfl, (by show (0 : Int) < 12; decide), c, _, _, _, rfl, rfl, hC', ixN_of m0 (by rw [List.length_map]; omega), ?_⟩⟩⟩
      refine ⟨_, _, cs.set ((i : Int) % 12).toNat (u + z), rfl, fun b o e => ?_, ?_, by rw [List.length_set]; exact lC, ?_⟩
      · have nb : b ≠ c := fun q => by
          rw [q, nc] at e
          cases e
        rw [upd_ne nb]
        exact sT _ _ (s3 _ _ e)
      · rw [upd_same, List.map_set]
      · rw [upd_ne ncd.symm]
        exact sT _ _ hD
    · rintro σ H' ⟨v2, v3, cs, rfl, s3, hC, lC, hD⟩
      refine ⟨_, rfl, (by show 3 ≤ sizeLine; decide), fun p hp => q _ p (s3.trans (same_upd hp)) (s3.free hp) ⟨c, cs, 0, 0, upd_same, ?_, ne_of_none hC hp, by omega, by decide, by decide, by decide⟩⟩
      exact same_upd hp _ _ hC
theorem ok_take (T : PenTxt K mg f1 f2 f3 f4 d1 d2 d3 d4) {k : Nat} : FnOk P w K mg base CX0 (k + 2) f3 d3 ["pen", "many"] spTake := by
  have F := T.FTake
  have GS : FnOk P w K mg base CX0 (k + 1) f1 d1 ["cell", "at"] spSpread := ok_spread T
  refine F.ok scTake (fun vs H Q E h => ?_) (fun cdv A outer s H vs Q E hr h => ?_)
  · obtain ⟨c, a, n, rfl, _⟩ := h
    rfl
  · obtain ⟨p, many, n, rfl, hP, hn, m0, m1, q⟩ := h
    refine ⟨_, (Evl.pss_cut (ps_if (pt_cmpR op_lt (pe_ix ix_list (pv 0) pe_int (fun _ _ => rfl)) (pv 1) (nomark _)) (pss_cons (ps_set (i := 2) scTake.nd rfl (.inl rfl) (pe_ix ix_list (pv 0) pe_int (fun _ _ => rfl)))
 (pss_cons (ps_set (i := 3) scTake.nd rfl (.inl rfl) pe_int)
 (Evl.pss_cut (ps_if (pt_cmpR op_lt (pv 2) (pe_callB call_len_seq (by rfl) T.len PySem.boot_len (pa_cons (pe_ix ix_list (pv 0) pe_int (fun _ _ => rfl)) pa_nil)) (nomark _)) (pss_one (ps_set (i := 3) scTake.nd rfl (.inl rfl) (pe_ix ix_list (pe_ix ix_list (pv 0) pe_int (fun _ _ => rfl)) (pv 2) (fun _ _ => rfl)))) (pss_one (ps_if (pt_cmpR op_gt (pe_callB call_len_seq (by rfl) T.len PySem.boot_len (pa_cons (pe_ix ix_list (pv 0) pe_int (fun _ _ => rfl)) pa_nil)) pe_int (nomark _)) (pss_one (ps_set (i := 3) scTake.nd rfl (.inl rfl) (pe_op op_mod (pe_callTy call_int1 (by rfl) T.int (by decide +kernel) (pa_cons (pe_ix ix_list (pe_ix ix_list (pv 0) pe_int (fun _ _ => rfl)) (pe_op op_mod (pe_callTy call_int1 (by rfl) T.int (by decide +kernel) (pa_cons (pe_op op_add (pe_op op_mul (pv 2) pe_int) pe_int) pa_nil)) (pe_callB call_len_seq (by rfl) T.len PySem.boot_len (pa_cons (pe_ix ix_list (pv 0) pe_int (fun _ _ => rfl)) pa_nil))) (fun _ _ => rfl)) pa_nil)) (pe_op op_add (pe_op op_pow pe_int pe_int) (pv 2))))) pss_nil)))
 (pss_cons (ps_asg (pe_op op_add (pv 2) pe_int) (pg_sub (pv 0) pe_int set_list))
 (pss_one (ps_asg (pe_call GS hr (by rfl) T.gSpread T.FSpread.kp T.bSpread .nil pass0 (pa_cons (pv 3) (pa_cons (pv 2) pa_nil))) (pg_sub (pv 0) pe_int set_list))))))) pss_nil)
 (pss_cons (ps_set (i := 4) scTake.nd rfl (.inl rfl) (pe_op op_mod (pe_callTy call_int1 (by rfl) T.int (by decide +kernel) (pa_cons (pe_ix ix_list (pv 0) pe_int (fun _ _ => rfl)) pa_nil)) (pv 1)))
 (pss_cons (ps_asg (pe_op op_fdivW (pe_ix ix_list (pv 0) pe_int (fun _ _ => rfl)) (pv 1)) (pg_sub (pv 0) pe_int set_list))
 (pss_one (ps_ret (pv 4)))))), ?_⟩
    obtain ⟨c, cs, a, r, hp, hc, ncp, lc, a0, a1, r0⟩ := hP.ex
    refine ⟨fun σ H' => ∃ v2 v3, σ = [some (.ref p), some (.int many), v2, v3, none] ∧ But p H H' ∧ Pen H' p (n + 1), ?_, ?_⟩
    · refine ⟨_, rfl, p, _, 2, .int r, rfl, rfl, SqL.of hp, atI_nat (j := 2) rfl, _, rfl, _, _, rfl, rfl, _, rfl, ite2 (fun _ => ?_) (fun _ => ?_)⟩
      · refine ⟨_, rfl, p, _, 1, .int a, rfl, rfl, SqL.of hp, atI_nat (j := 1) rfl, ?_⟩
        refine ⟨fun σ H' => ∃ z : Int, σ = [some (.ref p), some (.int many), some (.int a), some (.int z), none] ∧ H' = H, ?_, ?_⟩
        · refine ⟨_, rfl, _, rfl, p, _, 0, .ref c, rfl, rfl, SqL.of hp, atI_nat (j := 0) rfl, c, _, rfl, .inl (SqL.of hc), _, _, rfl, rfl, _, rfl, ite2 (fun e => ?_) (fun e => ?_)⟩
          · have e' := of_decide_eq_true e
            rw [List.length_map] at e'
            obtain ⟨z, hz⟩ := atI_int (cs := cs) a0 e'
            exact ⟨_, rfl, p, _, 0, .ref c, rfl, rfl, SqL.of hp, atI_nat (j := 0) rfl, _, rfl, c, _, _, _, rfl, rfl, SqL.of hc, hz, z, rfl, rfl⟩
          · refine ⟨_, rfl, p, _, 0, .ref c, rfl, rfl, SqL.of hp, atI_nat (j := 0) rfl, c, _, rfl, .inl (SqL.of hc), _, _, rfl, rfl, _, rfl, ite2 (fun e => ?_) (fun e => ?_)⟩
            · have e' := of_decide_eq_true e
              rw [List.length_map] at e'
              have k0 := Int.emod_nonneg (a * 5 + 3) (show (cs.length : Int) ≠ 0 by omega)
              have k1 := Int.emod_lt_of_pos (a * 5 + 3) e'
              obtain ⟨z, hz⟩ := atI_int (cs := cs) k0 k1
              have el : (List.map V.int cs).length = cs.length := List.length_map ..
              refine ⟨_, rfl, p, _, 0, .ref c, rfl, rfl, SqL.of hp, atI_nat (j := 0) rfl, _, rfl, _, _, rfl, rfl, .inr ⟨by decide, by decide⟩, _, _, rfl, rfl, .inl ⟨_, rfl, _, rfl, p, _, 0, .ref c, rfl, rfl, SqL.of hp, atI_nat (j := 0) rfl, c, _, rfl, .inl (SqL.of hc), _, _, rfl, rfl, (by rw [el]; exact e'), c, _, _, _, rfl, rfl, SqL.of hc, (by rw [el]; exact hz), .inl ⟨_, rfl, _, _, rfl, rfl, ⟨by decide, by decide, by decide⟩, _, rfl, _, _, rfl, rfl, _, _, rfl, rfl, ?_, _, rfl, rfl⟩⟩⟩
              have : (10 : Int) ^ (17 : Int).toNat = 100000000000000000 := by decide
              show 0 < (10 : Int) ^ (17 : Int).toNat + a
              omega
            · exact ⟨0, rfl, rfl⟩
        rintro σ H ⟨z, rfl, rfl⟩
        refine ⟨_, rfl, _, _, rfl, rfl, _, rfl, p, _, 1, 1, rfl, rfl, hp, rfl, ?_⟩
        refine ⟨_, rfl, _, rfl, z, a, rfl, a0, by omega, fun H2 r2 s2 r20 => ?_⟩
        have hp2 := s2 _ _ upd_same
        refine ⟨_, rfl, p, _, 2, 2, rfl, rfl, hp2, rfl, _, _, rfl, ?_, ⟨c, cs, a + 1, r2, upd_same, ?_, ncp, lc, by omega, by omega, r20⟩⟩
        · exact (but_upd.trans (But.of s2)).trans but_upd
        · rw [upd_ne ncp]
          exact s2 _ _ (by rw [upd_ne ncp]; exact hc)
      · exact ⟨_, _, rfl, fun _ _ _ e => e, hP.mono (Nat.le_succ n)⟩
    rintro σ H1 ⟨v2, v3, rfl, b1, hP1⟩
    obtain ⟨c, cs, a, r, hp, hc, ncp, lc, a0, a1, r0⟩ := hP1.ex
    refine ⟨_, rfl, p, _, 2, .int r, rfl, rfl, SqL.of hp, atI_nat (j := 2) rfl, .inl ⟨_, rfl, _, rfl, _, _, rfl, rfl, m0, ?_⟩⟩
    refine ⟨_, rfl, p, _, 2, .int r, rfl, rfl, SqL.of hp, atI_nat (j := 2) rfl, _, rfl, _, _, rfl, rfl, ⟨m0, m1⟩, _, rfl, p, _, 2, 2, rfl, rfl, hp, rfl, ?_⟩
    refine ⟨_, rfl, q _ _ (b1.trans but_upd) ⟨c, cs, a, r / many, upd_same, ?_, ncp, lc, a0, a1, Int.ediv_nonneg r0 (Int.le_of_lt m0)⟩ (Int.emod_nonneg _ (by omega)) (Int.emod_lt_of_pos _ m0)⟩
    rw [upd_ne ncp]
    exact hc
theorem ok_pick (T : PenTxt K mg f1 f2 f3 f4 d1 d2 d3 d4) {k : Nat} : FnOk P w K mg base CX0 (k + 3) f4 d4 ["pen", "some"] (spPick K) := by
  have F := T.FPick
  have GT : FnOk P w K mg base CX0 (k + 2) f3 d3 ["pen", "many"] spTake := ok_take T
  refine F.ok scPick (fun vs H Q E h => ?_) (fun cdv A outer s H vs Q E hr h => ?_)
  · obtain ⟨c, a, xs, n, rfl, _⟩ := h
    rfl
  · obtain ⟨p, l, xs, n, rfl, hP, hn, hS, nlp, l0, l1, q⟩ := h
    refine ⟨_, (pss_one (ps_ret (pe_ix ix_list (pv 1) (pe_call GT hr (by rfl) T.gTake T.FTake.kp T.bTake .nil pass0 (pa_cons (pv 0) (pa_cons (pe_callB call_len_seq (by rfl) T.len PySem.boot_len (pa_cons (pv 1) pa_nil)) pa_nil))) (fun _ _ => rfl)))), ?_⟩
    refine ⟨_, rfl, _, rfl, _, rfl, l, xs, rfl, .inl hS, p, _, n, rfl, hP, hn, by omega, ?_, fun H1 k b1 hP1 k0 k1 => ?_⟩
    · have h2 : ((xs.length : Int)).natAbs ≤ 1000 := by omega
      have h3 : ((xs.length : Int)).natAbs.log2 ≤ ((xs.length : Int)).natAbs := Nat.log2_le_self _
      omega
    · have hk : k.toNat < xs.length := by omega
      have e : xs[k.toNat]? = some xs[k.toNat] := List.getElem?_eq_getElem hk
      have hS1 : SqL K H1 l xs := by
        rcases hS with (h | ⟨o, h⟩) | h
        · exact .inl (.inl (b1 _ _ nlp h))
        · exact .inl (.inr ⟨o, b1 _ _ nlp h⟩)
        · exact .inr h
      exact ⟨l, xs, k, _, rfl, rfl, hS1, at_of (by omega) e, q H1 k.toNat _ b1 hP1 e⟩
end
end My
/-! ### the pen with its cells at c -/
namespace My
open PySem PySem.Spec PyProof.Rows L2
structure PenC (H : Hp) (p c : Addr) (n : Nat) : Prop where
  ex : ∃ (cs : List Int) (a r : Int), H p = some (.lst [.ref c, .int a, .int r]) ∧ H c = some (.lst (cs.map V.int)) ∧ c ≠ p ∧ cs.length ≤ 12 ∧ 0 ≤ a ∧ a ≤ (n : Int) ∧ 0 ≤ r
theorem PenC.pen {H : Hp} {p c : Addr} {n : Nat} (h : PenC H p c n) : Pen H p n := by
  obtain ⟨cs, a, r, h1⟩ := h.ex
  exact ⟨c, cs, a, r, h1⟩
theorem Pen.at {H : Hp} {p : Addr} {n : Nat} (h : Pen H p n) : ∃ c, PenC H p c n := by
  obtain ⟨c, cs, a, r, h1⟩ := h.ex
  exact ⟨c, cs, a, r, h1⟩
theorem PenC.mono {H : Hp} {p c : Addr} {n m : Nat} (h : PenC H p c n) (l : n ≤ m) : PenC H p c m := by
  obtain ⟨cs, a, r, h1, h2, h3, h4, h5, h6, h7⟩ := h.ex
  exact ⟨cs, a, r, h1, h2, h3, h4, h5, by omega, h7⟩
theorem PenC.keep {H H' : Hp} {p c : Addr} {n : Nat} (h : PenC H p c n) (hp : ∀ o, H p = some o → H' p = some o) (hc : ∀ o, H c = some o → H' c = some o) : PenC H' p c n := by
  obtain ⟨cs, a, r, h1, h2, h3⟩ := h.ex
  exact ⟨cs, a, r, hp _ h1, hc _ h2, h3⟩
def spTakeC : Sp := fun vs H Q _ => ∃ (p c : Addr) (many : Int) (n : Nat), vs = [.ref p, .int many] ∧ PenC H p c n ∧ n < 1048000 ∧ 0 < many ∧ many.natAbs.log2 < 9000 ∧ ∀ H' k, But p H H' → PenC H' p c (n + 1) → 0 ≤ k → k < many → Q (.int k) H'
section
variable {P : Program} {w : World} {K : PySem.W.Frag} {mg : Str → Option Value} {base : Heap} {f1 f2 f3 f4 : Addr} {d1 d2 d3 d4 : FuncData}
theorem ok_takeC (T : PenTxt K mg f1 f2 f3 f4 d1 d2 d3 d4) {k : Nat} : FnOk P w K mg base CX0 (k + 2) f3 d3 ["pen", "many"] spTakeC := by
  have F := T.FTake
  have GS : FnOk P w K mg base CX0 (k + 1) f1 d1 ["cell", "at"] spSpread := ok_spread T
  refine F.ok scTake (fun vs H Q E h => ?_) (fun cdv A outer s H vs Q E hr h => ?_)
  · obtain ⟨p, c, many, n, rfl, _⟩ := h
    rfl
  · obtain ⟨p, c, many, n, rfl, hP, hn, m0, m1, q⟩ := h
    refine ⟨_, (Evl.pss_cut (ps_if (pt_cmpR op_lt (pe_ix ix_list (pv 0) pe_int (fun _ _ => rfl)) (pv 1) (nomark _)) (pss_cons (ps_set (i := 2) scTake.nd rfl (.inl rfl) (pe_ix ix_list (pv 0) pe_int (fun _ _ => rfl)))
 (pss_cons (ps_set (i := 3) scTake.nd rfl (.inl rfl) pe_int)
 (Evl.pss_cut (ps_if (pt_cmpR op_lt (pv 2) (pe_callB call_len_seq (by rfl) T.len PySem.boot_len (pa_cons (pe_ix ix_list (pv 0) pe_int (fun _ _ => rfl)) pa_nil)) (nomark _)) (pss_one (ps_set (i := 3) scTake.nd rfl (.inl rfl) (pe_ix ix_list (pe_ix ix_list (pv 0) pe_int (fun _ _ => rfl)) (pv 2) (fun _ _ => rfl)))) (pss_one (ps_if (pt_cmpR op_gt (pe_callB call_len_seq (by rfl) T.len PySem.boot_len (pa_cons (pe_ix ix_list (pv 0) pe_int (fun _ _ => rfl)) pa_nil)) pe_int (nomark _)) (pss_one (ps_set (i := 3) scTake.nd rfl (.inl rfl) (pe_op op_mod (pe_callTy call_int1 (by rfl) T.int (by decide +kernel) (pa_cons (pe_ix ix_list (pe_ix ix_list (pv 0) pe_int (fun _ _ => rfl)) (pe_op op_mod (pe_callTy call_int1 (by rfl) T.int (by decide +kernel) (pa_cons (pe_op op_add (pe_op op_mul (pv 2) pe_int) pe_int) pa_nil)) (pe_callB call_len_seq (by rfl) T.len PySem.boot_len (pa_cons (pe_ix ix_list (pv 0) pe_int (fun _ _ => rfl)) pa_nil))) (fun _ _ => rfl)) pa_nil)) (pe_op op_add (pe_op op_pow pe_int pe_int) (pv 2))))) pss_nil)))
 (pss_cons (ps_asg (pe_op op_add (pv 2) pe_int) (pg_sub (pv 0) pe_int set_list))
 (pss_one (ps_asg (pe_call GS hr (by rfl) T.gSpread T.FSpread.kp T.bSpread .nil pass0 (pa_cons (pv 3) (pa_cons (pv 2) pa_nil))) (pg_sub (pv 0) pe_int set_list))))))) pss_nil)
 (pss_cons (ps_set (i := 4) scTake.nd rfl (.inl rfl) (pe_op op_mod (pe_callTy call_int1 (by rfl) T.int (by decide +kernel) (pa_cons (pe_ix ix_list (pv 0) pe_int (fun _ _ => rfl)) pa_nil)) (pv 1)))
 (pss_cons (ps_asg (pe_op op_fdivW (pe_ix ix_list (pv 0) pe_int (fun _ _ => rfl)) (pv 1)) (pg_sub (pv 0) pe_int set_list))
 (pss_one (ps_ret (pv 4)))))), ?_⟩
    obtain ⟨cs, a, r, hp, hc, ncp, lc, a0, a1, r0⟩ := hP.ex
    refine ⟨fun σ H' => ∃ v2 v3, σ = [some (.ref p), some (.int many), v2, v3, none] ∧ But p H H' ∧ PenC H' p c (n + 1), ?_, ?_⟩
    · refine ⟨_, rfl, p, _, 2, .int r, rfl, rfl, SqL.of hp, atI_nat (j := 2) rfl, _, rfl, _, _, rfl, rfl, _, rfl, ite2 (fun _ => ?_) (fun _ => ?_)⟩
      · refine ⟨_, rfl, p, _, 1, .int a, rfl, rfl, SqL.of hp, atI_nat (j := 1) rfl, ?_⟩
        refine ⟨fun σ H' => ∃ z : Int, σ = [some (.ref p), some (.int many), some (.int a), some (.int z), none] ∧ H' = H, ?_, ?_⟩
        · refine ⟨_, rfl, _, rfl, p, _, 0, .ref c, rfl, rfl, SqL.of hp, atI_nat (j := 0) rfl, c, _, rfl, .inl (SqL.of hc), _, _, rfl, rfl, _, rfl, ite2 (fun e => ?_) (fun e => ?_)⟩
          · have e' := of_decide_eq_true e
            rw [List.length_map] at e'
            obtain ⟨z, hz⟩ := atI_int (cs := cs) a0 e'
            exact ⟨_, rfl, p, _, 0, .ref c, rfl, rfl, SqL.of hp, atI_nat (j := 0) rfl, _, rfl, c, _, _, _, rfl, rfl, SqL.of hc, hz, z, rfl, rfl⟩
          · refine ⟨_, rfl, p, _, 0, .ref c, rfl, rfl, SqL.of hp, atI_nat (j := 0) rfl, c, _, rfl, .inl (SqL.of hc), _, _, rfl, rfl, _, rfl, ite2 (fun e => ?_) (fun e => ?_)⟩
            · have e' := of_decide_eq_true e
              rw [List.length_map] at e'
              have k0 := Int.emod_nonneg (a * 5 + 3) (show (cs.length : Int) ≠ 0 by omega)
              have k1 := Int.emod_lt_of_pos (a * 5 + 3) e'
              obtain ⟨z, hz⟩ := atI_int (cs := cs) k0 k1
              have el : (List.map V.int cs).length = cs.length := List.length_map ..
              refine ⟨_, rfl, p, _, 0, .ref c, rfl, rfl, SqL.of hp, atI_nat (j := 0) rfl, _, rfl, _, _, rfl, rfl, .inr ⟨by decide, by decide⟩, _, _, rfl, rfl, .inl ⟨_, rfl, _, rfl, p, _, 0, .ref c, rfl, rfl, SqL.of hp, atI_nat (j := 0) rfl, c, _, rfl, .inl (SqL.of hc), _, _, rfl, rfl, (by rw [el]; exact e'), c, _, _, _, rfl, rfl, SqL.of hc, (by rw [el]; exact hz), .inl ⟨_, rfl, _, _, rfl, rfl, ⟨by decide, by decide, by decide⟩, _, rfl, _, _, rfl, rfl, _, _, rfl, rfl, ?_, _, rfl, rfl⟩⟩⟩
              have : (10 : Int) ^ (17 : Int).toNat = 100000000000000000 := by decide
              show 0 < (10 : Int) ^ (17 : Int).toNat + a
              omega
            · exact ⟨0, rfl, rfl⟩
        rintro σ H ⟨z, rfl, rfl⟩
        refine ⟨_, rfl, _, _, rfl, rfl, _, rfl, p, _, 1, 1, rfl, rfl, hp, rfl, ?_⟩
        refine ⟨_, rfl, _, rfl, z, a, rfl, a0, by omega, fun H2 r2 s2 r20 => ?_⟩
        have hp2 := s2 _ _ upd_same
        refine ⟨_, rfl, p, _, 2, 2, rfl, rfl, hp2, rfl, _, _, rfl, ?_, ⟨cs, a + 1, r2, upd_same, ?_, ncp, lc, by omega, by omega, r20⟩⟩
        · exact (but_upd.trans (But.of s2)).trans but_upd
        · rw [upd_ne ncp]
          exact s2 _ _ (by rw [upd_ne ncp]; exact hc)
      · exact ⟨_, _, rfl, fun _ _ _ e => e, hP.mono (Nat.le_succ n)⟩
    rintro σ H1 ⟨v2, v3, rfl, b1, hP1⟩
    obtain ⟨cs, a, r, hp, hc, ncp, lc, a0, a1, r0⟩ := hP1.ex
    refine ⟨_, rfl, p, _, 2, .int r, rfl, rfl, SqL.of hp, atI_nat (j := 2) rfl, .inl ⟨_, rfl, _, rfl, _, _, rfl, rfl, m0, ?_⟩⟩
    refine ⟨_, rfl, p, _, 2, .int r, rfl, rfl, SqL.of hp, atI_nat (j := 2) rfl, _, rfl, _, _, rfl, rfl, ⟨m0, m1⟩, _, rfl, p, _, 2, 2, rfl, rfl, hp, rfl, ?_⟩
    refine ⟨_, rfl, q _ _ (b1.trans but_upd) ⟨cs, a, r / many, upd_same, ?_, ncp, lc, a0, a1, Int.ediv_nonneg r0 (Int.le_of_lt m0)⟩ (Int.emod_nonneg _ (by omega)) (Int.emod_lt_of_pos _ m0)⟩
    rw [upd_ne ncp]
    exact hc
end
end My
/-! ### promises of defs that show data: they are called where nothing is being shown -/
namespace My
open PySem PySem.Spec PyProof.Rows L2
/-- a def's promise, at the surroundings A alone -/
def RunAt (P : Program) (w : World) (K : PySem.W.Frag) (mg : Str → Option Value) (base : Heap) (CX : CXT) (f : Addr) (fd : FuncData) (ps : List Str) (sp : Sp) (A : Around) : Prop :=
  ∀ (out : List Env) (st : Shared) (G : Hp) (ar : Args) (uu : List Value) (vv : List V) (R : VK) (W : XK), Env0 P w K mg base A out st G →
    BindsTo st fd ar (ps.zip uu) → Vals vv uu → sp vv G R W → codeAny (model P w) A (.call (.ref f) ar) (CR CX out P w G st R W) st
/-- .. wherever nothing is being shown -/
structure FnG (P : Program) (w : World) (K : PySem.W.Frag) (mg : Str → Option Value) (base : Heap) (CX : CXT) (k : Nat) (f : Addr) (fd : FuncData) (ps : List Str) (sp : Sp) : Prop where
  len : ∀ vs H Q E, sp vs H Q E → vs.length = ps.length
  run : ∀ A : Around, A.guards = some [] → Room k A → RunAt P w K mg base CX f fd ps sp A
section
variable {P : Program} {w : World} {K : PySem.W.Frag} {mg : Str → Option Value} {base : Heap} {CX : CXT}
theorem FnG.of {k : Nat} {f : Addr} {fd : FuncData} {ps : List Str} {sp : Sp} (F : FnOk P w K mg base CX k f fd ps sp) : FnG P w K mg base CX k f fd ps sp :=
  ⟨F.len, fun A _ hr out st G ar uu vv R W e0 hb r h => F.run A out st G ar uu vv R W hr e0 hb r h⟩
theorem Fun.okG {x qual : Str} {st : Stmt} {f : Addr} {fd : FuncData} {N ps : List Str} {k : Nat} {sp : Sp} (F : Fun K x qual st f fd) (S : FnScope N ps (defScope st))
    (len : ∀ vs H Q E, sp vs H Q E → vs.length = ps.length)
    (hbody : ∀ (cdv : Value) (A : Around) (outer : List Env) (s : Shared) (H : Hp) (vs : List V) (Q : VK) (E : XK), A.guards = some [] → Room k (A.deeper (envOfC qual (defScope st) s.heap.objs.size f cdv)) → sp vs H Q E →
      ∃ t, PSs (cxOf CX P w K mg base N qual (defScope st) f cdv A outer s H E) (defBody st) t ∧ t { nx := fun _ H' => Q .non H', rt := Q } (start N vs) H) :
    FnG P w K mg base CX (k + 1) f fd ps sp := by
  obtain ⟨oc, od, kV, doc, pm, an, cdv, ct, osl, hfd, lk, hcode⟩ := F.ex
  subst hfd
  refine ⟨len, fun A hgd room out st' G ar uu vv R W e0 hb rv hs => ?_⟩
  have hlen := len _ _ _ _ hs
  have kin := e0.mod.kin.keeps fun b o e => (e0.bs b o e).1
  have nolim := e0.mod.nolimit.keeps fun b o e => (e0.bs b o e).1
  refine codeAny_call_function room.depth (kin _ _ lk) rfl S.co S.gen rfl (PySem.W.codeRec_of kin hcode) (hb _ _ _ _ ?_)
  refine wpAny_newFunctionEnv_cells S.kind (fun ⟨n, v⟩ hmem => ?kinds) fun env' heq s2 x2 => ?_
  case kinds =>
    cases S.par n (List.of_mem_zip hmem).1 with
    | inl q => exact .inl q
    | inr q => exact .inr ⟨q, PySem.W.cellsFrom_some _ _ _ (.inl q)⟩
  subst heq
  refine ⟨nolim.keeps x2.toInCall.keep, codeAny_func ?_⟩
  obtain ⟨t, der, reading⟩ := hbody cdv A out st' G vv R W hgd (room.deeper _) hs
  refine wpAny_mono (der.run [] s2 (start N vv) G _ (inv_start S room.hd e0 hlen rv x2) reading) (fun fl s3 end3 => ?_) fun _ _ end3 => end3
  cases fl with
  | next =>
    obtain ⟨_, G', J, q⟩ := end3
    exact ⟨V.non, G', J.os, J.bare, J.base, J.hok, rfl, q⟩
  | ret u =>
    obtain ⟨v, _, G', J, rv', q⟩ := end3
    exact ⟨v, G', J.os, J.bare, J.base, J.hok, rv', q⟩
  | brk => exact (let ⟨_, _, _, q⟩ := end3; False.elim q)
  | cont => exact (let ⟨_, _, _, q⟩ := end3; False.elim q)
end
section
variable {X : Cx} {k : Nat} {f : Addr} {fd : FuncData} {ps : List Str} {sp : Sp} {E : XK} {x : Str} {p pos : Pos} {e : Expr} {es : List Expr} {t : TA} {CX : CXT} {dvs : List V} {ds : List Value}
/-- a call of a def that shows data -/
theorem pe_callG (F : FnG X.prog X.w X.K X.mg X.base CX k f fd ps sp) (hgd : X.A.guards = some []) (hr : Room k X.A) (hg : Gl X x) (hm : X.mg x = some (.ref f)) (hk : PySem.W.keepIn X.K (.ref f) = true) (hb : Binds X.K fd ps ds) (hd : Vals dvs ds) (hx : Passes CX X E)
    (ha : PA X (e :: es) t) (hdb : (x == ("__debug__" : Str)) = false := by decide)
    (he : starEach (e :: es) X.env = (false, eval e X.env) :: starEach es X.env := by rfl)
    (hpl : (backTo pos (starEach es X.env)).any (·.1) = false := by rfl) : PE X (.Call (.Name x p) (e :: es) [] pos) (tCall sp dvs E t) := by
  constructor
  intro pins s σ H Q I h
  refine wpAny_Call_Name_kw (ld_glob I hg hm ?_ hdb)
  refine PySem.W.callWith_K (h₀ := X.base) I.ok.mod.kin hk (thn (ha.run pos pins s σ H _ I h) fun us s1 hh => ?_) he hpl
  obtain ⟨vs, H1, J, r, q⟩ := hh
  refine ⟨J.kIn, ?_⟩
  have r2 := r.append hd
  have hl : (us ++ ds).length = ps.length := r2.length.symm.trans (F.len _ _ _ _ q)
  refine wpAny_call (codeAny_mono (F.run X.A hgd hr X.stack s1 H1 ⟨us, []⟩ (us ++ ds) (vs ++ dvs) _ _ J.env0 (hb s1 us J.kIn hl) r2 q) fun res s2 hq => ?_)
  match res, hq with
  | .error e', hq => exact hx pins σ H1 s1 e' s2 J hq
  | .ok (.ret u), hq => exact J.after hq
  | .ok .next, hq => exact hq.elim
  | .ok .brk, hq => exact hq.elim
  | .ok .cont, hq => exact hq.elim
/-! ### repr of data -/
mutual
theorem dp_nodict {K : PySem.W.Frag} {H : Hp} : ∀ {v : V} {d : PyData}, Dp K H v d → d.hasDict = false
  | _, _, .non => by simp [PyData.hasDict]
  | _, _, .bl _ => by simp [PyData.hasDict]
  | _, _, .int _ => by simp [PyData.hasDict]
  | _, _, .str _ => by simp [PyData.hasDict]
  | _, _, .lst _ h => by simpa [PyData.hasDict] using dps_nodict h
  | _, _, .tup _ h => by simpa [PyData.hasDict] using dps_nodict h
theorem dps_nodict {K : PySem.W.Frag} {H : Hp} : ∀ {vs : List V} {ds : List PyData}, DpAll K H vs ds → PyData.hasDictAll ds = false
  | _, _, .nil => by simp [PyData.hasDictAll]
  | _, _, .cons h t => by simp [PyData.hasDictAll, dp_nodict h, dps_nodict t]
end
def rRepr (K : PySem.W.Frag) : List V → Hp → VK → Prop := fun xs H Q => ∃ x d, xs = [x] ∧ Dp K H x d ∧ d.showable = true ∧ d.depth ≤ 60 ∧ d.shown.length ≤ sizeLine ∧ Q (.str d.shown) H
theorem call_reprD (hgd : X.A.guards = some []) (hu : X.A.units + 64 < cLine) : CallR X (.builtin "repr") (rRepr X.K) := by
  intro pins s σ H xs us Q I r h
  obtain ⟨x, d, rfl, hd, hs, hdep, hz, q⟩ := h
  cases r with
  | @cons _ u _ _ ru rn =>
    cases rn
    obtain ⟨as, hr⟩ := Dp.reads I d x u hd ru
    have nod := dp_nodict hd
    cases hd with
    | non =>
      obtain rfl : u = Value.none := ru
      exact PySem.P.repr_of_none ⟨.str _, H, I.tok _, ⟨_, rfl⟩, by simpa only [PyData.shown] using q⟩
    | bl b =>
      obtain rfl : u = Value.bool b := ru
      exact PySem.P.repr_of_bool ⟨.str _, H, I.tok _, ⟨_, rfl⟩, by simpa only [PyData.shown] using q⟩
    | int i =>
      obtain ⟨t, rfl⟩ := ru
      exact PySem.P.repr_of_int (by simpa [PyData.showable] using hs) ⟨.str _, H, I.tok _, ⟨_, rfl⟩, by simpa only [PyData.shown] using q⟩
    | str z =>
      obtain ⟨t, rfl⟩ := ru
      exact PySem.P.repr_of_str ⟨.str _, H, I.tok _, ⟨_, rfl⟩, by simpa only [PyData.shown] using q⟩ (by simpa only [PyData.shown] using hz)
    | @lst a _ ds h1 h2 =>
      obtain rfl : u = Value.ref a := ru
      exact PySem.repr_of_reads' hr hs (fun z => absurd (nod.symm.trans z) (by decide)) hgd (by omega) (fun _ _ e => e) (fun h' u tk hk => ⟨.str _, H, I.kept hk, ⟨_, rfl⟩, q⟩) hz
    | @tup a _ ds h1 h2 =>
      obtain rfl : u = Value.ref a := ru
      exact PySem.repr_of_reads' hr hs (fun z => absurd (nod.symm.trans z) (by decide)) hgd (by omega) (fun _ _ e => e) (fun h' u tk hk => ⟨.str _, H, I.kept hk, ⟨_, rfl⟩, q⟩) hz
end
end My
/-! ### the end of a law whose def shows data -/
namespace My
open PySem PySem.Spec PyProof.Rows L2
/-- the law's call at the head, from its promise there: nothing is tracked but the script -/
theorem law_callG {P : Program} {w : World} {K : PySem.W.Frag} {mg mb : Str → Option Value} {CX : CXT} {k : Nat} {fa a : Addr} {fd : FuncData} {x : Str} {sp : Sp} {st : Shared} {vs : List Value} {ns : List Int}
    (KX : K.In st.heap) (hns : st.heap.Ns mainGlobals mg) (hb : st.heap.Ns builtinsNs mb) (hbb : ∀ x : Str, x ≠ "__name__" → mb x = bootBuiltins x)
    (hlim : st.heap.NoLimit) (hg : st.gens = #[]) (ha : st.heap.get? a = some { cls := .type "list", data := .seq vs.toArray }) (hi : IntsAre vs ns) (hl : ns.length ≤ sizeLine) (hr : Room k callerA)
    (F : ∀ base : Heap, K.In base → base.Ns mainGlobals mg → FnG P w K mg base CX k fa fd [x] sp)
    (hbind : ∀ (s : Shared) (u : Value), BindsTo s fd ⟨[u], []⟩ [(x, u)])
    (hsp : ∀ H : Hp, Only H → SqL K H a (ns.map V.int) → sp [.ref a] H (fun v _ => v = .bl true) fun _ _ _ => False)
    (hCX : ∀ H e s', CX [] H st (fun _ _ _ => False) e s' → False) :
    codeAny (model P w) callerA (.call (.ref fa) ⟨[.ref a], []⟩) (fun r s' => r = .ok (.ret (.bool true)) ∧ OldK st.heap s'.heap ∧ s'.os = st.os ∧ AllBare s'.gens) st := by
  have vints := vals_ints hi
  have vlen := hi.length
  have main : ∀ H : Hp, Only H → SqL K H a (ns.map V.int) → HOk P w H st.heap → (∀ b, b ≠ a → H b = none) → (K.lookup a = none ∨ H a = none) →
      codeAny (model P w) callerA (.call (.ref fa) ⟨[.ref a], []⟩) (fun r s' => r = .ok (.ret (.bool true)) ∧ OldK st.heap s'.heap ∧ s'.os = st.os ∧ AllBare s'.gens) st := by
    intro H only scr hok off onK
    have dictFree : ∀ {b : Addr} {m : Str → Option Value}, st.heap.Ns b m → (hidT st.heap H).Ns b m := by
      rintro b m ⟨o, es, ep, e, d, r⟩
      by_cases z : b = a
      · rw [z, ha] at e
        cases e
        cases d
      · exact ⟨o, es, ep, hidT_get e (off b z), d, r⟩
    have kIn : K.In (hidT st.heap H) := by
      intro b o e
      by_cases z : b = a
      · rcases onK with q | q
        · rw [z, q] at e
          cases e
        · exact hidT_get (KX b o e) (by rw [z]; exact q)
      · exact hidT_get (KX b o e) (off b z)
    obtain ⟨mc, lim1, lim2⟩ := hlim
    have md : Mod K mg (hidT st.heap H) := ⟨kIn, dictFree hns, ⟨mb, dictFree hb, hbb⟩, ⟨mc, dictFree lim1, lim2⟩⟩
    have e0 : Env0 P w K mg (hidT st.heap H) callerA [] st H :=
      { frames := rfl, mod := md, bs := fun b o e => of_hidT e, bsz := Nat.le_of_eq (hidT_size _ _), funs := trivial, frf := fun b z => (nomatch z), hok := hok, bare := .of_eq hg }
    have run := (F _ kIn (dictFree hns)).run callerA rfl hr [] st H ⟨[.ref a], []⟩ [.ref a] [.ref a] _ _ e0 (hbind st (.ref a)) (.cons rfl .nil) (hsp H only scr)
    refine codeAny_mono run fun r s' h => ?_
    match r, h with
    | .error e, h => exact (hCX H e s' h).elim
    | .ok .next, h => exact h.elim
    | .ok .brk, h => exact h.elim
    | .ok .cont, h => exact h.elim
    | .ok (.ret u), h =>
      obtain ⟨v, H', os, bare, un, hok', rv, q⟩ := h
      obtain rfl : v = .bl true := q
      obtain rfl : u = Value.bool true := rv
      refine ⟨rfl, OldK.of_keep fun b o e => ?_, os, bare⟩
      cases q : H b with
      | none => exact un.keep b o e q (fun z => nomatch z) (fun z => nomatch z)
      | some u =>
        cases only b with
        | inl z => rw [q] at z; cases z
        | inr z =>
          obtain ⟨ob, xs, z⟩ := z
          have old := (hok b _ z).1
          rw [e] at old
          cases old
          exact (hok' b _ (un.frzs b _ _ z)).1
  cases hk : K.lookup a with
  | some o =>
    have e := KX a o hk
    rw [ha] at e
    cases e
    exact main (fun _ => none) (fun _ => .inl rfl) (.inr ⟨_, vs.toArray, _, hk, rfl, rfl, rfl, by rw [List.size_toArray, vlen]; exact hl, by simpa using vints⟩)
      (fun _ _ z => by cases z) (fun _ _ => rfl) (.inr rfl)
  | none =>
    have off : ∀ b, b ≠ a → (fun b => if b = a then some (HO.frz { cls := .type "list", data := .seq vs.toArray } (.lst (ns.map V.int))) else none) b = none := fun b z => if_neg z
    refine main (fun b => if b = a then some (.frz { cls := .type "list", data := .seq vs.toArray } (.lst (ns.map V.int))) else none) (fun b => ?_) (.inl (.inr ⟨_, if_pos rfl⟩)) (fun b u z => ?_) off (.inl hk)
    · by_cases z : b = a
      · exact .inr ⟨_, _, if_pos z⟩
      · exact .inl (off b z)
    · by_cases q : b = a
      · obtain rfl := Option.some.inj ((if_pos q).symm.trans z)
        rw [q]
        exact ⟨ha, by rw [List.length_map]; exact hl, vs, _, vints, ha⟩
      · rw [off b q] at z
        cases z
/-- what k_head leaves, from the law's promise -/
theorem walk_ofG {l : PySem.W.OpenLaw} {n k : Nat} {q : Program} {loose : List Str} {XP : (Str → Option Value) → Heap → Prop} {YP : World → Heap → Prop} {d : DefRec} {K : Params → PySem.W.Frag} {CX : World → CXT} {sp : World → Sp} {x : Str}
    (hn : l.most = some n) (hn2 : n ≤ sizeLine) (hdf : d.params.defaults = []) (hr : Room k callerA) (hY : ∀ (w : World) (h : Heap), YP w h → (K w.params).In h)
    (F : ∀ (w : World) (mg : Str → Option Value) (fa : Addr) (h : Heap), (K w.params).In h → h.Ns mainGlobals mg → mg d.name = some (.ref fa) → ∃ fd : FuncData, (∀ (s : Shared) (u : Value), BindsTo s fd ⟨[u], []⟩ [(x, u)]) ∧
        ∀ base : Heap, (K w.params).In base → base.Ns mainGlobals mg → FnG l.prog w (K w.params) mg base (CX w) k fa fd [x] (sp w))
    (hsp : ∀ (w : World) (H : Hp) (a : Addr) (ns : List Int), ns.length ≤ n → Only H → SqL (K w.params) H a (ns.map V.int) → sp w [.ref a] H (fun v _ => v = .bl true) fun _ _ _ => False)
    (hCX : ∀ (w : World) (H : Hp) (s : Shared) (e : Value) (s' : Shared), CX w [] H s (fun _ _ _ => False) e s' → False) : PySem.W.WalkO q loose XP YP l.row.toRowW d [] (fun f vs => PySem.call f vs) := by
  refine Att.attach_call hn hdf ?_
  intro w s₀ st mg mb fa o pm cd doc a vs ns G Y ho hd hcd hmg hobj hints hlen hg
  have KX := hY w _ Y
  obtain ⟨fd, hb, hF⟩ := F w mg fa _ KX G.T.g hmg
  exact law_callG KX G.T.g G.T.b G.T.builtins G.T.nolimit hg hobj hints (Nat.le_trans hlen hn2) hr hF hb (hsp w · a ns hlen) fun H => hCX w H st
end My
/-! ### == and != of two built-in classes -/
namespace My
open PySem PySem.Spec PyProof.Rows L2 PySem.TypeEq
theorem ty_ne1 : Slot "type" (cmpInfo .NotEq).2.1 "object.__ne__" := .of (owner := "object") (n := "__ne__")
  (by rw [typeLookup_type, builtinLookup_eq_fast]; kernel_rfl) (by decide +kernel) (by decide +kernel) (by decide +kernel) (by first | exact .inr (by decide +kernel) | exact .inl (by decide +kernel))
  (by rw [isSubtype_type]; kernel_rfl)
theorem ty_ne2 : Slot "type" (cmpInfo .NotEq).2.2 "object.__ne__" := .of (owner := "object") (n := "__ne__")
  (by rw [typeLookup_type, builtinLookup_eq_fast]; kernel_rfl) (by decide +kernel) (by decide +kernel) (by decide +kernel) (by first | exact .inr (by decide +kernel) | exact .inl (by decide +kernel))
  (by rw [isSubtype_type]; kernel_rfl)
section
variable {prog : Program} {w : World} {A : Around} {E : Value → Shared → Prop} {s : Shared}
theorem objNe_body {X : String} {b : Value} {Q : Fin → Shared → Prop} (hX : ∀ s' : Shared, s'.TypeIs (.type X) "type") (hv : [Value.type X, b].any Value.onHeap = false)
    (hc : wpAny (model prog w) A (call (.builtin "object.__eq__") [.type X, b]) (fun v s' => (v = .notImplemented ∧ Q (.done (.ret .notImplemented)) s') ∨ ∃ k, v = .bool k ∧ Q (.done (.ret (.bool (!k)))) s') E s) :
    wpAny (model prog w) A (Builtin.«object.__ne__» ⟨[.type X, b], []⟩) Q E s := by
  unfold Builtin.«object.__ne__»
  refine wpAny_bind (m := slotArgs "__ne__" 1 ⟨[.type X, b], []⟩) (wpAny_pure ?_)
  dsimp only
  refine wpAny_bind (wpAny_cRoomFor_or (.inl hv) ?_)
  refine wpAny_bind (m := callSpecialIfBound? (.type X) (Str.ofString "__eq__") [b]) (wpAny_callSpecialIfBound?_slot (T := "type") (hX s) slot_type_eq (wpAny_mono hc (fun v s' h => ?_) fun _ _ e => e))
  rcases h with ⟨rfl, h⟩ | ⟨k, rfl, h⟩
  · exact wpAny_pure h
  · exact wpAny_bind (wpAny_truthy_bool (wpAny_pure h))
theorem ne_ty_same {X : String} {Q : Value → Shared → Prop} (hX : ∀ s' : Shared, s'.TypeIs (.type X) "type") (h : Q (.bool false) s) : wpAny (model prog w) A (compareOp .NotEq (.type X) (.type X)) Q E s := by
  show wpAny _ A (richCompare .NotEq _ _) Q E s
  refine wpAny_richCompare_same (T := "type") (hX s) (hX s) ty_ne1 (wpAny_call_entry ty_ne1 (hX s) F.entry_object_ne (objNe_body hX rfl ?_) (F.args_object_ne_2 _ _))
  exact call_gives slot_type_eq (hX s) F.entry_object_eq (F.args_object_eq_2 _ _) (object_eq_same rfl (by simp)) (.inr ⟨true, rfl, _, rfl, (by intro e; cases e), h⟩)
theorem ne_ty_other {X Y : String} {Q : Value → Shared → Prop} (hX : ∀ s' : Shared, s'.TypeIs (.type X) "type") (hY : ∀ s' : Shared, s'.TypeIs (.type Y) "type")
    (hne : (Value.type X == Value.type Y) = false) (hen : (Value.type Y == Value.type X) = false) (h : Q (.bool true) s) : wpAny (model prog w) A (compareOp .NotEq (.type X) (.type Y)) Q E s := by
  show wpAny _ A (richCompare .NotEq _ _) Q E s
  have k1 := ty_ne1
  have k2 := ty_ne2
  rcases hi : cmpInfo CmpOp.NotEq with ⟨sym, f, r⟩
  rw [hi] at k1 k2
  simp only [richCompare, hi, (hX s).oneThing_none]
  try with_reducible refine wpAny_holding ?_
  refine wpAny_bind (wpAny_cRoomFor_or (.inl rfl) ?_)
  refine wpAny_bind (wpAny_typeOf (hX s) ?_)
  refine wpAny_bind (wpAny_typeOf (hY s) ?_)
  simp only [bne_self_eq_false, Bool.false_eq_true, if_false, pure_bind, Bool.not_false, if_true]
  refine wpAny_bind (m := tryCompare (.type X) _ (.type Y)) (wpAny_tryCompare_declines (hX s) k1 ?_)
  refine wpAny_call_entry k1 (hX s) F.entry_object_ne (objNe_body hX rfl ?_) (F.args_object_ne_2 _ _)
  refine call_gives slot_type_eq (hX s) F.entry_object_eq (F.args_object_eq_2 _ _) (object_eq_other rfl hne) (.inl ⟨rfl, _, rfl, rfl, ?_⟩)
  refine wpAny_bind (m := tryCompare (.type Y) _ (.type X)) (wpAny_tryCompare_declines (hY s) k2 ?_)
  refine wpAny_call_entry k2 (hY s) F.entry_object_ne (objNe_body hY rfl ?_) (F.args_object_ne_2 _ _)
  refine call_gives slot_type_eq (hY s) F.entry_object_eq (F.args_object_eq_2 _ _) (object_eq_other rfl hen) (.inl ⟨rfl, _, rfl, rfl, ?_⟩)
  refine wpAny_bind (wpAny_rule (wpAny_bind (wpAny_of_eq (isSame_plain rfl) (wpAny_pure ?_))))
  rw [hne]
  exact h
end
/-- the built-in classes that are compared -/
def isTy (T : String) : Prop := ∀ s' : Shared, s'.TypeIs (.type T) "type"
theorem tyB_ty {K : PySem.W.Frag} {H : Hp} {x : V} {T : String} (h : TyB K H x T) : isTy T := by
  cases h with
  | non => exact meta_NoneType
  | bl => exact meta_bool
  | int => exact meta_int
  | str => exact meta_str
  | byt => exact meta_bytes
  | lst => exact meta_list
  | tup => exact meta_tuple
  | dK => exact meta_dict
section
variable {X : Cx}
def rTyEq : R2 := fun x y H Q => ∃ a b, x = .ty a ∧ y = .ty b ∧ isTy a ∧ isTy b ∧ Q (.bl (decide (a = b))) H
def rTyNe : R2 := fun x y H Q => ∃ a b, x = .ty a ∧ y = .ty b ∧ isTy a ∧ isTy b ∧ Q (.bl (!decide (a = b))) H
theorem op_eqTy : OpR X (compareOp .Eq) rTyEq := by
  intro pins s σ H x y v u Q I rx ry h
  obtain ⟨a, b, rfl, rfl, ha, hb, q⟩ := h
  obtain rfl : v = Value.type a := rx
  obtain rfl : u = Value.type b := ry
  by_cases e : a = b
  · subst e
    exact eq_type_same ha ⟨.bl true, H, I, rfl, by rw [decide_eq_true rfl] at q; exact q⟩
  · exact eq_type_other ha hb ((ty_beq a b).trans (decide_eq_false e)) ⟨.bl false, H, I, rfl, by rw [decide_eq_false e] at q; exact q⟩
theorem op_neTy : OpR X (compareOp .NotEq) rTyNe := by
  intro pins s σ H x y v u Q I rx ry h
  obtain ⟨a, b, rfl, rfl, ha, hb, q⟩ := h
  obtain rfl : v = Value.type a := rx
  obtain rfl : u = Value.type b := ry
  by_cases e : a = b
  · subst e
    exact ne_ty_same ha ⟨.bl false, H, I, rfl, by rw [decide_eq_true rfl] at q; exact q⟩
  · exact ne_ty_other ha hb ((ty_beq a b).trans (decide_eq_false e)) ((ty_beq b a).trans (decide_eq_false fun z => e z.symm)) ⟨.bl true, H, I, rfl, by rw [decide_eq_false e] at q; exact q⟩
end
end My
/-! ### an error that is caught is kept: try: .. except X as n: m = n -/
namespace My
open PySem PySem.Spec PyProof.Rows L2
/-- an error of the class at C stands at a -/
def IsErr (C a : Addr) (h : Heap) : Prop := ∃ (oe : Obj) (vs : Array Value), h.get? a = some oe ∧ Zc (.ref C) none oe ∧ oe.data = .fields vs
def ErrV (C a : Addr) : HO := .ext (IsErr C a)
theorem err_ok {P : Program} {w : World} {H : Hp} {h : Heap} {C a : Addr} (e : IsErr C a h) : ObjOk P w H h a (ErrV C a) := by
  obtain ⟨oe, vs, e1, e2, e3⟩ := id e
  exact ⟨e, ⟨oe, e1⟩, fun _ _ ⟨o, v, q, r⟩ k => ⟨o, v, k o q, r⟩⟩
section
variable {X : Cx} {pins : List (Addr × Obj)} {σ : L2.St} {H : Hp} {s : Shared}
/-- what stands there anyway, and is tracked by nothing, may be tracked -/
theorem inv_track (I : Inv X pins σ H s) {a : Addr} {o : HO} {oe : Obj} {vs : Array Value} (n0 : X.s_0.heap.get? a = none) (ha : s.heap.get? a = some oe) (hd : oe.data = .fields vs) (na : H a = none)
    (nL : a ≠ X.env.locals) (np : ∀ p ∈ X.pn ++ pins, p.1 ≠ a) (new : ObjOk X.prog X.w (upd H a o) s.heap a o) : Inv X pins σ (upd H a o) s where
  ok := I.ok
  os := I.os
  bare := I.bare
  base := by
    have ne : ∀ b u, X.s_0.heap.get? b = some u → b ≠ a := fun b u e z => by
      rw [z, n0] at e
      cases e
    exact {
      keep := I.base.keep, slot := I.base.slot, there := I.base.there,
      free := fun b u e n x => by rw [upd_ne (ne b u e)]; exact I.base.free b u e n x,
      tups := fun b xs e => (by have q := I.base.tups b xs e; rw [upd_ne (ne_of_none q na)]; exact q),
      frzs := fun b u x e => (by have q := I.base.frzs b u x e; rw [upd_ne (ne_of_none q na)]; exact q),
      tbls := fun b ps e => (by obtain ⟨m, q⟩ := I.base.tbls b ps e; exact ⟨m, by rw [upd_ne (ne_of_none q na)]; exact q⟩) }
  loc := I.loc
  cell := I.cell
  free := by rw [upd_ne nL.symm]; exact I.free
  freeC := fun x c e => by
    have ne : c ≠ a := fun z => by
      obtain ⟨v, oc, hc, hv⟩ := I.cell x c e
      rw [z, ha] at hc
      cases hc
      rw [hd] at hv
      cases hv
    rw [upd_ne ne]
    exact I.freeC x c e
  pin := fun p hp => by
    obtain ⟨p1, p2, p3, p4, p5⟩ := I.pin p hp
    exact ⟨p1, by rw [upd_ne (np p hp)]; exact p2, p3, p4, p5⟩
  hok := I.hok.laidN (fun _ _ e => e) na new
  len := I.len
end
/-- the wish: the class is the clause's, what the suite does with it, and the error is tracked behind -/
def wKeep (K : PySem.W.Frag) (c : Value) (i : Nat) (ts : TS) (D : Ends) : WX := fun cls d σ H =>
  PySem.W.exmOne K cls c = some true ∧ d = none ∧ ∃ C, cls = .ref C ∧ ∀ a, H a = none → ts { nx := fun σ' H' => H' a = none → D.nx (σ'.set i none) (upd H' a (ErrV C a)), rt := fun _ _ => False } (σ.set i (some (.ref a))) H
section
variable {X : Cx} {x n : Str} {c : Value} {i : Nat} {body suite : List Stmt} {b₀ : Stmt} {np pos pos' : Pos} {tb : WX → TS} {ts : TS}
theorem ps_try_keep (hs : X.stack = X.env :: X.outer) (hf : X.env.frame = some X.env.locals) (hex : X.ex = []) (hN : X.N.Nodup) (hi : X.N[i]? = some n) (hln : X.env.kindOf n = some .local) (hc : Names X x c)
    (hb : ∀ (W : WX) (pl : List (Addr × Obj)) (ex : Value → Shared → Prop), Takes (X.tr pl ex) W → PassesOwn (model X.prog X.w) X.A X.env ex → PSs (X.tr pl ex) body (tb W))
    (hsu : ∀ (a : Addr) (oe : Obj) (pl : List (Addr × Obj)), PSs (X.suite a ((a, oe) :: pl)) (b₀ :: suite) ts) :
    PS X (.Try body [.ExceptHandler (some (.Name x np)) (some n) (b₀ :: suite) pos'] [] [] pos) (fun D σ H => tb (wKeep X.K c i ts D) D σ H) := by
  constructor
  intro pins s σ H D I h
  have okX := I.ok
  have frames : X.A.frames = some (X.env :: X.outer) := okX.frames.trans (congrArg some hs)
  refine wpAny_Try_except ?_
  refine wpAny_mono ((hb (wKeep X.K c i ts D) (X.pn ++ pins)
    (fun e s₁ => wpAny (model X.prog X.w) X.A (noteFrame e X.env) (fun _ s₂ => wpAny (model X.prog X.w) X.A (setFlight e none) (fun _ s₃ =>
      wpAny (model X.prog X.w) X.A (handleBy e X.env [.ExceptHandler (some (.Name x np)) (some n) (b₀ :: suite) pos']) (SP X pins D) X.xe s₃) X.xe s₂) X.xe s₁)
    (fun u s2 air => ?caught) PassesOwn.looking).run [] s σ H D (I.toTry _) h) (fun f s1 ends => ?through) (fun e s1 he => he)
  case caught =>
    obtain ⟨a, B, sI, pins2, σ2, H2, cls, d, rfl, I2, under, upto, sky, freeA, osE, bareG, match1, dn, C, rfl, go⟩ := air
    subst dn
    have J := I2.ofTry okX
    rw [hs] at sky
    show wpAny (model X.prog X.w) X.A (noteFrame (.ref a) X.env) _ _ _
    refine Sky.land Zc.steady frames hf sky fun h3 fly3 upto3 => ?_
    obtain ⟨oe3, vs3, at3, cls3, data3⟩ := fly3.there
    have noFrame : ∀ {hh : Heap} {oo : Obj} {vv : Array Value}, hh.FunFrames B (X.env :: X.outer) → hh.get? a = some oo → oo.data = .fields vv → a ∉ frs (X.env :: X.outer) := by
      intro hh oo vv ff e1 e2 mem
      obtain ⟨_, o2, e3, bad⟩ := ff.mem mem
      rw [e1] at e3
      cases e3
      exact bad _ e2
    have nfr := noFrame fly3.2.2.1 at3 data3
    have nL : a ≠ X.env.locals := by
      intro z
      refine nfr (List.mem_filterMap.mpr ⟨X.env, List.mem_cons_self, ?_⟩)
      rw [hf, z]
    have nF : a ∉ X.fs := by
      intro mem
      obtain ⟨e, he, q⟩ := List.mem_filterMap.mp mem
      exact nfr (List.mem_filterMap.mpr ⟨e, List.mem_cons_of_mem _ he, q⟩)
    -- it is new: it does not stand in the state without it
    have newI : sI.heap.get? a = none := by
      cases q : sI.heap.get? a with
      | none => rfl
      | some u =>
        have z := under a u q (by rw [hs]; exact nfr)
        rw [fly3.2.1] at z
        cases z
    have new0 : X.s_0.heap.get? a = none := by
      cases q : X.s_0.heap.get? a with
      | none => rfl
      | some u =>
        obtain ⟨u2, z⟩ := J.base.there a u q (by rw [hex]; exact fun z => nomatch z)
        rw [newI] at z
        cases z
    have offPins : ∀ p ∈ X.pn ++ pins, p.1 ≠ a := by
      intro p hp z
      have q := (J.pin p hp).1
      rw [z, newI] at q
      cases q
    have J3 : Inv X pins σ2 H2 { s2 with heap := h3 } := J.landed under fly3.1 (upto.trans upto3) osE bareG
    have S3 := J3.suite at3 data3 freeA nL nF
    refine wpAny_handleBy_cons (codeAny_handlers_test ?_) (fun q => by cases q)
    have typeIs : PySem.W.Looks (model X.prog X.w) h3 (typeOf (.ref a)) (.ref C) := fun A Q E st k q => wpAny_typeOf_ref (k _ _ at3) (by rw [cls3.1]; exact q)
    have looks := PySem.W.exm_one (M := model X.prog X.w) J3.kIn typeIs match1
    have nameIs : ∀ {Q : Value → Shared → Prop} {E : Value → Shared → Prop}, Q c { s2 with heap := h3 } → wpAny (model X.prog X.w) (X.A.mark (some (.ref a))) (eval (.Name x np) X.env) Q E { s2 with heap := h3 } := by
      intro Q E q
      rcases hc with ⟨g1, g2, m1 | ⟨m1, m2, m3⟩⟩
      · exact ld_glob (X := X.suite a ((a, oe3) :: (X.pn ++ pins))) S3 g1 m1 q g2
      · exact ld_blt (X := X.suite a ((a, oe3) :: (X.pn ++ pins))) S3 g1 m1 m2 q m3 g2
    refine nameIs (looks.here ?_)
    refine codeAny_handlers_suite_as ?_
    refine HandSPX.lands_againZ fly3 fun h4 fly4 upto4 => ?_
    have J4 : Inv X pins σ2 H2 { s2 with heap := h4 } := J.landed under fly4.1 ((upto.trans upto3).trans upto4) osE bareG
    obtain ⟨oe4, vs4, at4, cls4, data4⟩ := fly4.there
    have S4 := J4.suite at4 data4 freeA nL nF
    refine store_ok (X := X.suite a ((a, oe4) :: (X.pn ++ pins))) (v := .ref a) S4 hN hi (.inl hln) rfl (fun s5 S5 => ?_) (.inr hln)
    refine wpAny_mono ((hsu a oe4 (X.pn ++ pins)).run [] s5 _ H2 _ S5 (go a freeA)) (fun f s6 ends => ?_) (fun _ _ z => z.elim)
    match f, ends with
    | .ret _, ends => exact (let ⟨_, _, _, _, _, z⟩ := ends; z.elim)
    | .brk, ends => exact (let ⟨_, _, _, z⟩ := ends; z.elim)
    | .cont, ends => exact (let ⟨_, _, _, z⟩ := ends; z.elim)
    | .next, ends =>
      obtain ⟨σ6, H6, S6, q6⟩ := ends
      obtain ⟨at6, free6, _⟩ := S6.pin (a, oe4) (List.mem_append.mpr (.inl List.mem_cons_self))
      have J6 := inv_track (o := ErrV C a) (S6.unsuite okX) new0 at6 data4 free6 nL offPins (err_ok ⟨oe4, vs4, at6, cls4, data4⟩)
      exact gone_ok J6 hN hi hln fun s7 J7 => ⟨_, _, J7, q6 free6⟩
  case through =>
    match f, ends with
    | .next, ⟨σ', H', J', q⟩ => exact wpAny_execs_nil ⟨σ', H', J'.ofTry okX, q⟩
    | .brk, ⟨σ', H', J', q⟩ => exact ⟨σ', H', J'.ofTry okX, q⟩
    | .cont, ⟨σ', H', J', q⟩ => exact ⟨σ', H', J'.ofTry okX, q⟩
    | .ret u, ⟨v, σ', H', J', r, q⟩ => exact ⟨v, σ', H', J'.ofTry okX, r, q⟩
end
end My
/-! ### isinstance of an error that is tracked; a text times an int -/
namespace My
open PySem PySem.Spec PyProof.Rows L2
/-- what the classes D of errors must say: nothing of their own stands in isinstance's way -/
def errFacts (K : PySem.W.Frag) (D : Addr) : Bool :=
  (PySem.W.findIn K (.ref D) "__getattribute__" == some (some (.builtin "BaseException.__getattribute__"))) && ((PySem.W.findIn K (.ref D) "__getattr__" == some none) && ((PySem.W.subIn K (.ref D) (.type "BaseException") == some true) &&
  (PySem.W.hasDictIn K D && ((PySem.W.findIn K (.ref D) "__class__" == some (some (.builtin "object.__class__"))) && ((PySem.W.specialIn K (.builtin "object.__class__") "__get__" == some (some (.builtin "getset_descriptor.__get__"))) &&
  ((PySem.W.takesIn K (.builtin "object.__class__") == some true) && (PySem.W.mroIn K D (.type "object") == some true)))))))
theorem errFacts_to {K : PySem.W.Frag} {D : Addr} (h : errFacts K D = true) : L2.ExcC K D := by
  unfold errFacts at h
  simp only [Bool.and_eq_true, beq_iff_eq] at h
  obtain ⟨h1, h2, h3, h4, h5, h6, h7, h8⟩ := h
  exact ⟨h1, h2, h3, h4, h5, h6, h7, h8⟩
/-- what an error of the class at D needs to be raised, made, caught and asked for -/
def mkFacts (K : PySem.W.Frag) (D : Addr) : Bool :=
  PySem.W.excIn K D [.type "ValueError", .type "Exception", .type "BaseException", .type "object"] "ValueError.__new__" && (PySem.W.keepIn K (.ref D) && ((PySem.W.subIn K (.ref D) (.type "BaseException") == some true) && ((PySem.W.typeIn K (.ref D) == some (.type "type")) && errFacts K D)))
/-- it is of the class at c, or not -/
def kitB (K : PySem.W.Frag) (D : Addr) (c : Value) (b : Bool) : Bool := PySem.W.kitOne K (.ref D) c == some b
/-- a tracked thing at a is an error of the class at D -/
def ErrAt (H : Hp) (a D : Addr) : Prop := ∃ φ, H a = some (.ext φ) ∧ ∀ h, φ h → IsErr D a h
theorem ErrAt.same {H H' : Hp} {a D : Addr} (h : ErrAt H a D) (s : Same H H') : ErrAt H' a D := by
  obtain ⟨φ, e, q⟩ := h
  exact ⟨φ, s _ _ e, q⟩
theorem errV_at {H : Hp} {a D : Addr} : ErrAt (upd H a (ErrV D a)) a D := ⟨_, upd_same, fun _ h => h⟩
theorem exO_at {H : Hp} {a D : Addr} (e : H a = some (ExO (.ref D) a)) : ErrAt H a D := ⟨_, e, fun h ⟨oe, vs, h1, h2, h3, _⟩ => ⟨oe, vs, h1, h2, h3⟩⟩
section
variable {X : Cx}
def rIsErr (K : PySem.W.Frag) : List V → Hp → VK → Prop := fun xs H Q => ∃ (a D : Addr) (c : V) (u : Value) (b : Bool), xs = [.ref a, c] ∧ ErrAt H a D ∧ errFacts K D = true ∧ ClsV c u ∧ kitB K D u b = true ∧ Q (.bl b) H
theorem call_isErr : CallR X (.builtin "isinstance") (rIsErr X.K) := by
  intro pins s σ H xs us Q I r h
  obtain ⟨a, D, c, u, b, rfl, ⟨φ, ha, hφ⟩, hF, hc, hk, q⟩ := h
  have C := errFacts_to hF
  cases r with
  | cons r1 rr =>
    cases rr with
    | cons r2 r3 =>
      cases r3
      cases r1
      cases hc.eq r2
      obtain ⟨oe, vs, e1, ⟨e2, e3⟩, e4⟩ := hφ _ (I.hok a _ ha).1
      have J : PySem.W.InstAt s.heap a oe D none := by
        obtain ⟨oc, od, dt, sl⟩ := oe
        dsimp only at e2 e3 e4
        subst e2 e3 e4
        exact ⟨e1, rfl, rfl, trivial⟩
      exact PySem.W.kia_one (PySem.W.handS_kitx_exc C.hg C.hk C.hs C.hd C.ha C.hn C.ht C.hm) I.kIn J (beq_iff_eq.mp hk) (fun z => nomatch z) fun tk => ⟨.bl b, H, I.tok tk, rfl, q⟩
/-- s * n, of small ones: some text -/
theorem op_mulS : OpR X (binaryOp .Mult) (fun x y H Q => ∃ (z : Str) (n : Int), x = .str z ∧ y = .int n ∧ z.length ≤ 1000 ∧ -1000 ≤ n ∧ n ≤ 1000 ∧ ∀ t : Str, Q (.str t) H) := by
  intro pins s σ H x y v u Q I rx ry h
  obtain ⟨z, n, rfl, rfl, hz, h0, h1, q⟩ := h
  obtain ⟨t, rfl⟩ := rx
  obtain ⟨t', rfl⟩ := ry
  refine SB.mul ⟨?_, fun h2 _ => ?_, fun h2 _ => ?_⟩ fun t2 k => ⟨.str _, H, I.tok k, ⟨_, rfl⟩, q _⟩
  · rw [Bool.or_eq_false_iff]
    exact ⟨decide_eq_false (by omega), decide_eq_false (by omega)⟩
  · have h3 : (1000 : Int) ≤ (2 ^ 63 - 1) / n := (Int.le_ediv_iff_mul_le (by omega)).mpr (by omega)
    omega
  · have h4 : z.length * n.toNat ≤ 1000 * 1000 := Nat.mul_le_mul hz (by omega)
    exact decide_eq_false (by rw [sizeLine_eq]; omega)
end
end My
/-! ### the law's word for what an act raises -/
namespace My
open PySem PySem.Spec PyProof.Rows L2
theorem count_of {y : V} : ∀ {ys : List V} {us : List Value}, Vals ys us → ys.all flatV = true → us.countP (eqU y) = ys.countP (fun z => eqV z y)
  | _, _, .nil, _ => rfl
  | _, _, .cons r t, h => by
    rw [List.all_cons, Bool.and_eq_true] at h
    rw [List.countP_cons, List.countP_cons, count_of t h.2, eqU_of r h.1]
section
variable {X : Cx}
/-- xs.count(y), all flat -/
def rCountF (K : PySem.W.Frag) : V → List V → Hp → VK → Prop := fun x xs H Q => ∃ (a : Addr) (ys : List V) (y : V), x = V.ref a ∧ xs = [y] ∧ SqL K H a ys ∧ flatV y = true ∧ ys.all flatV = true ∧ Q (.int ((ys.countP fun z => eqV z y : Nat) : Int)) H
theorem mt_countF : MtR X "list.count" (rCountF X.K) := by
  intro pins s σ H x xs v us Q I rx rxs h
  obtain ⟨a, ys, y, rfl, rfl, hs, fy, fys, q⟩ := h
  cases rx
  cases rxs with
  | cons ry rt =>
    rename_i uy ut
    cases rt
    obtain ⟨its, rv, ⟨⟨cls, dd, data, sl⟩, n, ho, hc, hdn, hd⟩, hlen⟩ := I.list hs
    simp only at hc hd
    subst hc hd
    refine call_meets PySem.F.slot_list_count ⟨_, ho, rfl⟩ PySem.F.entry_list_count (PySem.F.args_list_count_2 _ _) (SeqAt.list_countAt a its.toArray n dd sl uy (eqU y)) ⟨ho, fun u hu => mem_eqAt ry fy rv fys u (by simpa using hu), ?_⟩
    refine ⟨.int ((ys.countP fun z => eqV z y : Nat) : Int), H, I.tok _, ⟨s.toks, ?_⟩, q⟩
    have ec : its.toArray.toList.countP (eqU y) = ys.countP (fun z => eqV z y) := count_of rv fys
    show Value.int ((its.toArray.toList.countP (eqU y) : Nat) : Int) s.toks = Value.int ((ys.countP (fun z => eqV z y) : Nat) : Int) s.toks
    rw [ec]
end
abbrev sWord : Stmt := topS 41
theorem scWord : FnScope ["act", "caught", "e", "some", "words"] ["act"] (defScope sWord) := ⟨rfl, rfl, rfl, by decide +kernel, rfl, by decide +kernel, by decide +kernel⟩
def kitW (K : PySem.W.Frag) (cs : List Addr) : Bool := (List.range 12).all fun i => (List.range 12).all fun j => kitB K (cs.getD i 0) (.ref (cs.getD j 0)) (decide (i = j))
def upW (K : PySem.W.Frag) (cs : List Addr) (CL : Addr) : Bool := (List.range 12).all fun i => mkFacts K (cs.getD i 0) && (kitB K (cs.getD i 0) (.type "ValueError") true && (PySem.W.exmOne K (.ref (cs.getD i 0)) (.ref CL) == some true))
structure WordTxt (K : PySem.W.Frag) (mg : Str → Option Value) (C0 C1 C2 C3 C4 C5 C6 C7 C8 C9 C10 C11 CL : Addr) : Prop where
  isi : mg "isinstance" = none
  ve : mg "ValueError" = none
  later : mg "LaterError" = some (.ref CL)
  c0 : mg "NoMachine" = some (.ref C0)
  c1 : mg "NoPlain" = some (.ref C1)
  c2 : mg "NoLetters" = some (.ref C2)
  c3 : mg "NoRule" = some (.ref C3)
  c4 : mg "NoRow" = some (.ref C4)
  c5 : mg "NoWord" = some (.ref C5)
  c6 : mg "NoNumber" = some (.ref C6)
  c7 : mg "NoDivisor" = some (.ref C7)
  c8 : mg "NoMatch" = some (.ref C8)
  c9 : mg "TooGreat" = some (.ref C9)
  c10 : mg "NoLimit" = some (.ref C10)
  c11 : mg "HasRow" = some (.ref C11)
  all : kitW K [C0, C1, C2, C3, C4, C5, C6, C7, C8, C9, C10, C11] = true
  up : upW K [C0, C1, C2, C3, C4, C5, C6, C7, C8, C9, C10, C11] CL = true
theorem kitW_of {K : PySem.W.Frag} {cs : List Addr} (h : kitW K cs = true) {i : Nat} (hi : i < 12) (j : Nat) (hj : j < 12) : kitB K (cs.getD i 0) (.ref (cs.getD j 0)) (decide (i = j)) = true := by
  unfold kitW at h
  simp only [List.all_eq_true, List.mem_range] at h
  exact h i hi j hj
theorem upW_of {K : PySem.W.Frag} {cs : List Addr} {CL : Addr} (h : upW K cs CL = true) {i : Nat} (hi : i < 12) : mkFacts K (cs.getD i 0) = true ∧ kitB K (cs.getD i 0) (.type "ValueError") true = true ∧ PySem.W.exmOne K (.ref (cs.getD i 0)) (.ref CL) = some true := by
  unfold upW at h
  simp only [List.all_eq_true, List.mem_range, Bool.and_eq_true, beq_iff_eq] at h
  exact h i hi
theorem err_of {K : PySem.W.Frag} {D : Addr} (h : mkFacts K D = true) : errFacts K D = true := by
  unfold mkFacts at h
  simp only [Bool.and_eq_true] at h
  exact h.2.2.2.2
/-- which of the classes it is -/
def mark (i n : Nat) : List Bool := (List.range n).map fun j => decide (i = j)
def theWords : List Str := ["machine", "plain", "letters", "rule", "row", "word", "number", "divisor", "match", "great", "limit", "has"]
/-- the word for the i-th class -/
def wordOf (i : Nat) : Str := theWords.getD i "odd"
theorem word_at {i : Nat} (h : i < 12) : (theWords.map V.str)[i]? = some (.str (wordOf i)) := by
  have h2 : i < theWords.length := h
  rw [List.getElem?_map, List.getElem?_eq_getElem h2]
  unfold wordOf
  rw [List.getD_eq_getElem?_getD, List.getElem?_eq_getElem h2]
  rfl
theorem mark_count : ∀ i, i < 12 → ((mark i 12).map V.bl).countP (fun z => eqV z (.bl true)) = 1 := by decide
theorem mark_flat : ∀ i, i < 12 → ((mark i 12).map V.bl).all flatV = true := by decide
theorem mark_at {i : Nat} (h : i < 12) : ((mark i 12).map V.bl)[i]? = some (.bl true) := by
  unfold mark
  rw [List.getElem?_map, List.getElem?_map, List.getElem?_range h]
  simp
theorem mark_not {i m : Nat} (h : i < 12) (hm : m < i) (z : V) (hz : ((mark i 12).map V.bl)[m]? = some z) : eqV z (.bl true) = false := by
  unfold mark at hz
  rw [List.getElem?_map, List.getElem?_map, List.getElem?_range (by omega)] at hz
  obtain rfl := Option.some.inj hz
  show eqV (V.bl (decide (i = m))) (.bl true) = false
  rw [decide_eq_false (show ¬ i = m by omega)]
  rfl
/-- what the law's word makes of an act's reading -/
def TTword (cs : List Addr) : (XK → Hp → VK → Prop) → Hp → VK → Prop := fun tl H Q =>
  tl (fun cls d H' => ∃ i, i < 12 ∧ cls = .ref (cs.getD i 0) ∧ d = none ∧ ∀ H'' : Hp, Same H' H'' → Q (.str (wordOf i)) H'') H (fun _ H' => ∀ H'' : Hp, Same H' H'' → Q (.str "fine") H'')
theorem takes_len {X : Cx} {W : WX} (tk : Takes X W) : Takes X (fun c d σ H => σ.length = X.N.length → W c d σ H) := by
  rintro u s' ⟨a, B, sI, pins, σ, H, cls, d, e, I, nb, up, sky, na, os, ag, w⟩
  exact tk u s' ⟨a, B, sI, pins, σ, H, cls, d, e, I, nb, up, sky, na, os, ag, w I.len⟩
/-- behind the act: an error is caught, or nothing is raised -/
def wordMid (cs : List Addr) (Q : VK) (σ : L2.St) (H' : Hp) : Prop :=
  (∃ (x0 x3 x4 : Option V) (a : Addr) (i : Nat), σ = [x0, some (.ref a), none, x3, x4] ∧ i < 12 ∧ ErrAt H' a (cs.getD i 0) ∧ ∀ H'' : Hp, Same H' H'' → Q (.str (wordOf i)) H'') ∨
  ((∃ (x0 x2 x3 x4 : Option V), σ = [x0, some .non, x2, x3, x4]) ∧ ∀ H'' : Hp, Same H' H'' → Q (.str "fine") H'')
section
variable {X : Cx} {C0 C1 C2 C3 C4 C5 C6 C7 C8 C9 C10 C11 CL : Addr}
theorem word_gives {q : Str} {g : Addr} {cdg : Value} (T : WordTxt X.K X.mg C0 C1 C2 C3 C4 C5 C6 C7 C8 C9 C10 C11 CL) : LamX.GivesTo X ["act", "caught", "e", "some", "words"] "_law_x_word" (defScope sWord) g cdg (defBody sWord) "act" q (TTword [C0, C1, C2, C3, C4, C5, C6, C7, C8, C9, C10, C11]) := by
  intro f c' s H Q tl act hc h
  refine ⟨_, (pss_cons (ps_set (i := 1) scWord.nd rfl (.inl rfl) pe_non)
 (Evl.pss_cut (ps_try_keep (i := 2) (tb := fun W D σ H => ∃ Ech : XK, (∀ cls d σ' H', Ech cls d H' → σ'.length = 5 → W cls d σ' H') ∧ σ[0]? = some (some (.ref f)) ∧ H c' = some (LamX.CodeO c' q) ∧ tl Ech H (fun _ H1 => D.nx σ H1)) rfl rfl rfl scWord.nd rfl rfl ⟨rfl, by decide, .inl T.later⟩
      (fun W pl ex tk _ => ⟨fun pins s1 σ1 H1 D1 I1 h1 => (let ⟨Ech, hW, z1, z2, z3⟩ := h1; (pss_one (ps_expr (act _ pl ex Ech _ _ (takes_len tk) hW))).run pins s1 σ1 H1 D1 I1 ⟨z1, z2, z3⟩)⟩)
      (fun a oe pl => (pss_one (ps_set (i := 1) scWord.nd rfl (.inl rfl) (pv 2)))))
 (Evl.pss_cut (ps_if (pt_cmpR op_isN (pv 1) pe_non (nomark _)) (pss_one (ps_ret pe_str)) pss_nil)
 (Evl.pss_cut (ps_set (i := 3) scWord.nd rfl (.inl rfl) (pe_lst (pa_cons (pe_callB call_isErr (by rfl) T.isi (by decide +kernel) (pa_cons (pv 1) (pa_cons (pe_glob (v := .ref C0) (by rfl) T.c0 rfl) pa_nil))) (pa_cons (pe_callB call_isErr (by rfl) T.isi (by decide +kernel) (pa_cons (pv 1) (pa_cons (pe_glob (v := .ref C1) (by rfl) T.c1 rfl) pa_nil))) (pa_cons (pe_callB call_isErr (by rfl) T.isi (by decide +kernel) (pa_cons (pv 1) (pa_cons (pe_glob (v := .ref C2) (by rfl) T.c2 rfl) pa_nil))) pa_nil)))))
 (Evl.pss_cut (ps_set (i := 3) scWord.nd rfl (.inl rfl) (pe_op op_cat (pv 3) (pe_lst (pa_cons (pe_callB call_isErr (by rfl) T.isi (by decide +kernel) (pa_cons (pv 1) (pa_cons (pe_glob (v := .ref C3) (by rfl) T.c3 rfl) pa_nil))) (pa_cons (pe_callB call_isErr (by rfl) T.isi (by decide +kernel) (pa_cons (pv 1) (pa_cons (pe_glob (v := .ref C4) (by rfl) T.c4 rfl) pa_nil))) (pa_cons (pe_callB call_isErr (by rfl) T.isi (by decide +kernel) (pa_cons (pv 1) (pa_cons (pe_glob (v := .ref C5) (by rfl) T.c5 rfl) pa_nil))) pa_nil))))))
 (Evl.pss_cut (ps_set (i := 3) scWord.nd rfl (.inl rfl) (pe_op op_cat (pv 3) (pe_lst (pa_cons (pe_callB call_isErr (by rfl) T.isi (by decide +kernel) (pa_cons (pv 1) (pa_cons (pe_glob (v := .ref C6) (by rfl) T.c6 rfl) pa_nil))) (pa_cons (pe_callB call_isErr (by rfl) T.isi (by decide +kernel) (pa_cons (pv 1) (pa_cons (pe_glob (v := .ref C7) (by rfl) T.c7 rfl) pa_nil))) (pa_cons (pe_callB call_isErr (by rfl) T.isi (by decide +kernel) (pa_cons (pv 1) (pa_cons (pe_glob (v := .ref C8) (by rfl) T.c8 rfl) pa_nil))) pa_nil))))))
 (Evl.pss_cut (ps_set (i := 3) scWord.nd rfl (.inl rfl) (pe_op op_cat (pv 3) (pe_lst (pa_cons (pe_callB call_isErr (by rfl) T.isi (by decide +kernel) (pa_cons (pv 1) (pa_cons (pe_glob (v := .ref C9) (by rfl) T.c9 rfl) pa_nil))) (pa_cons (pe_callB call_isErr (by rfl) T.isi (by decide +kernel) (pa_cons (pv 1) (pa_cons (pe_glob (v := .ref C10) (by rfl) T.c10 rfl) pa_nil))) (pa_cons (pe_callB call_isErr (by rfl) T.isi (by decide +kernel) (pa_cons (pv 1) (pa_cons (pe_glob (v := .ref C11) (by rfl) T.c11 rfl) pa_nil))) pa_nil))))))
 (Evl.pss_cut (ps_set (i := 4) scWord.nd rfl (.inl rfl) (pe_lst (pa_cons pe_str (pa_cons pe_str (pa_cons pe_str (pa_cons pe_str (pa_cons pe_str (pa_cons pe_str (pa_cons pe_str (pa_cons pe_str (pa_cons pe_str (pa_cons pe_str (pa_cons pe_str pa_nil)))))))))))))
 (pss_cons (ps_expr (pe_bm PySem.F.plainAttrs_list PySem.F.slot_list_append PySem.F.type_list_append mt_append (pv 4) (pa_cons pe_str pa_nil)))
 (pss_one (ps_ret (pe_ifExp (PW.pt (pw_and (pt_cmpR op_eq (pe_bm PySem.F.plainAttrs_list PySem.F.slot_list_count PySem.F.type_list_count mt_countF (pv 3) (pa_cons pe_bl pa_nil)) pe_int (nomark _)) (pw_and1 (pt_val (pe_callB call_isErr (by rfl) T.isi (by decide +kernel) (pa_cons (pv 1) (pa_cons (pe_bltn (v := .ty "ValueError") (by rfl) T.ve (by decide +kernel) rfl) pa_nil))))))) (pe_ix ix_list (pv 4) (pe_bm PySem.F.plainAttrs_list PySem.F.slot_list_index PySem.F.type_list_index mt_index (pv 3) (pa_cons pe_bl pa_nil)) (fun _ _ => rfl)) pe_str)))))))))))), ?_⟩
  have nonIs : V.bl (decide (V.non = V.non)) = V.bl true := congrArg V.bl (decide_eq_true rfl)
  refine ⟨wordMid [C0, C1, C2, C3, C4, C5, C6, C7, C8, C9, C10, C11] Q, ?_, ?_⟩
  · refine ⟨fun cls d H' => ∃ i, i < 12 ∧ cls = .ref ([C0, C1, C2, C3, C4, C5, C6, C7, C8, C9, C10, C11].getD i 0) ∧ d = none ∧ ∀ H'' : Hp, Same H' H'' → Q (.str (wordOf i)) H'', ?_, rfl, hc, ?_⟩
    · rintro cls d σ' H' ⟨i, hi, rfl, rfl, k⟩ hlen
      obtain ⟨x0, x1, x2, x3, x4, rfl⟩ : ∃ x0 x1 x2 x3 x4, σ' = [x0, x1, x2, x3, x4] := by
        match σ', hlen with
        | [x0, x1, x2, x3, x4], _ => exact ⟨x0, x1, x2, x3, x4, rfl⟩
      refine ⟨(upW_of T.up hi).2.2, rfl, _, rfl, fun a ha => ⟨_, rfl, fun ha2 => ?_⟩⟩
      exact .inl ⟨x0, x3, x4, a, i, rfl, hi, errV_at, fun H'' s2 => k H'' ((same_upd ha).trans s2)⟩
    · have e : (fun (_ : V) (H1 : Hp) => wordMid [C0, C1, C2, C3, C4, C5, C6, C7, C8, C9, C10, C11] Q [some (.ref f), some .non, none, none, none] H1) = fun _ H1 => ∀ H'' : Hp, Same H1 H'' → Q (.str "fine") H'' := by
        funext _ H1
        refine propext ⟨fun z => ?_, fun z => .inr ⟨⟨_, _, _, _, rfl⟩, z⟩⟩
        rcases z with ⟨_, _, _, _, _, e, _⟩ | ⟨_, z⟩
        · simp at e
        · exact z
      show tl _ H (fun (_ : V) (H1 : Hp) => wordMid [C0, C1, C2, C3, C4, C5, C6, C7, C8, C9, C10, C11] Q [some (.ref f), some .non, none, none, none] H1)
      rw [e]
      exact h
  rintro σ H1 (⟨x0, x3, x4, a, i, rfl, hi, hE, k⟩ | ⟨⟨x0, x2, x3, x4, rfl⟩, k⟩)
  · have hF := err_of (upW_of T.up hi).1
    have hV := (upW_of T.up hi).2.1
    have hk := kitW_of T.all hi
    refine ⟨fun σ H' => σ = [x0, some (.ref a), none, x3, x4] ∧ H' = H1, ?_, ?_⟩
    · exact ⟨_, rfl, rfl, false, congrArg V.bl (decide_eq_false (by intro z; cases z)), iteF ⟨rfl, rfl⟩⟩
    rintro σ H1 ⟨rfl, rfl⟩
    refine ⟨fun σ H' => ∃ p, σ = [x0, some (.ref a), none, some (.ref p), x4] ∧ Same H1 H' ∧ H1 p = none ∧ H' p = some (.lst ((mark i 3).map V.bl)), ?_, ?_⟩
    · have hE' := hE
      exact ⟨_, rfl, a, _, _, _, _, rfl, hE', hF, .own _, hk 0 (by decide), _, rfl, a, _, _, _, _, rfl, hE', hF, .own _, hk 1 (by decide), _, rfl, a, _, _, _, _, rfl, hE', hF, .own _, hk 2 (by decide), (by show 3 ≤ sizeLine; decide), fun p hp => ⟨p, rfl, same_upd hp, hp, upd_same⟩⟩
    rintro σ H2 ⟨p, rfl, s0, hp0, hp⟩
    refine ⟨fun σ H' => ∃ p, σ = [x0, some (.ref a), none, some (.ref p), x4] ∧ Same H1 H' ∧ H1 p = none ∧ H' p = some (.lst ((mark i 6).map V.bl)), ?_, ?_⟩
    · have hE' := hE.same s0
      refine ⟨_, rfl, _, rfl, a, _, _, _, _, rfl, hE', hF, .own _, hk 3 (by decide), _, rfl, a, _, _, _, _, rfl, hE', hF, .own _, hk 4 (by decide), _, rfl, a, _, _, _, _, rfl, hE', hF, .own _, hk 5 (by decide), (by show 3 ≤ sizeLine; decide), fun q2 hq2 => ?_⟩
      refine ⟨p, q2, _, _, rfl, rfl, same_upd hq2 _ _ hp, upd_same, (by show 6 ≤ sizeLine; decide), fun r hr2 => ⟨r, rfl, (s0.trans (same_upd hq2)).trans (same_upd hr2), (s0.trans (same_upd hq2)).free hr2, upd_same⟩⟩
    rintro σ H2 ⟨p, rfl, s0, hp0, hp⟩
    refine ⟨fun σ H' => ∃ p, σ = [x0, some (.ref a), none, some (.ref p), x4] ∧ Same H1 H' ∧ H1 p = none ∧ H' p = some (.lst ((mark i 9).map V.bl)), ?_, ?_⟩
    · have hE' := hE.same s0
      refine ⟨_, rfl, _, rfl, a, _, _, _, _, rfl, hE', hF, .own _, hk 6 (by decide), _, rfl, a, _, _, _, _, rfl, hE', hF, .own _, hk 7 (by decide), _, rfl, a, _, _, _, _, rfl, hE', hF, .own _, hk 8 (by decide), (by show 3 ≤ sizeLine; decide), fun q2 hq2 => ?_⟩
      refine ⟨p, q2, _, _, rfl, rfl, same_upd hq2 _ _ hp, upd_same, (by show 9 ≤ sizeLine; decide), fun r hr2 => ⟨r, rfl, (s0.trans (same_upd hq2)).trans (same_upd hr2), (s0.trans (same_upd hq2)).free hr2, upd_same⟩⟩
    rintro σ H2 ⟨p, rfl, s0, hp0, hp⟩
    refine ⟨fun σ H' => ∃ p, σ = [x0, some (.ref a), none, some (.ref p), x4] ∧ Same H1 H' ∧ H1 p = none ∧ H' p = some (.lst ((mark i 12).map V.bl)), ?_, ?_⟩
    · have hE' := hE.same s0
      refine ⟨_, rfl, _, rfl, a, _, _, _, _, rfl, hE', hF, .own _, hk 9 (by decide), _, rfl, a, _, _, _, _, rfl, hE', hF, .own _, hk 10 (by decide), _, rfl, a, _, _, _, _, rfl, hE', hF, .own _, hk 11 (by decide), (by show 3 ≤ sizeLine; decide), fun q2 hq2 => ?_⟩
      refine ⟨p, q2, _, _, rfl, rfl, same_upd hq2 _ _ hp, upd_same, (by show 12 ≤ sizeLine; decide), fun r hr2 => ⟨r, rfl, (s0.trans (same_upd hq2)).trans (same_upd hr2), (s0.trans (same_upd hq2)).free hr2, upd_same⟩⟩
    rintro σ H2 ⟨p, rfl, s0, hp0, hp⟩
    -- the words
    refine ⟨fun σ H' => ∃ l, σ = [x0, some (.ref a), none, some (.ref p), some (.ref l)] ∧ Same H2 H' ∧ H2 l = none ∧ H' l = some (.lst ((theWords.take 11).map V.str)), ?_, ?_⟩
    · exact ⟨(by show 11 ≤ sizeLine; decide), fun l hl => ⟨l, rfl, same_upd hl, hl, upd_same⟩⟩
    rintro σ H3 ⟨l, rfl, s3, hl0, hl⟩
    have npl : p ≠ l := ne_of_none hp hl0
    have hp3 := s3 _ _ hp
    refine ⟨_, rfl, .inl ⟨rfl, _, SqL.of hl⟩, l, _, _, rfl, rfl, hl, (by show 11 < sizeLine; decide), ?_⟩
    have s4 : Same H1 (upd H3 l (.lst ((theWords.take 11).map V.str ++ [.str "has"]))) := fun b o e => by
      have nb : b ≠ l := ne_of_none (s0 _ _ e) hl0
      rw [upd_ne nb]
      exact s3 _ _ (s0 _ _ e)
    have hp4 : (upd H3 l (.lst ((theWords.take 11).map V.str ++ [.str "has"]))) p = some (.lst ((mark i 12).map V.bl)) := by
      rw [upd_ne npl]
      exact hp3
    have hE' := hE.same s4
    refine ⟨_, rfl, .inl ⟨rfl, _, SqL.of hp4⟩, p, _, .bl true, rfl, rfl, SqL.of hp4, rfl, mark_flat i hi, rfl, true, congrArg V.bl (decide_eq_true (by rw [mark_count i hi]; rfl)), iteT ?_⟩
    refine ⟨_, rfl, a, _, _, _, _, rfl, hE', hF, .ty _, hV, _, rfl, iteT ?_⟩
    refine ⟨_, rfl, _, rfl, .inl ⟨rfl, _, SqL.of hp4⟩, p, _, .bl true, i, .bl true, rfl, rfl, SqL.of hp4, rfl, mark_flat i hi, mark_at hi, rfl, fun m z hm hz => mark_not hi hm z hz, ?_⟩
    exact ⟨l, theWords.map V.str, (i : Int), .str (wordOf i), rfl, rfl, SqL.of upd_same, atI_nat (word_at hi), k _ s4⟩
  · refine ⟨fun _ _ => False, ?_, fun _ _ z => z.elim⟩
    exact ⟨_, rfl, rfl, true, nonIs, iteT (k H1 (Same.refl H1))⟩
end
end My
/-! ### the program's looks at machines and rules, over data -/
namespace My
open PySem PySem.Spec PyProof.Rows L2
abbrev sWhole : Stmt := topS 15
abbrev sBetween : Stmt := topS 29
abbrev sTuple : Stmt := topS 28
abbrev sLetters : Stmt := topS 24
abbrev sWayOn : Stmt := topS 27
abbrev sTable : Stmt := topS 26
abbrev sRule : Stmt := topS 20
theorem scWhole : FnScope ["thing"] ["thing"] (defScope sWhole) := ⟨rfl, rfl, rfl, by decide +kernel, rfl, by decide +kernel, by decide +kernel⟩
theorem scBetween : FnScope ["thing", "low", "high"] ["thing", "low", "high"] (defScope sBetween) := ⟨rfl, rfl, rfl, by decide +kernel, rfl, by decide +kernel, by decide +kernel⟩
theorem scTuple : FnScope ["thing", "least", "most"] ["thing", "least", "most"] (defScope sTuple) := ⟨rfl, rfl, rfl, by decide +kernel, rfl, by decide +kernel, by decide +kernel⟩
theorem scLetters : FnScope ["thing", "ascending", "at"] ["thing"] (defScope sLetters) := ⟨rfl, rfl, rfl, by decide +kernel, rfl, by decide +kernel, by decide +kernel⟩
theorem scWayOn : FnScope ["state", "many", "targets", "target"] ["state", "many"] (defScope sWayOn) := ⟨rfl, rfl, rfl, by decide +kernel, rfl, by decide +kernel, by decide +kernel⟩
theorem scTable : FnScope ["thing", "letters", "most", "state"] ["thing", "letters", "most"] (defScope sTable) := ⟨rfl, rfl, rfl, by decide +kernel, rfl, by decide +kernel, by decide +kernel⟩
theorem scRule : FnScope ["thing", "letters", "states", "state"] ["thing"] (defScope sRule) := ⟨rfl, rfl, rfl, by decide +kernel, rfl, by decide +kernel, by decide +kernel⟩
/-! ### data: x is what d says, in the heap H -/
mutual
inductive Rp (K : PySem.W.Frag) (H : Hp) : V → PyData → Prop
  | non : Rp K H .non .none
  | bl (b : Bool) : Rp K H (.bl b) (.bool b)
  | int (i : Int) : Rp K H (.int i) (.int i)
  | str (x : Str) : x.length ≤ sizeLine → Rp K H (.str x) (.str x)
  | lst {a : Addr} {xs : List V} {ds : List PyData} : SqL K H a xs → RpAll K H xs ds → Rp K H (.ref a) (.list ds)
  | tup {a : Addr} {xs : List V} {ds : List PyData} : SqT K H a xs → RpAll K H xs ds → Rp K H (.ref a) (.tuple ds)
  | dct {a : Addr} : H a = some (.dK []) → Rp K H (.ref a) (.dict [])
inductive RpAll (K : PySem.W.Frag) (H : Hp) : List V → List PyData → Prop
  | nil : RpAll K H [] []
  | cons {v : V} {vs : List V} {d : PyData} {ds : List PyData} : Rp K H v d → RpAll K H vs ds → RpAll K H (v :: vs) (d :: ds)
end
def kindOf : PyData → String
  | .none => "NoneType"
  | .bool _ => "bool"
  | .int _ => "int"
  | .str _ => "str"
  | .list _ => "list"
  | .tuple _ => "tuple"
  | .dict _ => "dict"
theorem Rp.ty {K : PySem.W.Frag} {H : Hp} {v : V} {d : PyData} (h : Rp K H v d) : TyB K H v (kindOf d) := by
  cases h with
  | non => exact .non
  | bl => exact .bl _
  | int => exact .int _
  | str => exact .str _
  | lst h => exact .lst h
  | tup h => exact .tup h
  | dct h => exact .dK h
theorem same_tup {K : PySem.W.Frag} {H H' : Hp} {a : Addr} {xs : List V} (e : Same H H') (h : SqT K H a xs) : SqT K H' a xs := by
  rcases h with (h | ⟨o, h⟩) | h
  · exact .inl (.inl (e _ _ h))
  · exact .inl (.inr ⟨o, e _ _ h⟩)
  · exact .inr h
theorem eq_false_of_ne_true {b : Bool} (h : ¬ b = true) : b = false := by
  cases b
  · rfl
  · exact absurd rfl h
mutual
theorem Rp.go {K : PySem.W.Frag} {H H' : Hp} (s : Same H H') : ∀ {v : V} {d : PyData}, Rp K H v d → Rp K H' v d
  | _, _, .non => .non
  | _, _, .bl b => .bl b
  | _, _, .int i => .int i
  | _, _, .str x h => .str x h
  | _, _, .lst h t => .lst (s.seq h) (RpAll.go s t)
  | _, _, .tup h t => .tup (same_tup s h) (RpAll.go s t)
  | _, _, .dct h => .dct (s _ _ h)
theorem RpAll.go {K : PySem.W.Frag} {H H' : Hp} (s : Same H H') : ∀ {vs : List V} {ds : List PyData}, RpAll K H vs ds → RpAll K H' vs ds
  | _, _, .nil => .nil
  | _, _, .cons h t => .cons (Rp.go s h) (RpAll.go s t)
end
theorem RpAll.len {K : PySem.W.Frag} {H : Hp} : ∀ {vs : List V} {ds : List PyData}, RpAll K H vs ds → vs.length = ds.length
  | _, _, .nil => rfl
  | _, _, .cons _ t => congrArg (· + 1) t.len
theorem RpAll.at {K : PySem.W.Frag} {H : Hp} : ∀ {vs : List V} {ds : List PyData}, RpAll K H vs ds → ∀ {i : Nat} {v : V}, vs[i]? = some v → ∃ d, ds[i]? = some d ∧ Rp K H v d
  | _, _, .cons (d := d) h t, 0, v, e => ⟨d, rfl, by cases e; exact h⟩
  | _, _, .cons h t, i + 1, v, e => t.at (i := i) (by simpa using e)
/-! ### what the looks tell -/
def betD (lo hi : Int) : PyData → Bool
  | .int i => decide (lo ≤ i) && decide (i ≤ hi)
  | _ => false
def tupD (lo hi : Int) : PyData → Bool
  | .tuple ds => decide (lo ≤ (ds.length : Int)) && decide ((ds.length : Int) ≤ hi)
  | _ => false
def lettersL : List Nat → Bool
  | [a] => decide (97 ≤ a) && decide (a ≤ 122)
  | [a, b] => decide (a < b) && (decide (97 ≤ a) && decide (b ≤ 122))
  | [a, b, c] => (decide (a < b) && decide (b < c)) && (decide (97 ≤ a) && decide (c ≤ 122))
  | _ => false
def ltrD : PyData → Bool
  | .str z => lettersL z.cps.toList
  | _ => false
def pairD (most many : Int) : PyData → Bool
  | .tuple [p, t] => betD (-most) most p && betD 0 (many - 1) t
  | _ => false
theorem RpAll.two {K : PySem.W.Frag} {H : Hp} {vs : List V} {ds : List PyData} (h : RpAll K H vs ds) (e : ds.length = 2) : ∃ u v p t, vs = [u, v] ∧ ds = [p, t] ∧ Rp K H u p ∧ Rp K H v t := by
  cases h with
  | nil => cases e
  | cons h1 h =>
    cases h with
    | nil => cases e
    | cons h2 h =>
      cases h with
      | nil => exact ⟨_, _, _, _, rfl, rfl, h1, h2⟩
      | cons _ _ => simp at e
theorem tup_of {K : PySem.W.Frag} {H : Hp} {x : V} {d : PyData} {lo hi : Int} (h : Rp K H x d) (z : tupD lo hi d = true) : ∃ a xs ds, x = .ref a ∧ d = .tuple ds ∧ SqT K H a xs ∧ RpAll K H xs ds ∧ lo ≤ (ds.length : Int) ∧ (ds.length : Int) ≤ hi := by
  cases h with
  | tup h1 h2 =>
    rw [tupD, Bool.and_eq_true, decide_eq_true_eq, decide_eq_true_eq] at z
    exact ⟨_, _, _, rfl, rfl, h1, h2, z⟩
  | _ => exact absurd z (by simp [tupD])
theorem Rp.two {K : PySem.W.Frag} {H : Hp} {x : V} {d : PyData} (h : Rp K H x d) (z : tupD 2 2 d = true) : ∃ a u v p t, x = .ref a ∧ d = .tuple [p, t] ∧ SqT K H a [u, v] ∧ Rp K H u p ∧ Rp K H v t := by
  obtain ⟨a, xs, ds, rfl, rfl, hS, hA, l1, l2⟩ := tup_of h z
  obtain ⟨u, v, p, t, rfl, rfl, hp, ht⟩ := hA.two (by omega)
  exact ⟨a, u, v, p, t, rfl, rfl, hS, hp, ht⟩
theorem pairD_not {most many : Int} {d : PyData} (z : ¬ tupD 2 2 d = true) : pairD most many d = false := by
  unfold pairD
  split
  · exact absurd (show tupD 2 2 _ = true from rfl) z
  · rfl
theorem Rp.isStr {K : PySem.W.Frag} {H : Hp} {x : V} {d : PyData} (h : Rp K H x d) (e : kindOf d = "str") : ∃ z, x = .str z ∧ d = .str z ∧ z.length ≤ sizeLine := by
  cases h with
  | str z hz => exact ⟨z, rfl, rfl, hz⟩
  | _ => exact absurd e (by simp [kindOf])
theorem lettersL_not {z : Str} (h : ¬ (1 ≤ z.length ∧ z.length ≤ 3)) : lettersL z.cps.toList = false := by
  have e : z.cps.toList.length = z.length := Array.length_toList
  generalize z.cps.toList = l at e
  unfold lettersL
  split
  · exact absurd ⟨by rw [← e]; simp, by rw [← e]; simp⟩ h
  · exact absurd ⟨by rw [← e]; simp, by rw [← e]; simp⟩ h
  · exact absurd ⟨by rw [← e]; simp, by rw [← e]; simp⟩ h
  · rfl
theorem nat_at {l : List Nat} {j : Nat} (h : j < l.length) : l[j]? = some (l.getD j 0) := by
  rw [List.getD_eq_getElem?_getD, List.getElem?_eq_getElem h]
  rfl
theorem one_lt (a b : Nat) : decide (([a] : List Nat) < [b]) = decide (a < b) := by
  simp [List.cons_lt_cons_iff]
theorem atI_last {α : Type} {l : List α} (h : 0 < l.length) : atI l (-1) = l[l.length - 1]? := by
  unfold atI ixN
  rw [if_neg (by decide), if_pos (by omega)]
  show l[(-1 + (l.length : Int)).toNat]? = _
  rw [show (-1 + (l.length : Int)).toNat = l.length - 1 by omega]
theorem same_new {H H' : Hp} {D : Addr} {o : HO} (sm : Same H H') (n : H D = none) : Same H (upd H' D o) := fun b x e => by
  rw [upd_ne (ne_of_none e n)]
  exact sm _ _ e
theorem letters_eq {l : List Nat} (h : 1 ≤ l.length ∧ l.length ≤ 3) : lettersL l = (((List.range (l.length - 1)).map fun i => decide (l.getD i 0 < l.getD (i + 1) 0)).all id && (!decide (([l.getD 0 0] : List Nat) < [97]) && !decide (([122] : List Nat) < [l.getD (l.length - 1) 0]))) := by
  have e : ∀ a b : Nat, (!decide (a < b)) = decide (b ≤ a) := fun a b => by
    by_cases z : a < b
    · rw [decide_eq_true z, decide_eq_false (by omega)]
      rfl
    · rw [decide_eq_false z, decide_eq_true (by omega)]
      rfl
  rw [one_lt, one_lt, e, e]
  match l, h with
  | [a], _ => simp [lettersL]
  | [a, b], _ => simp [lettersL, List.range_succ]
  | [a, b, c], _ => simp [lettersL, List.range_succ]
theorem ltrD_not {d : PyData} (h : ¬ kindOf d = "str") : ltrD d = false := by
  cases d with
  | str z => exact absurd rfl h
  | _ => rfl
def lenD : PyData → Nat
  | .str z => z.length
  | _ => 0
def tabD (n : Nat) (most : Int) : PyData → Bool
  | .tuple ds => tupD 1 most (.tuple ds) && ds.all (tupD (n : Int) (n : Int))
  | _ => false
def frmD (most : Int) : PyData → Bool
  | .tuple [b, l, s] => betD 2 9 b && (ltrD l && tabD (lenD l) most s)
  | _ => false
def someD : PyData → Bool
  | .none => false
  | _ => true
def wayD (many : Int) : PyData → Bool
  | .tuple ds => decide ((0 : Int) < ((ds.filter someD).length : Int)) && (ds.filter someD).all (betD 0 (many - 1))
  | _ => false
theorem lc_tupO {K : PySem.W.Frag} {a : Addr} {xs : List V} {H0 : Hp} {Qd : Hp → Prop} {B : V → Hp → (Hp → Prop) → Prop} (Pv : Nat → Hp → Prop) (h0 : Pv 0 H0) (hl : ∀ i H, Pv i H → SqT K H a xs)
    (hs : ∀ i x H, xs[i]? = some x → Pv i H → B x H (Pv (i + 1))) (hd : ∀ H, Pv xs.length H → Qd H) :
    ∃ W : Nat → Nat → Hp → Prop, (∃ m, W 0 m H0) ∧ ∀ i m H, W i m H → ((Itt K a).stop i H ∧ Qd H) ∨ ((Itt K a).go i H ∧ ∃ Nx : Hp → Prop, (∀ H', Nx H' → ∃ m', m' < m ∧ W (i + 1) m' H') ∧ ∀ x H', (Itt K a).yld i H x H' → B x H' Nx) := by
  refine ⟨fun i m H => m + i = xs.length ∧ Pv i H, ⟨xs.length, by omega, h0⟩, fun i m H h => ?_⟩
  have q := hl i H h.2
  rcases Nat.lt_or_ge i xs.length with lt | ge
  · refine .inr ⟨⟨xs, xs[i], q, List.getElem?_eq_getElem lt⟩, Pv (i + 1), fun H' p => ⟨m - 1, by omega, by omega, p⟩, fun x H' y => ?_⟩
    obtain ⟨rfl, y⟩ := y
    exact hs i x _ (y xs q) h.2
  · obtain rfl : i = xs.length := by omega
    exact .inl ⟨⟨xs, q, Nat.le_refl _⟩, hd H h.2⟩
theorem lc_lstO {K : PySem.W.Frag} {a : Addr} {xs : List V} {H0 : Hp} {Qd : Hp → Prop} {B : V → Hp → (Hp → Prop) → Prop} (Pv : Nat → Hp → Prop) (h0 : Pv 0 H0) (hl : ∀ i H, Pv i H → SqL K H a xs)
    (hs : ∀ i x H, xs[i]? = some x → Pv i H → B x H (Pv (i + 1))) (hd : ∀ H, Pv xs.length H → Qd H) :
    ∃ W : Nat → Nat → Hp → Prop, (∃ m, W 0 m H0) ∧ ∀ i m H, W i m H → ((Itl K a).stop i H ∧ Qd H) ∨ ((Itl K a).go i H ∧ ∃ Nx : Hp → Prop, (∀ H', Nx H' → ∃ m', m' < m ∧ W (i + 1) m' H') ∧ ∀ x H', (Itl K a).yld i H x H' → B x H' Nx) := by
  refine ⟨fun i m H => m + i = xs.length ∧ Pv i H, ⟨xs.length, by omega, h0⟩, fun i m H h => ?_⟩
  have q := hl i H h.2
  rcases Nat.lt_or_ge i xs.length with lt | ge
  · refine .inr ⟨⟨xs, xs[i], q, List.getElem?_eq_getElem lt⟩, Pv (i + 1), fun H' p => ⟨m - 1, by omega, by omega, p⟩, fun x H' y => ?_⟩
    obtain ⟨rfl, y⟩ := y
    exact hs i x _ (y xs q) h.2
  · obtain rfl : i = xs.length := by omega
    exact .inl ⟨⟨xs, q, Nat.le_refl _⟩, hd H h.2⟩
theorem RpAll.three {K : PySem.W.Frag} {H : Hp} {vs : List V} {ds : List PyData} (h : RpAll K H vs ds) (e : ds.length = 3) : ∃ u v y p t z, vs = [u, v, y] ∧ ds = [p, t, z] ∧ Rp K H u p ∧ Rp K H v t ∧ Rp K H y z := by
  cases h with
  | nil => cases e
  | cons h1 h =>
    obtain ⟨_, _, _, _, rfl, rfl, h2, h3⟩ := h.two (by simpa using e)
    exact ⟨_, _, _, _, _, _, rfl, rfl, h1, h2, h3⟩
theorem frmD_not {most : Int} {d : PyData} (z : ¬ tupD 3 3 d = true) : frmD most d = false := by
  unfold frmD
  split
  · exact absurd (show tupD 3 3 _ = true from rfl) z
  · rfl
theorem tabD_not {n : Nat} {most : Int} {d : PyData} (z : ¬ tupD 1 most d = true) : tabD n most d = false := by
  unfold tabD
  split
  · rw [eq_false_of_ne_true z, Bool.false_and]
  · rfl
theorem take_all {α : Type} {f : α → Bool} {ds : List α} {j : Nat} {d : α} (e : ds[j]? = some d) : (ds.take (j + 1)).map f = (ds.take j).map f ++ [f d] := by
  rw [List.take_succ, e, List.map_append]
  rfl
theorem all_map {α : Type} (f : α → Bool) (ds : List α) : (ds.map f).all id = ds.all f := by
  rw [List.all_map]
  rfl
theorem ltrD_str {d : PyData} (h : ltrD d = true) : kindOf d = "str" := by
  cases d with
  | str z => rfl
  | _ => exact absurd h (by simp [ltrD])
def someV : V → Bool
  | .non => false
  | _ => true
theorem someV_eq (x : V) : someV x = !decide (x = .non) := by
  by_cases h : x = .non
  · rw [decide_eq_true h, h]
    rfl
  · rw [decide_eq_false h]
    cases x <;> first | rfl | exact absurd rfl h
theorem some_of {K : PySem.W.Frag} {H : Hp} {x : V} {d : PyData} (h : Rp K H x d) : someV x = someD d := by
  cases h <;> rfl
theorem RpAll.some {K : PySem.W.Frag} {H : Hp} : ∀ {vs : List V} {ds : List PyData}, RpAll K H vs ds → RpAll K H (vs.filter someV) (ds.filter someD)
  | _, _, .nil => .nil
  | _, _, .cons (v := v) (d := d) h t => by
    have e := some_of h
    rw [List.filter_cons, List.filter_cons, e]
    cases someD d
    · exact t.some
    · exact .cons h t.some
def rulD : PyData → Bool
  | .tuple [l, .tuple ss] => ltrD l && (tabD (lenD l) 4 (.tuple ss) && ss.all (wayD (ss.length : Int)))
  | _ => false
def elems : PyData → List PyData
  | .tuple ds => ds
  | _ => []
def keyD : PyData → List Int
  | .tuple [.int p, .int t] => [p, t]
  | _ => []
def chD (many : Int) : PyData → Bool
  | .tuple ds => tupD 1 3 (.tuple ds) && (ds.all (pairD 20 many) && decide ((ds.map keyD).Nodup))
  | _ => false
def plnD : PyData → Bool
  | .tuple [b, l, .tuple ss] => frmD 300 (.tuple [b, l, .tuple ss]) && (ss.flatMap fun st => (elems st).map (pairD ((10 : Int) ^ (30 : Int).toNat) (ss.length : Int))).all id
  | _ => false
def mchD : PyData → Bool
  | .tuple [b, l, .tuple ss] => frmD 4 (.tuple [b, l, .tuple ss]) && (ss.flatMap fun st => (elems st).map (chD (ss.length : Int))).all id
  | _ => false
theorem ltrD_len {d : PyData} (h : ltrD d = true) : lenD d ≤ 3 := by
  cases d with
  | str z =>
    by_cases e : 1 ≤ z.length ∧ z.length ≤ 3
    · exact e.2
    · rw [ltrD, lettersL_not e] at h
      cases h
  | _ => exact absurd h (by simp [ltrD])
theorem rulD_not {d : PyData} (z : ¬ tupD 2 2 d = true) : rulD d = false := by
  unfold rulD
  split
  · exact absurd (show tupD 2 2 _ = true from rfl) z
  · rfl
theorem tabD_tup {n : Nat} {most : Int} {d : PyData} (h : tabD n most d = true) : tupD 1 most d = true ∧ ∀ e ∈ elems d, tupD (n : Int) (n : Int) e = true := by
  cases d with
  | tuple ds =>
    rw [tabD, Bool.and_eq_true, List.all_eq_true] at h
    exact h
  | _ => exact absurd h (by simp [tabD])
theorem flat_len {α β : Type} {g : α → List β} {n : Nat} : ∀ (l : List α), (∀ x ∈ l, (g x).length ≤ n) → (l.flatMap g).length ≤ n * l.length
  | [], _ => by simp
  | x :: l, h => by
    have h1 := h x (.head _)
    have h2 := flat_len l fun y hy => h y (.tail _ hy)
    rw [List.flatMap_cons, List.length_append, List.length_cons, Nat.mul_add, Nat.mul_one]
    omega
theorem take_flat {α β : Type} {g : α → List β} {l : List α} {i : Nat} {x : α} (e : l[i]? = some x) : (l.take (i + 1)).flatMap g = (l.take i).flatMap g ++ g x := by
  rw [List.take_succ, e, List.flatMap_append]
  simp
theorem frm_of {K : PySem.W.Frag} {H : Hp} {x : V} {d : PyData} {most : Int} (h : Rp K H x d) (z : frmD most d = true) : ∃ a u v c b l ss xs, x = .ref a ∧ d = .tuple [b, l, .tuple ss] ∧ SqT K H a [u, v, .ref c] ∧ SqT K H c xs ∧ RpAll K H xs ss ∧ (∀ e ∈ ss, ∃ es, e = .tuple es ∧ es.length ≤ 3) ∧ 1 ≤ ss.length ∧ (ss.length : Int) ≤ most := by
  by_cases y : tupD 3 3 d = true
  · obtain ⟨a, xs, ds, rfl, rfl, hS, hA, l1, l2⟩ := tup_of h y
    obtain ⟨u, v, t, b, l, e, rfl, rfl, hb, hl, he⟩ := hA.three (by omega)
    rw [frmD, Bool.and_eq_true, Bool.and_eq_true] at z
    have ht := tabD_tup z.2.2
    have hlen := ltrD_len z.2.1
    obtain ⟨c, ys, ss, rfl, rfl, hS2, hA2, l3, l4⟩ := tup_of he ht.1
    refine ⟨a, u, v, c, b, l, ss, ys, rfl, rfl, hS, hS2, hA2, fun e he => ?_, by omega, l4⟩
    have := ht.2 e he
    cases e with
    | tuple es =>
      rw [tupD, Bool.and_eq_true, decide_eq_true_eq, decide_eq_true_eq] at this
      exact ⟨es, rfl, by omega⟩
    | _ => exact absurd this (by simp [tupD])
  · rw [frmD_not y] at z
    cases z
theorem plnD_not {d : PyData} (z : ¬ frmD 300 d = true) : plnD d = false := by
  unfold plnD
  split
  · rw [eq_false_of_ne_true z, Bool.false_and]
  · rfl
theorem mchD_not {d : PyData} (z : ¬ frmD 4 d = true) : mchD d = false := by
  unfold mchD
  split
  · rw [eq_false_of_ne_true z, Bool.false_and]
  · rfl
theorem Rp.isTup {K : PySem.W.Frag} {H : Hp} {x : V} {es : List PyData} (h : Rp K H x (.tuple es)) : ∃ a ys, x = .ref a ∧ SqT K H a ys ∧ RpAll K H ys es := by
  cases h with
  | tup h1 h2 => exact ⟨_, _, rfl, h1, h2⟩
theorem chD_not {many : Int} {d : PyData} (z : ¬ tupD 1 3 d = true) : chD many d = false := by
  unfold chD
  split
  · rw [eq_false_of_ne_true z, Bool.false_and]
  · rfl
theorem betD_int {lo hi : Int} {d : PyData} (h : betD lo hi d = true) : ∃ i, d = .int i := by
  cases d with
  | int i => exact ⟨i, rfl⟩
  | _ => exact absurd h (by simp [betD])
theorem Rp.isInt {K : PySem.W.Frag} {H : Hp} {x : V} {i : Int} (h : Rp K H x (.int i)) : x = .int i := by
  cases h
  rfl
theorem pairs_of {K : PySem.W.Frag} {H : Hp} {most many : Int} : ∀ {vs : List V} {ds : List PyData}, RpAll K H vs ds → (∀ e ∈ ds, pairD most many e = true) →
    ∃ ks : List (Addr × List Int), vs = ks.map (fun p => V.ref p.1) ∧ (∀ p ∈ ks, SqT K H p.1 (p.2.map V.int)) ∧ ks.map (·.2) = ds.map keyD
  | _, _, .nil, _ => ⟨[], rfl, fun _ h => (nomatch h), rfl⟩
  | _, _, .cons (d := d) h t, al => by
    obtain ⟨ks, e1, e2, e3⟩ := pairs_of t fun e he => al e (.tail _ he)
    have hd := al d (.head _)
    by_cases z : tupD 2 2 d = true
    · obtain ⟨a, u, v, p, t, rfl, rfl, hS, hp, ht⟩ := h.two z
      rw [pairD, Bool.and_eq_true] at hd
      obtain ⟨i, rfl⟩ := betD_int hd.1
      obtain ⟨j, rfl⟩ := betD_int hd.2
      obtain rfl := hp.isInt
      obtain rfl := ht.isInt
      refine ⟨(a, [i, j]) :: ks, by rw [e1]; rfl, fun p hp => ?_, by rw [List.map_cons, e3]; rfl⟩
      rcases List.mem_cons.mp hp with rfl | hp
      · exact hS
      · exact e2 p hp
    · rw [pairD_not z] at hd
      cases hd
theorem len_seqK {X : Cx} {K : PySem.W.Frag} (e : X.K = K) : CallR X (.builtin "len") (fun xs H Q => ∃ p ys, xs = [.ref p] ∧ (SqL K H p ys ∨ SqT K H p ys) ∧ Q (.int ys.length) H) := by
  subst e
  exact call_len_seq
theorem pi_tupK {X : Cx} {K : PySem.W.Frag} {tg l : Expr} {tl : TE} (e : X.K = K) (h : PE X l tl) : PI X tg l (iTup K tl) := by
  subst e
  exact pi_tup h
structure LookTxt (K : PySem.W.Frag) (mg : Str → Option Value) (m1 m2 m3 m4 m6 m7 m12 : Addr) (n1 n2 n3 n4 n6 n7 n12 : FuncData) (t1 t2 : Tok) : Prop where
  type : mg "type" = none
  int : mg "int" = none
  tuple : mg "tuple" = none
  str : mg "str" = none
  len : mg "len" = none
  all : mg "all" = none
  range : mg "range" = none
  mLetters : mg "MOST_LETTERS" = some (.int 3 t1)
  mStates : mg "MOST_STATES" = some (.int 4 t2)
  FWhole : Fun K "is_whole" "is_whole" sWhole m1 n1
  bWhole : Binds K n1 ["thing"] []
  gWhole : mg "is_whole" = some (.ref m1)
  FBetween : Fun K "is_between" "is_between" sBetween m2 n2
  bBetween : Binds K n2 ["thing", "low", "high"] []
  gBetween : mg "is_between" = some (.ref m2)
  FTuple : Fun K "is_tuple" "is_tuple" sTuple m3 n3
  bTuple : Binds K n3 ["thing", "least", "most"] []
  gTuple : mg "is_tuple" = some (.ref m3)
  FLetters : Fun K "is_letters" "is_letters" sLetters m4 n4
  bLetters : Binds K n4 ["thing"] []
  gLetters : mg "is_letters" = some (.ref m4)
  FWayOn : Fun K "is_way_on" "is_way_on" sWayOn m6 n6
  bWayOn : Binds K n6 ["state", "many"] []
  gWayOn : mg "is_way_on" = some (.ref m6)
  FTable : Fun K "is_table" "is_table" sTable m7 n7
  bTable : Binds K n7 ["thing", "letters", "most"] []
  gTable : mg "is_table" = some (.ref m7)
  FRule : Fun K "is_rule" "is_rule" sRule m12 n12
  bRule : Binds K n12 ["thing"] []
  gRule : mg "is_rule" = some (.ref m12)
/-! ### the promises -/
def spWhole (K : PySem.W.Frag) : Sp := fun vs H Q _ => ∃ x d, vs = [x] ∧ Rp K H x d ∧ Q (.bl (decide (kindOf d = "int"))) H
def spBetween (K : PySem.W.Frag) : Sp := fun vs H Q _ => ∃ x d lo hi, vs = [x, .int lo, .int hi] ∧ Rp K H x d ∧ Q (.bl (betD lo hi d)) H
def spTuple (K : PySem.W.Frag) : Sp := fun vs H Q _ => ∃ x d lo hi, vs = [x, .int lo, .int hi] ∧ Rp K H x d ∧ Q (.bl (tupD lo hi d)) H
def spLetters (K : PySem.W.Frag) : Sp := fun vs H Q _ => ∃ x d, vs = [x] ∧ Rp K H x d ∧ ∀ H', Same H H' → Q (.bl (ltrD d)) H'
def spTable (K : PySem.W.Frag) : Sp := fun vs H Q _ => ∃ x d z most, vs = [x, .str z, .int most] ∧ Rp K H x d ∧ z.length ≤ sizeLine ∧ most < sizeLine ∧ ∀ H', Same H H' → Q (.bl (tabD z.length most d)) H'
def spWayOn (K : PySem.W.Frag) : Sp := fun vs H Q _ => ∃ a xs ds many, vs = [.ref a, .int many] ∧ SqT K H a xs ∧ RpAll K H xs ds ∧ ds.length ≤ 1000 ∧ ∀ H', Same H H' → Q (.bl (wayD many (.tuple ds))) H'
def spRule (K : PySem.W.Frag) : Sp := fun vs H Q _ => ∃ x d, vs = [x] ∧ Rp K H x d ∧ ∀ H', Same H H' → Q (.bl (rulD d)) H'
section
variable {P : Program} {w : World} {K : PySem.W.Frag} {mg : Str → Option Value} {base : Heap} {m1 m2 m3 m4 m6 m7 m12 : Addr} {n1 n2 n3 n4 n6 n7 n12 : FuncData} {t1 t2 : Tok}
theorem ok_whole (T : LookTxt K mg m1 m2 m3 m4 m6 m7 m12 n1 n2 n3 n4 n6 n7 n12 t1 t2) {k : Nat} : FnOk P w K mg base CX0 (k + 1) m1 n1 ["thing"] (spWhole K) := by
  refine T.FWhole.ok scWhole (fun vs H Q E h => ?_) (fun cdv A outer s H vs Q E hr h => ?_)
  · obtain ⟨x, t, rfl, _⟩ := h
    rfl
  · obtain ⟨x, d, rfl, hd, q⟩ := h
    refine ⟨_, (pss_one (ps_ret (pe_cmpR op_eqTy (pe_callTy call_type1 (by rfl) T.type (by decide +kernel) (pa_cons (pv 0) pa_nil)) (pe_bltn (v := .ty "int") (by rfl) T.int (by decide +kernel) rfl) (nomark _)))), ?_⟩
    exact ⟨_, rfl, _, _, rfl, hd.ty, _, _, rfl, rfl, tyB_ty hd.ty, TypeEq.meta_int, q⟩
theorem ok_between (T : LookTxt K mg m1 m2 m3 m4 m6 m7 m12 n1 n2 n3 n4 n6 n7 n12 t1 t2) {k : Nat} : FnOk P w K mg base CX0 (k + 2) m2 n2 ["thing", "low", "high"] (spBetween K) := by
  have GW : FnOk P w K mg base CX0 (k + 1) m1 n1 ["thing"] (spWhole K) := ok_whole T
  refine T.FBetween.ok scBetween (fun vs H Q E h => ?_) (fun cdv A outer s H vs Q E hr h => ?_)
  · obtain ⟨x, t, lo, hi, rfl, _⟩ := h
    rfl
  · obtain ⟨x, d, lo, hi, rfl, hd, q⟩ := h
    refine ⟨_, (pss_one (ps_ret (pe_and (pe_call GW hr (by rfl) T.gWhole T.FWhole.kp T.bWhole .nil pass0 (pa_cons (pv 0) pa_nil)) (pe_one (pe_chain op_le op_le (pv 1) (pv 0) (pv 2)))))), ?_⟩
    refine ⟨_, rfl, x, d, rfl, hd, _, rfl, ?_⟩
    cases hd with
    | int i =>
      refine ite2 (fun _ => ?_) (fun z => absurd (decide_eq_true rfl) z)
      refine ⟨_, rfl, _, rfl, _, _, rfl, rfl, _, rfl, ite2 (fun z => ?_) (fun z => ?_)⟩
      · refine ⟨_, rfl, _, _, rfl, rfl, ?_⟩
        rw [betD, z, Bool.true_and] at q
        exact q
      · rw [betD, eq_false_of_ne_true z, Bool.false_and] at q
        exact q
    | _ => exact ite2 (fun z => absurd (of_decide_eq_true z) (by simp [kindOf])) (fun _ => q)
theorem ok_tuple (T : LookTxt K mg m1 m2 m3 m4 m6 m7 m12 n1 n2 n3 n4 n6 n7 n12 t1 t2) {k : Nat} : FnOk P w K mg base CX0 (k + 1) m3 n3 ["thing", "least", "most"] (spTuple K) := by
  refine T.FTuple.ok scTuple (fun vs H Q E h => ?_) (fun cdv A outer s H vs Q E hr h => ?_)
  · obtain ⟨x, t, lo, hi, rfl, _⟩ := h
    rfl
  · obtain ⟨x, d, lo, hi, rfl, hd, q⟩ := h
    refine ⟨_, (pss_one (ps_ret (pe_and (pe_cmpR op_eqTy (pe_callTy call_type1 (by rfl) T.type (by decide +kernel) (pa_cons (pv 0) pa_nil)) (pe_bltn (v := .ty "tuple") (by rfl) T.tuple (by decide +kernel) rfl) (nomark _)) (pe_one (pe_chain op_le op_le (pv 1) (pe_callB call_len_seq (by rfl) T.len PySem.boot_len (pa_cons (pv 0) pa_nil)) (pv 2)))))), ?_⟩
    refine ⟨_, rfl, _, _, rfl, hd.ty, _, _, rfl, rfl, tyB_ty hd.ty, TypeEq.meta_tuple, _, rfl, ?_⟩
    cases hd with
    | @tup a xs ds h1 h2 =>
      refine ite2 (fun _ => ?_) (fun z => absurd (decide_eq_true rfl) z)
      refine ⟨_, rfl, _, rfl, a, xs, rfl, .inr h1, _, _, rfl, rfl, _, rfl, ?_⟩
      rw [h2.len]
      refine ite2 (fun z => ?_) (fun z => ?_)
      · refine ⟨_, rfl, _, _, rfl, rfl, ?_⟩
        rw [tupD, z, Bool.true_and] at q
        exact q
      · rw [tupD, eq_false_of_ne_true z, Bool.false_and] at q
        exact q
    | _ => exact ite2 (fun z => absurd (of_decide_eq_true z) (by simp [kindOf])) (fun _ => q)
theorem ok_letters (T : LookTxt K mg m1 m2 m3 m4 m6 m7 m12 n1 n2 n3 n4 n6 n7 n12 t1 t2) {k : Nat} : FnOk P w K mg base CX0 (k + 1) m4 n4 ["thing"] (spLetters K) := by
  refine T.FLetters.ok scLetters (fun vs H Q E h => ?_) (fun cdv A outer s H vs Q E hr h => ?_)
  · obtain ⟨x, t, rfl, _⟩ := h
    rfl
  · obtain ⟨x, d, rfl, hd, q⟩ := h
    refine ⟨_, (pss_cons (ps_if (PW.pt (pw_or (pt_cmpR op_neTy (pe_callTy call_type1 (by rfl) T.type (by decide +kernel) (pa_cons (pv 0) pa_nil)) (pe_bltn (v := .ty "str") (by rfl) T.str (by decide +kernel) rfl) (nomark _)) (pw_or1 (pt_not (pt_chain op_le op_le pe_int (pe_callB call_len_str (by rfl) T.len PySem.boot_len (pa_cons (pv 0) pa_nil)) (pe_glob (v := .int 3) (by rfl) T.mLetters ⟨_, rfl⟩)))))) (pss_one (ps_ret pe_bl)) pss_nil)
 (pss_cons (ps_setLc (i := 1) (own := [("at", 2)]) (g := gName 2) (tt := tYes) (by rfl) scLetters.nd rfl rfl (sw_true rfl rfl rfl (by decide +kernel)) (pi_range1 (by rfl) T.range (pa_cons (pe_op op_sub (pe_callB call_len_str (by rfl) T.len PySem.boot_len (pa_cons (pv 0) pa_nil)) pe_int) pa_nil)) (blkOk_by (N := ["thing", "ascending", "at"]) (sc := defScope sLetters) (by decide +kernel)) (fun _ _ _ _ _ => pg_name (i := 2) scLetters.nd rfl (Or.inl rfl)) (fun _ _ _ _ _ => pts_nil) (fun _ _ _ _ _ => (pe_cmpR op_lt_str (pe_ix ix_str (pv 0) (pv 2) (fun _ _ => rfl)) (pe_ix ix_str (pv 0) (pe_op op_add (pv 2) pe_int) (fun _ _ => rfl)) (nomark _))))
 (pss_one (ps_ret (pe_and (pe_callB (cr_all rfl) (by rfl) T.all (by decide +kernel) (pa_cons (pv 1) pa_nil)) (pe_and (pe_cmpR op_le_str pe_str (pe_ix ix_str (pv 0) pe_int (fun _ _ => rfl)) (nomark _)) (pe_one (pe_cmpR op_le_str (pe_ix ix_str (pv 0) (pe_un un_neg pe_int) (fun _ _ => rfl)) pe_str (nomark _))))))))), ?_⟩
    refine ⟨_, rfl, _, _, rfl, hd.ty, _, _, rfl, rfl, tyB_ty hd.ty, TypeEq.meta_str, _, rfl, ?_⟩
    by_cases hk : kindOf d = "str"
    · obtain ⟨z, rfl, rfl, hz⟩ := hd.isStr hk
      refine ite2 (fun y => absurd y (by simp [kindOf])) (fun _ => ?_)
      refine ⟨_, rfl, z, rfl, hz, _, _, rfl, rfl, _, rfl, ?_⟩
      by_cases hl : 1 ≤ z.length ∧ z.length ≤ 3
      · have e1 : (1 : Int) ≤ (z.length : Int) := by omega
        have e3 : (z.length : Int) ≤ 3 := by omega
        refine ite2 (fun _ => ?_) (fun y => absurd (decide_eq_true e1) y)
        refine ⟨_, _, rfl, rfl, _, rfl, ?_⟩
        refine ite2 (fun y => absurd y (by rw [decide_eq_true e3]; decide)) (fun _ => ?_)
        refine ⟨_, rfl, z, rfl, hz, _, _, rfl, rfl, ?_⟩
        refine ⟨_, rfl, by omega, by omega, fun D nD => ?_⟩
        have en : ((z.length : Int) - 1).toNat = z.length - 1 := by omega
        rw [en]
        have ll : z.cps.toList.length = z.length := Array.length_toList
        refine lc_range (lo := 0) (n := z.length - 1) (fun j H' => Same H H' ∧ H' D = some (.lst (((List.range j).map fun i => decide (z.cps.toList.getD i 0 < z.cps.toList.getD (i + 1) 0)).map V.bl))) ⟨same_upd nD, upd_same⟩ ?_ ?_
        · rintro j H' hj ⟨sm, hD⟩
          have a1 := nat_at (l := z.cps.toList) (j := j) (by omega)
          have a2 := nat_at (l := z.cps.toList) (j := j + 1) (by omega)
          refine ⟨rfl, ?_⟩
          refine ⟨_, rfl, _, rfl, z, _, _, rfl, rfl, hz, (by rw [Int.zero_add]; exact atI_nat a1), ?_⟩
          refine ⟨_, rfl, _, rfl, _, _, rfl, rfl, z, _, _, rfl, rfl, hz, (by rw [show (0 + (j : Int)) + 1 = ((j + 1 : Nat) : Int) by omega]; exact atI_nat a2), ?_⟩
          refine ⟨_, _, rfl, rfl, _, hD, ?_, same_new sm nD, ?_⟩
          · rw [List.length_map, List.length_map, List.length_range]
            exact Nat.lt_of_lt_of_le (show j < 3 by omega) (by decide)
          · rw [upd_same, List.range_succ, List.map_append, List.map_append]
            show some (HO.lst (_ ++ [V.bl (decide ([z.cps.toList.getD j 0] < [z.cps.toList.getD (j + 1) 0]))])) = _
            rw [one_lt]
            rfl
        · rintro H' ⟨sm, hD⟩
          have a1 := nat_at (l := z.cps.toList) (j := 0) (by omega)
          have a2 := nat_at (l := z.cps.toList) (j := z.cps.toList.length - 1) (by omega)
          have q1 := q H' sm
          rw [ltrD, letters_eq (by rw [ll]; exact hl), ll] at q1
          refine ⟨_, rfl, D, _, rfl, SqL.of hD, _, rfl, ite2 (fun y => ?_) (fun y => ?_)⟩
          · rw [y, Bool.true_and] at q1
            refine ⟨_, rfl, z, 0, _, rfl, rfl, hz, atI_nat (j := 0) a1, _, _, rfl, rfl, _, rfl, ite2 (fun u => ?_) (fun u => ?_)⟩
            · refine ⟨_, rfl, _, rfl, z, _, _, rfl, rfl, hz, (atI_last (by omega)).trans a2, _, _, rfl, rfl, ?_⟩
              rw [show (!decide ([z.cps.toList.getD 0 0] < [97])) = true from u, Bool.true_and] at q1
              rw [ll]
              exact q1
            · rw [show (!decide ([z.cps.toList.getD 0 0] < [97])) = false from eq_false_of_ne_true u, Bool.false_and] at q1
              exact q1
          · rw [eq_false_of_ne_true y, Bool.false_and] at q1
            exact q1
      · have q0 := q H (Same.refl H)
        rw [ltrD, lettersL_not hl] at q0
        refine ite2 (fun y => ?_) (fun y => ?_)
        · refine ⟨_, _, rfl, rfl, _, rfl, ?_⟩
          refine ite2 (fun _ => q0) (fun z3 => absurd ?_ z3)
          have y1 := of_decide_eq_true y
          rw [decide_eq_false (by omega)]
          rfl
        · exact ⟨_, rfl, ite2 (fun _ => q0) (fun u => absurd rfl u)⟩
    · refine ite2 (fun _ => ?_) (fun y => absurd (by rw [decide_eq_false hk]; rfl) y)
      have q0 := q H (Same.refl H)
      rw [ltrD_not hk] at q0
      exact q0
theorem ok_table (T : LookTxt K mg m1 m2 m3 m4 m6 m7 m12 n1 n2 n3 n4 n6 n7 n12 t1 t2) {k : Nat} : FnOk P w K mg base CX0 (k + 2) m7 n7 ["thing", "letters", "most"] (spTable K) := by
  have GT : FnOk P w K mg base CX0 (k + 1) m3 n3 ["thing", "least", "most"] (spTuple K) := ok_tuple T
  refine T.FTable.ok scTable (fun vs H Q E h => ?_) (fun cdv A outer s H vs Q E hr h => ?_)
  · obtain ⟨x, d, z, most, rfl, _⟩ := h
    rfl
  · obtain ⟨x, d, z, most, rfl, hd, hz, hm, q⟩ := h
    refine ⟨_, (pss_cons (ps_if (pt_not (pt_val (pe_call GT hr (by rfl) T.gTuple T.FTuple.kp T.bTuple .nil pass0 (pa_cons (pv 0) (pa_cons pe_int (pa_cons (pv 2) pa_nil)))))) (pss_one (ps_ret pe_bl)) pss_nil)
 (pss_one (ps_ret (pe_callB (cr_all rfl) (by rfl) T.all (by decide +kernel) (pa_cons (pe_lc (own := [("state", 3)]) (g := gName 3) (tt := tYes) (by rfl) scTable.nd (pi_tup (pv 0)) (blkOk_by (N := ["thing", "letters", "most", "state"]) (sc := defScope sTable) (by decide +kernel)) (fun _ _ _ _ _ => pg_name (i := 3) scTable.nd rfl (Or.inl rfl)) (fun _ _ _ _ _ => pts_nil) (fun _ _ _ _ _ => (pe_call GT hr (by rfl) T.gTuple T.FTuple.kp T.bTuple .nil pass0 (pa_cons (pv 3) (pa_cons (pe_callB call_len_str (by rfl) T.len PySem.boot_len (pa_cons (pv 1) pa_nil)) (pa_cons (pe_callB call_len_str (by rfl) T.len PySem.boot_len (pa_cons (pv 1) pa_nil)) pa_nil)))))) pa_nil))))), ?_⟩
    refine ⟨_, rfl, _, rfl, x, d, 1, most, rfl, hd, ?_⟩
    by_cases y : tupD 1 most d = true
    · obtain ⟨a, xs, ds, rfl, rfl, hS, hA, l1, l2⟩ := tup_of hd y
      refine ⟨_, rfl, ite2 (fun u => absurd u (by rw [y]; decide)) (fun _ => ?_)⟩
      refine ⟨_, rfl, a, rfl, ⟨xs, hS⟩, fun D nD => ?_⟩
      refine lc_tupO (xs := xs) (fun j H' => Same H H' ∧ H' D = some (.lst (((ds.take j).map (tupD (z.length : Int) (z.length : Int))).map V.bl))) ⟨same_upd nD, upd_same⟩ (fun i H' h => same_tup h.1 hS) ?_ ?_
      · rintro i u H' hu ⟨sm, hD⟩
        obtain ⟨e, he, re⟩ := hA.at hu
        refine ⟨rfl, ?_⟩
        refine ⟨_, rfl, _, rfl, z, rfl, hz, _, rfl, z, rfl, hz, u, e, _, _, rfl, re.go sm, _, hD, ?_, same_new sm nD, ?_⟩
        · rw [List.length_map, List.length_map]
          have := List.length_take_le' i ds
          omega
        · rw [upd_same, take_all he, List.map_append]
          rfl
      · rintro H' ⟨sm, hD⟩
        have q1 := q H' sm
        refine ⟨D, _, rfl, SqL.of hD, ?_⟩
        rw [hA.len, List.take_length, all_map]
        rw [tabD, y, Bool.true_and] at q1
        exact q1
    · refine ⟨_, rfl, ite2 (fun _ => ?_) (fun u => absurd (by rw [eq_false_of_ne_true y]; rfl) u)⟩
      have q1 := q H (Same.refl H)
      rw [tabD_not y] at q1
      exact q1
theorem ok_wayOn (T : LookTxt K mg m1 m2 m3 m4 m6 m7 m12 n1 n2 n3 n4 n6 n7 n12 t1 t2) {k : Nat} : FnOk P w K mg base CX0 (k + 3) m6 n6 ["state", "many"] (spWayOn K) := by
  have GB : FnOk P w K mg base CX0 (k + 2) m2 n2 ["thing", "low", "high"] (spBetween K) := ok_between T
  refine T.FWayOn.ok scWayOn (fun vs H Q E h => ?_) (fun cdv A outer s H vs Q E hr h => ?_)
  · obtain ⟨a, xs, ds, many, rfl, _⟩ := h
    rfl
  · obtain ⟨a, xs, ds, many, rfl, hS, hA, hl, q⟩ := h
    refine ⟨_, (pss_cons (ps_setLc (i := 2) (own := [("target", 3)]) (g := gName 3) (by rfl) scWayOn.nd rfl rfl (sw_true rfl rfl rfl (by decide +kernel)) (pi_tup (pv 0)) (blkOk_by (N := ["state", "many", "targets", "target"]) (sc := defScope sWayOn) (by decide +kernel)) (fun _ _ _ _ _ => pg_name (i := 3) scWayOn.nd rfl (Or.inl rfl)) (fun _ _ _ _ _ => (pts_one (pt_cmpR op_notN (pv 3) pe_non (nomark _)))) (fun _ _ _ _ _ => (pv 3)))
 (pss_one (ps_ret (pe_and (pe_cmpR op_gt (pe_callB call_len_seq (by rfl) T.len PySem.boot_len (pa_cons (pv 2) pa_nil)) pe_int (nomark _)) (pe_one (pe_callB (cr_all rfl) (by rfl) T.all (by decide +kernel) (pa_cons (pe_lc (own := [("target", 3)]) (g := gName 3) (tt := tYes) (by rfl) scWayOn.nd (pi_list (pv 2)) (blkOk_by (N := ["state", "many", "targets", "target"]) (sc := defScope sWayOn) (by decide +kernel)) (fun _ _ _ _ _ => pg_name (i := 3) scWayOn.nd rfl (Or.inl rfl)) (fun _ _ _ _ _ => pts_nil) (fun _ _ _ _ _ => (pe_call GB hr (by rfl) T.gBetween T.FBetween.kp T.bBetween .nil pass0 (pa_cons (pv 3) (pa_cons pe_int (pa_cons (pe_op op_sub (pv 1) pe_int) pa_nil)))))) pa_nil))))))), ?_⟩
    refine ⟨_, rfl, a, rfl, ⟨xs, hS⟩, fun D nD => ?_⟩
    refine lc_tupO (xs := xs) (fun j H' => Same H H' ∧ H' D = some (.lst ((xs.take j).filter someV))) ⟨same_upd nD, upd_same⟩ (fun i H' h => same_tup h.1 hS) ?_ ?_
    · rintro i u H' hu ⟨sm, hD⟩
      refine ⟨rfl, ?_⟩
      refine ⟨_, rfl, rfl, _, rfl, ite2 (fun z => ?_) (fun z => ?_)⟩
      · refine ⟨_, rfl, _, hD, ?_, same_new sm nD, ?_⟩
        · have h1 := List.length_filter_le someV (xs.take i)
          have h2 := List.length_take_le' i xs
          have h3 := hA.len
          exact Nat.lt_of_le_of_lt (show _ ≤ 1000 by omega) (by decide)
        · rw [upd_same, List.take_succ, hu, List.filter_append]
          show _ = some (HO.lst (_ ++ [u].filter someV))
          rw [List.filter_cons, someV_eq, z]
          rfl
      · refine ⟨sm, ?_⟩
        rw [hD, List.take_succ, hu, List.filter_append]
        show _ = some (HO.lst (_ ++ [u].filter someV))
        rw [List.filter_cons, someV_eq, eq_false_of_ne_true z]
        simp
    · rintro H' ⟨sm, hD⟩
      rw [List.take_length] at hD
      have hF := hA.some
      have hl2 : (ds.filter someD).length ≤ 1000 := Nat.le_trans (List.length_filter_le _ _) hl
      refine ⟨_, rfl, D, _, rfl, .inl (SqL.of hD), _, _, rfl, rfl, _, rfl, ?_⟩
      rw [hF.len]
      refine ite2 (fun z => ?_) (fun z => ?_)
      · refine ⟨_, rfl, D, rfl, ⟨_, SqL.of hD⟩, fun D2 nD2 => ?_⟩
        refine lc_lstO (xs := xs.filter someV) (fun j H2 => Same H' H2 ∧ H2 D2 = some (.lst ((((ds.filter someD).take j).map (betD 0 (many - 1))).map V.bl))) ⟨same_upd nD2, upd_same⟩ (fun i H2 h => h.1.seq (SqL.of hD)) ?_ ?_
        · rintro i u H2 hu ⟨s2, hD2⟩
          obtain ⟨e, he, re⟩ := hF.at hu
          refine ⟨rfl, ?_⟩
          refine ⟨_, rfl, _, rfl, _, _, rfl, rfl, u, e, _, _, rfl, re.go (sm.trans s2), _, hD2, ?_, same_new s2 nD2, ?_⟩
          · rw [List.length_map, List.length_map]
            have := List.length_take_le' i (ds.filter someD)
            exact Nat.lt_of_le_of_lt (show _ ≤ 1000 by omega) (by decide)
          · rw [upd_same, take_all he, List.map_append]
            rfl
        · rintro H2 ⟨s2, hD2⟩
          have q1 := q H2 (sm.trans s2)
          refine ⟨D2, _, rfl, SqL.of hD2, ?_⟩
          rw [hF.len, List.take_length, all_map]
          rw [wayD, z, Bool.true_and] at q1
          exact q1
      · have q1 := q H' sm
        rw [wayD, eq_false_of_ne_true z, Bool.false_and] at q1
        exact q1
theorem ok_rule (T : LookTxt K mg m1 m2 m3 m4 m6 m7 m12 n1 n2 n3 n4 n6 n7 n12 t1 t2) {k : Nat} : FnOk P w K mg base CX0 (k + 4) m12 n12 ["thing"] (spRule K) := by
  have GT : FnOk P w K mg base CX0 (k + 3) m3 n3 ["thing", "least", "most"] (spTuple K) := ok_tuple T
  have GL : FnOk P w K mg base CX0 (k + 3) m4 n4 ["thing"] (spLetters K) := ok_letters T
  have GA : FnOk P w K mg base CX0 (k + 3) m7 n7 ["thing", "letters", "most"] (spTable K) := ok_table T
  have GW : FnOk P w K mg base CX0 (k + 3) m6 n6 ["state", "many"] (spWayOn K) := ok_wayOn T
  refine T.FRule.ok scRule (fun vs H Q E h => ?_) (fun cdv A outer s H vs Q E hr h => ?_)
  · obtain ⟨x, d, rfl, _⟩ := h
    rfl
  · obtain ⟨x, d, rfl, hd, q⟩ := h
    refine ⟨_, (pss_cons (ps_if (pt_not (pt_val (pe_call GT hr (by rfl) T.gTuple T.FTuple.kp T.bTuple .nil pass0 (pa_cons (pv 0) (pa_cons pe_int (pa_cons pe_int pa_nil)))))) (pss_one (ps_ret pe_bl)) pss_nil)
 (pss_cons (ps_asg (pv 0) (pg_tup rfl (pgs_cons (pg_name (i := 1) scRule.nd rfl (.inl rfl)) (pgs_cons (pg_name (i := 2) scRule.nd rfl (.inr rfl)) pgs_nil))))
 (pss_cons (ps_if (PW.pt (pw_or (pt_not (pt_val (pe_call GL hr (by rfl) T.gLetters T.FLetters.kp T.bLetters .nil pass0 (pa_cons (pv 1) pa_nil)))) (pw_or1 (pt_not (pt_val (pe_call GA hr (by rfl) T.gTable T.FTable.kp T.bTable .nil pass0 (pa_cons (pv 2) (pa_cons (pv 1) (pa_cons (pe_glob (v := .int 4) (by rfl) T.mStates ⟨_, rfl⟩) pa_nil))))))))) (pss_one (ps_ret pe_bl)) pss_nil)
 (pss_one (ps_ret (pe_callB (cr_all rfl) (by rfl) T.all (by decide +kernel) (pa_cons (pe_lc (own := [("state", 3)]) (g := gName 3) (tt := tYes) (by rfl) scRule.nd (pi_tup (pv 2)) (blkOk_by (N := ["thing", "letters", "states", "state"]) (sc := defScope sRule) (by decide +kernel)) (fun _ _ _ _ _ => pg_name (i := 3) scRule.nd rfl (Or.inl rfl)) (fun _ _ _ _ _ => pts_nil) (fun _ _ _ _ _ => (pe_call GW hr (by rfl) T.gWayOn T.FWayOn.kp T.bWayOn .nil pass0 (pa_cons (pv 3) (pa_cons (pe_callB (len_seqK (K := K) rfl) (by rfl) T.len PySem.boot_len (pa_cons (pv 2) pa_nil)) pa_nil))))) pa_nil))))))), ?_⟩
    refine ⟨_, rfl, x, d, 2, 2, rfl, hd, ?_⟩
    by_cases y : tupD 2 2 d = true
    · obtain ⟨a, u, v, l, st, rfl, rfl, hS, hl, hst⟩ := hd.two y
      refine ⟨_, rfl, ite2 (fun u => absurd u (by rw [y]; decide)) (fun _ => ?_)⟩
      refine ⟨_, rfl, a, _, rfl, hS, rfl, u, [v], rfl, v, [], rfl, rfl, ?_⟩
      have bad : ∀ H', Same H H' → (ltrD l && tabD (lenD l) 4 st) = false → Q (.bl false) H' := fun H' s' e => by
        have q1 := q H' s'
        have : rulD (.tuple [l, st]) = false := by
          cases st with
          | tuple ss => rw [rulD, ← Bool.and_assoc, e, Bool.false_and]
          | _ => rfl
        rw [this] at q1
        exact q1
      refine ⟨_, rfl, u, l, rfl, hl, fun H1 s1 => ⟨_, rfl, ?_⟩⟩
      by_cases zl : ltrD l = true
      · obtain ⟨w1, rfl, rfl, hw⟩ := hl.isStr (ltrD_str zl)
        refine ite2 (fun u => absurd u (by rw [zl]; decide)) (fun _ => ?_)
        refine ⟨_, rfl, _, rfl, v, st, w1, 4, rfl, hst.go s1, hw, (by decide), fun H2 s2 => ⟨_, rfl, ?_⟩⟩
        by_cases zt : tabD w1.length 4 st = true
        · refine ite2 (fun u => absurd u (by rw [zt]; decide)) (fun _ => ?_)
          have ht := tabD_tup zt
          obtain ⟨b, xs, ds, rfl, rfl, hS2, hA, l1, l2⟩ := tup_of hst ht.1
          have s12 := s1.trans s2
          refine ⟨_, rfl, b, rfl, ⟨xs, same_tup s12 hS2⟩, fun D nD => ?_⟩
          refine lc_tupO (xs := xs) (fun j H' => Same H2 H' ∧ H' D = some (.lst (((ds.take j).map (wayD (ds.length : Int))).map V.bl))) ⟨same_upd nD, upd_same⟩ (fun i H' h => same_tup (s12.trans h.1) hS2) ?_ ?_
          · rintro i u H' hu ⟨sm, hD⟩
            obtain ⟨e, he, re⟩ := hA.at hu
            obtain ⟨a2, ys, es, rfl, rfl, hS3, hA3, l3, l4⟩ := tup_of re (ht.2 e (List.mem_of_getElem? he))
            have lw := ltrD_len zl
            have s13 := s12.trans sm
            refine ⟨rfl, ?_⟩
            refine ⟨_, rfl, _, rfl, b, xs, rfl, .inr (same_tup s13 hS2), a2, ys, es, _, rfl, same_tup s13 hS3, ?_, ?_, fun H3 s3 => ?_⟩
            · exact hA3.go s13
            · have l5 : w1.length ≤ 3 := lw
              omega
            · refine ⟨_, s3 _ _ hD, ?_, same_new (sm.trans s3) nD, ?_⟩
              · rw [List.length_map, List.length_map]
                have := List.length_take_le' i ds
                exact Nat.lt_of_le_of_lt (show _ ≤ 1000 by omega) (by decide)
              · rw [upd_same, take_all he, List.map_append, hA.len]
                rfl
          · rintro H' ⟨sm, hD⟩
            have q1 := q H' (s12.trans sm)
            refine ⟨D, _, rfl, SqL.of hD, ?_⟩
            rw [hA.len, List.take_length, all_map]
            rw [rulD, show lenD (.str w1) = w1.length from rfl, zl, zt, Bool.true_and, Bool.true_and] at q1
            exact q1
        · refine ite2 (fun _ => ?_) (fun u => absurd (by rw [eq_false_of_ne_true zt]; rfl) u)
          exact bad H2 (s1.trans s2) (by rw [show lenD (.str w1) = w1.length from rfl, eq_false_of_ne_true zt, Bool.and_false])
      · refine ite2 (fun _ => ?_) (fun u => absurd (by rw [eq_false_of_ne_true zl]; rfl) u)
        exact bad H1 s1 (by rw [eq_false_of_ne_true zl, Bool.false_and])
    · refine ⟨_, rfl, ite2 (fun _ => ?_) (fun u => absurd (by rw [eq_false_of_ne_true y]; rfl) u)⟩
      have q1 := q H (Same.refl H)
      rw [rulD_not y] at q1
      exact q1
end
end My
/-! ### free_rule -/
namespace My
open PySem PySem.Spec PyProof.Rows L2
abbrev sFreeRule : Stmt := topS 21
theorem scFreeRule : FnScope ["letters", "_"] ["letters"] (defScope sFreeRule) := ⟨rfl, rfl, rfl, by decide +kernel, rfl, by decide +kernel, by decide +kernel⟩
/-- an own class of errors over ValueError, without an __init__ -/
structure ExcF (K : PySem.W.Frag) (mg : Str → Option Value) (x : Str) (C : Addr) : Prop where
  g : mg x = some (.ref C)
  q : PySem.W.excIn K C [.type "ValueError", .type "Exception", .type "BaseException", .type "object"] "ValueError.__new__" = true
  k : PySem.W.keepIn K (.ref C) = true
  b : PySem.W.subIn K (.ref C) (.type "BaseException") = some true
  t : PySem.W.typeIn K (.ref C) = some (.type "type")
structure FreeTxt (K : PySem.W.Frag) (mg : Str → Option Value) (m1 m2 m3 m4 m6 m7 m12 : Addr) (n1 n2 n3 n4 n6 n7 n12 : FuncData) (t1 t2 : Tok) (CN r1 : Addr) (v1 : FuncData) : Prop where
  look : LookTxt K mg m1 m2 m3 m4 m6 m7 m12 n1 n2 n3 n4 n6 n7 n12 t1 t2
  noLetters : ExcF K mg "NoLetters" CN
  FFreeRule : Fun K "free_rule" "free_rule" sFreeRule r1 v1
  bFreeRule : Binds K v1 ["letters"] []
  gFreeRule : mg "free_rule" = some (.ref r1)
/-- the rule that lets all letters by, told anew -/
def FreeAt (H : Hp) (t : Addr) (z : Str) : Prop := ∃ b c, H t = some (.tup [.str z, .ref b]) ∧ H b = some (.tup [.ref c]) ∧ H c = some (.tup (List.replicate z.length (.int 0)))
def spFree (K : PySem.W.Frag) (CN : Addr) : Sp := fun vs H Q E => ∃ x d, vs = [x] ∧ Rp K H x d ∧ ((∃ z, d = .str z ∧ ltrD d = true ∧ ∀ H' t, Same H H' → H t = none → FreeAt H' t z → Q (.ref t) H') ∨ (ltrD d = false ∧ ∀ H', Same H H' → E (.ref CN) none H'))
section
variable {P : Program} {w : World} {K : PySem.W.Frag} {mg : Str → Option Value} {base : Heap} {m1 m2 m3 m4 m6 m7 m12 : Addr} {n1 n2 n3 n4 n6 n7 n12 : FuncData} {t1 t2 : Tok} {CN r1 : Addr} {v1 : FuncData}
theorem ok_free (T : FreeTxt K mg m1 m2 m3 m4 m6 m7 m12 n1 n2 n3 n4 n6 n7 n12 t1 t2 CN r1 v1) {k : Nat} : FnOk P w K mg base (L2.CX P w) (k + 2) r1 v1 ["letters"] (spFree K CN) := by
  have GL : FnOk P w K mg base CX0 (k + 1) m4 n4 ["thing"] (spLetters K) := ok_letters T.look
  refine T.FFreeRule.okX scFreeRule (fun vs H Q E h => ?_) (fun cdv A outer s H vs Q E hr h => ?_)
  · obtain ⟨x, d, rfl, _⟩ := h
    rfl
  · obtain ⟨x, d, rfl, hd, h⟩ := h
    refine ⟨_, (pss_cons (ps_if (pt_not (pt_val (pe_call GL hr (by rfl) T.look.gLetters T.look.FLetters.kp T.look.bLetters .nil pass0 (pa_cons (pv 0) pa_nil)))) (pss_one (ps_raise rfl (takes_of rfl rfl rfl rfl) (SkE.pmk_own1 PySem.F.excBase_ValueError T.noLetters.q T.noLetters.g T.noLetters.k (raises_own T.noLetters.b T.noLetters.t) (by exact rfl) pe_str))) pss_nil)
 (pss_one (ps_ret (pe_tup (pa_cons (pv 0) (pa_cons (pe_tup (pa_cons (pe_callTy call_tuple_of (by rfl) T.look.tuple (by decide +kernel) (pa_cons (pe_lc (own := [("_", 1)]) (g := gName 1) (tt := tYes) (by rfl) scFreeRule.nd (pi_str (pv 0)) (blkOk_by (N := ["letters", "_"]) (sc := defScope sFreeRule) (by decide +kernel)) (fun _ _ _ _ _ => pg_name (i := 1) scFreeRule.nd rfl (Or.inl rfl)) (fun _ _ _ _ _ => pts_nil) (fun _ _ _ _ _ => pe_int)) pa_nil)) pa_nil)) pa_nil)))))), ?_⟩
    refine ⟨_, rfl, x, d, rfl, hd, fun H1 s1 => ⟨_, rfl, ?_⟩⟩
    rcases h with ⟨z, rfl, zl, q⟩ | ⟨zl, q⟩
    · obtain ⟨_, rfl, e, hz⟩ := hd.isStr rfl
      cases e
      have l3 : z.length ≤ 3 := ltrD_len zl
      refine ite2 (fun u => absurd u (by rw [zl]; decide)) (fun _ => ?_)
      refine ⟨_, rfl, _, rfl, z, rfl, fun D nD => ?_⟩
      refine lc_it walk_str (fun j H' => Same H1 H' ∧ H' D = some (.lst (List.replicate j (V.int 0)))) ⟨same_upd nD, upd_same⟩ (fun _ _ _ _ => trivial) ?_ ?_
      · rintro j u H' H2 hj ⟨sm, hD⟩ ⟨rfl, c, hc, rfl⟩
        refine ⟨rfl, ?_⟩
        refine ⟨_, hD, ?_, same_new sm nD, ?_⟩
        · rw [List.length_replicate]
          exact Nat.lt_of_lt_of_le (show j < 3 from Nat.lt_of_lt_of_le hj l3) (by decide)
        · rw [upd_same, List.replicate_succ']
      · rintro H' ⟨sm, hD⟩
        refine ⟨D, _, rfl, .inl ⟨SqL.of hD, fun c hc => ⟨(by show 1 ≤ sizeLine; decide), fun b hb => ⟨(by show 2 ≤ sizeLine; decide), fun t ht => ?_⟩⟩⟩⟩
        have x1 := same_upd (o := HO.tup (List.replicate z.cps.size (V.int 0))) hc
        have x2 := same_upd (o := HO.tup [V.ref c]) hb
        have x3 := same_upd (o := HO.tup [V.str z, V.ref b]) ht
        have sa := (s1.trans sm).trans (x1.trans x2)
        exact q _ t (sa.trans x3) (sa.free ht) ⟨b, c, upd_same, x3 _ _ upd_same, x3 _ _ (x2 _ _ upd_same)⟩
    · refine ite2 (fun _ => ?_) (fun u => absurd (by rw [zl]; rfl) u)
      exact q H1 s1
end
end My
/-! ### is_text -/
namespace My
open PySem PySem.Spec PyProof.Rows L2
abbrev sText : Stmt := topS 25
theorem scText : FnScope ["thing", "letters", "letter"] ["thing", "letters"] (defScope sText) := ⟨rfl, rfl, rfl, by decide +kernel, rfl, by decide +kernel, by decide +kernel⟩
def txtD (L : List Nat) : PyData → Bool
  | .str z => decide ((z.length : Int) ≤ 1500) && z.cps.toList.all fun c => decide (c ∈ L)
  | _ => false
structure TextTxt (K : PySem.W.Frag) (mg : Str → Option Value) (m1 m2 m3 m4 m6 m7 m12 : Addr) (n1 n2 n3 n4 n6 n7 n12 : FuncData) (t1 t2 : Tok) (r2 : Addr) (v2 : FuncData) (t6 : Tok) : Prop where
  look : LookTxt K mg m1 m2 m3 m4 m6 m7 m12 n1 n2 n3 n4 n6 n7 n12 t1 t2
  mLong : mg "LONGEST" = some (.int 1500 t6)
  FText : Fun K "is_text" "is_text" sText r2 v2
  bText : Binds K v2 ["thing", "letters"] []
  gText : mg "is_text" = some (.ref r2)
def spText (K : PySem.W.Frag) : Sp := fun vs H Q _ => ∃ x d z, vs = [x, .str z] ∧ Rp K H x d ∧ ∀ H', Same H H' → Q (.bl (txtD z.cps.toList d)) H'
theorem txtD_not {L : List Nat} {d : PyData} (h : ¬ kindOf d = "str") : txtD L d = false := by
  cases d with
  | str z => exact absurd rfl h
  | _ => rfl
theorem take_allN {l : List Nat} {f : Nat → Bool} {j c : Nat} (e : l[j]? = some c) : (l.take (j + 1)).map f = (l.take j).map f ++ [f c] := by
  rw [List.take_succ, e, List.map_append]
  rfl
section
variable {P : Program} {w : World} {K : PySem.W.Frag} {mg : Str → Option Value} {base : Heap} {m1 m2 m3 m4 m6 m7 m12 : Addr} {n1 n2 n3 n4 n6 n7 n12 : FuncData} {t1 t2 t6 : Tok} {r2 : Addr} {v2 : FuncData}
theorem ok_text (T : TextTxt K mg m1 m2 m3 m4 m6 m7 m12 n1 n2 n3 n4 n6 n7 n12 t1 t2 r2 v2 t6) {k : Nat} : FnOk P w K mg base CX0 (k + 1) r2 v2 ["thing", "letters"] (spText K) := by
  refine T.FText.ok scText (fun vs H Q E h => ?_) (fun cdv A outer s H vs Q E hr h => ?_)
  · obtain ⟨x, d, z, rfl, _⟩ := h
    rfl
  · obtain ⟨x, d, zl, rfl, hd, q⟩ := h
    refine ⟨_, (pss_cons (ps_if (PW.pt (pw_or (pt_cmpR op_neTy (pe_callTy call_type1 (by rfl) T.look.type (by decide +kernel) (pa_cons (pv 0) pa_nil)) (pe_bltn (v := .ty "str") (by rfl) T.look.str (by decide +kernel) rfl) (nomark _)) (pw_or1 (pt_cmpR op_gt (pe_callB call_len_str (by rfl) T.look.len PySem.boot_len (pa_cons (pv 0) pa_nil)) (pe_glob (v := .int 1500) (by rfl) T.mLong ⟨_, rfl⟩) (nomark _))))) (pss_one (ps_ret pe_bl)) pss_nil)
 (pss_one (ps_ret (pe_callB (cr_all rfl) (by rfl) T.look.all (by decide +kernel) (pa_cons (pe_lc (own := [("letter", 2)]) (g := gName 2) (tt := tYes) (by rfl) scText.nd (pi_str (pv 0)) (blkOk_by (N := ["thing", "letters", "letter"]) (sc := defScope sText) (by decide +kernel)) (fun _ _ _ _ _ => pg_name (i := 2) scText.nd rfl (Or.inl rfl)) (fun _ _ _ _ _ => pts_nil) (fun _ _ _ _ _ => (pe_cmpR op_in_sign (pv 2) (pv 1) (by rfl)))) pa_nil))))), ?_⟩
    refine ⟨_, rfl, _, _, rfl, hd.ty, _, _, rfl, rfl, tyB_ty hd.ty, TypeEq.meta_str, _, rfl, ?_⟩
    by_cases hk : kindOf d = "str"
    · obtain ⟨z, rfl, rfl, hz⟩ := hd.isStr hk
      refine ite2 (fun y => absurd y (by simp [kindOf])) (fun _ => ?_)
      refine ⟨_, rfl, z, rfl, hz, _, _, rfl, rfl, _, rfl, ?_⟩
      by_cases hl : (z.length : Int) ≤ 1500
      · refine ite2 (fun y => absurd (of_decide_eq_true y) (by omega)) (fun _ => ?_)
        have ll : z.cps.toList.length = z.cps.size := Array.length_toList
        have hl2 : z.cps.size ≤ 1500 := by
          have : z.length = z.cps.size := rfl
          omega
        refine ⟨_, rfl, z, rfl, fun D nD => ?_⟩
        refine lc_it walk_str (fun j H' => Same H H' ∧ H' D = some (.lst (((z.cps.toList.take j).map fun c => decide (c ∈ zl.cps.toList)).map V.bl))) ⟨same_upd nD, upd_same⟩ (fun _ _ _ _ => trivial) ?_ ?_
        · rintro j u H' H2 hj ⟨sm, hD⟩ ⟨rfl, c, hc, rfl⟩
          have hc2 : z.cps.toList[j]? = some c := by rw [Array.getElem?_toList]; exact hc
          refine ⟨rfl, ?_⟩
          refine ⟨_, rfl, _, rfl, c, zl, rfl, rfl, _, hD, ?_, same_new sm nD, ?_⟩
          · rw [List.length_map, List.length_map]
            have := List.length_take_le' j z.cps.toList
            exact Nat.lt_of_le_of_lt (show _ ≤ 1500 by omega) (by decide)
          · rw [upd_same, take_allN hc2, List.map_append]
            rfl
        · rintro H' ⟨sm, hD⟩
          have q1 := q H' sm
          refine ⟨D, _, rfl, SqL.of hD, ?_⟩
          rw [← ll, List.take_length]
          rw [txtD, decide_eq_true hl, Bool.true_and] at q1
          rw [List.all_map]
          exact q1
      · refine ite2 (fun _ => ?_) (fun y => absurd (decide_eq_true (by omega)) y)
        have q1 := q H (Same.refl H)
        rw [txtD, decide_eq_false hl, Bool.false_and] at q1
        exact q1
    · refine ite2 (fun _ => ?_) (fun y => absurd (by rw [decide_eq_false hk]; rfl) y)
      have q0 := q H (Same.refl H)
      rw [txtD_not hk] at q0
      exact q0
end
end My
/-! ### state_after -/
namespace My
open PySem PySem.Spec PyProof.Rows L2 PySem.Builtin.Str
abbrev sAfter : Stmt := topS 23
theorem scAfter : FnScope ["rule", "state", "word", "letters", "states", "letter"] ["rule", "state", "word"] (defScope sAfter) := ⟨rfl, rfl, rfl, by decide +kernel, rfl, by decide +kernel, by decide +kernel⟩
theorem occ_idx {z : Str} {c : Nat} (h : lettersL z.cps.toList = true) (hc : c ∈ z.cps.toList) : occurrences z ⟨#[c]⟩ 0 z.length 1 = [z.cps.toList.idxOf c] := by
  obtain ⟨⟨l⟩⟩ := z
  rw [PySem.StrLaws.occ_eq]
  match l, h, hc with
  | [a], h, hc =>
    obtain rfl : c = a := by simpa using hc
    simp [List.range', PySem.StrLaws.occBody, subAt, Str.length]
  | [a, b], h, hc =>
    simp [lettersL] at h
    have h1 : a ≠ b := by omega
    have b1 := beq_false_of_ne h1
    rcases (show c = a ∨ c = b by simpa using hc) with rfl | rfl
    · simp [List.range', PySem.StrLaws.occBody, subAt, Str.length]
    · simp [List.range', PySem.StrLaws.occBody, subAt, Str.length, h1, b1, List.idxOf_cons]
  | [a, b, d], h, hc =>
    simp [lettersL] at h
    have h1 : a ≠ b := by omega
    have h2 : b ≠ d := by omega
    have h3 : a ≠ d := by omega
    have b1 := beq_false_of_ne h1
    have b2 := beq_false_of_ne h2
    have b3 := beq_false_of_ne h3
    rcases (show c = a ∨ c = b ∨ c = d by simpa using hc) with rfl | rfl | rfl
    · simp [List.range', PySem.StrLaws.occBody, subAt, Str.length]
    · simp [List.range', PySem.StrLaws.occBody, subAt, Str.length, h1, b1, List.idxOf_cons]
    · simp [List.range', PySem.StrLaws.occBody, subAt, Str.length, h2, h3, b2, b3, List.idxOf_cons]
theorem Rp.isTup' {K : PySem.W.Frag} {H : Hp} {x : V} {es : List PyData} (h : Rp K H x (.tuple es)) : ∃ a ys, x = .ref a ∧ SqT K H a ys ∧ RpAll K H ys es := by
  cases h with
  | tup h1 h2 => exact ⟨_, _, rfl, h1, h2⟩
theorem Rp.isStr' {K : PySem.W.Frag} {H : Hp} {x : V} {z : Str} (h : Rp K H x (.str z)) : x = .str z := by
  cases h
  rfl
theorem betD_int2 {lo hi : Int} {d : PyData} (h : betD lo hi d = true) : ∃ i, d = .int i := by
  cases d with
  | int i => exact ⟨i, rfl⟩
  | _ => exact absurd h (by simp [betD])
def tgt : PyData → Option Int
  | .int i => some i
  | _ => none
def stV : Option Int → V
  | some i => .int i
  | none => .non
def stepD (L : List Nat) (ss : List PyData) (st : Option Int) (c : Nat) : Option Int := st.bind fun i => tgt ((elems (ss.getD i.toNat .none)).getD (L.idxOf c) .none)
/-- the state behind these letters -/
def behind (L : List Nat) (ss : List PyData) (st : Option Int) (cs : List Nat) : Option Int := cs.foldl (stepD L ss) st
def Fit (ss : List PyData) (st : Option Int) : Prop := ∀ i, st = some i → 0 ≤ i ∧ i < (ss.length : Int)
theorem behind_none (L : List Nat) (ss : List PyData) : ∀ cs, behind L ss none cs = none
  | [] => rfl
  | _ :: cs => behind_none L ss cs
theorem behind_take {L : List Nat} {ss : List PyData} {st : Option Int} {cs : List Nat} {j c : Nat} (h : cs[j]? = some c) : behind L ss st (cs.take (j + 1)) = stepD L ss (behind L ss st (cs.take j)) c := by
  unfold behind
  rw [List.take_succ, h, List.foldl_append]
  rfl
/-- what a rule's states are -/
theorem rul_of {L : List Nat} {z : Str} {ss : List PyData} (h : rulD (.tuple [.str z, .tuple ss]) = true) : lettersL z.cps.toList = true ∧ 1 ≤ ss.length ∧ ss.length ≤ 4 ∧
    ∀ e ∈ ss, ∃ es, e = .tuple es ∧ es.length = z.length ∧ ∀ d ∈ es, d = .none ∨ ∃ i, d = .int i ∧ 0 ≤ i ∧ i < (ss.length : Int) := by
  rw [rulD, Bool.and_eq_true, Bool.and_eq_true] at h
  have ht := tabD_tup h.2.1
  have h1 := ht.1
  rw [tupD, Bool.and_eq_true, decide_eq_true_eq, decide_eq_true_eq] at h1
  refine ⟨h.1, by omega, by omega, fun e he => ?_⟩
  have h2 := ht.2 e he
  have h3 := List.all_eq_true.mp h.2.2 e he
  cases e with
  | tuple es =>
    rw [tupD, Bool.and_eq_true, decide_eq_true_eq, decide_eq_true_eq] at h2
    rw [wayD, Bool.and_eq_true, List.all_eq_true] at h3
    have e1 : lenD (.str z) = z.length := rfl
    refine ⟨es, rfl, by omega, fun d hd => ?_⟩
    by_cases s : someD d = true
    · have h4 := h3.2 d (List.mem_filter.mpr ⟨hd, s⟩)
      obtain ⟨i, rfl⟩ := betD_int2 h4
      rw [betD, Bool.and_eq_true, decide_eq_true_eq, decide_eq_true_eq] at h4
      exact .inr ⟨i, rfl, h4.1, by omega⟩
    · cases d <;> first | exact .inl rfl | exact absurd rfl s
  | _ => exact absurd h2 (by simp [tupD])
theorem fit_step {L : List Nat} {z : Str} {ss : List PyData} (h : rulD (.tuple [.str z, .tuple ss]) = true) {st : Option Int} (f : Fit ss st) (c : Nat) : Fit ss (stepD L ss st c) := by
  obtain ⟨_, _, _, h4⟩ := rul_of (L := L) h
  intro i hi
  cases st with
  | none => cases hi
  | some j =>
    obtain ⟨f1, f2⟩ := f j rfl
    have hj : ss[j.toNat]? = some (ss[j.toNat]'(by omega)) := List.getElem?_eq_getElem _
    obtain ⟨es, e1, _, e3⟩ := h4 _ (List.mem_of_getElem? hj)
    have hi2 : tgt ((elems (ss.getD j.toNat .none)).getD (L.idxOf c) .none) = some i := hi
    rw [List.getD_eq_getElem?_getD (l := ss), hj, e1] at hi2
    have hi3 : tgt (es.getD (L.idxOf c) .none) = some i := hi2
    rw [List.getD_eq_getElem?_getD] at hi3
    cases q : es[L.idxOf c]? with
    | none =>
      rw [q] at hi3
      cases hi3
    | some d =>
      rw [q] at hi3
      rcases e3 d (List.mem_of_getElem? q) with rfl | ⟨k, rfl, k1, k2⟩
      · cases hi3
      · cases hi3
        exact ⟨k1, k2⟩
theorem fit_behind {L : List Nat} {z : Str} {ss : List PyData} (h : rulD (.tuple [.str z, .tuple ss]) = true) : ∀ (cs : List Nat) {st : Option Int}, Fit ss st → Fit ss (behind L ss st cs)
  | [], _, f => f
  | c :: cs, _, f => fit_behind h cs (fit_step h f c)
structure AfterTxt (K : PySem.W.Frag) (mg : Str → Option Value) (r3 : Addr) (v3 : FuncData) : Prop where
  FAfter : Fun K "state_after" "state_after" sAfter r3 v3
  bAfter : Binds K v3 ["rule", "state", "word"] []
  gAfter : mg "state_after" = some (.ref r3)
def spAfter (K : PySem.W.Frag) : Sp := fun vs H Q _ => ∃ (x : V) (z wz : Str) (ss : List PyData) (st : Option Int), vs = [x, stV st, .str wz] ∧ Rp K H x (.tuple [.str z, .tuple ss]) ∧ rulD (.tuple [.str z, .tuple ss]) = true ∧ Fit ss st ∧ (∀ c ∈ wz.cps.toList, c ∈ z.cps.toList) ∧ Q (stV (behind z.cps.toList ss st wz.cps.toList)) H
section
variable {P : Program} {w : World} {K : PySem.W.Frag} {mg : Str → Option Value} {base : Heap} {r3 : Addr} {v3 : FuncData}
theorem ok_after (T : AfterTxt K mg r3 v3) {k : Nat} : FnOk P w K mg base CX0 (k + 1) r3 v3 ["rule", "state", "word"] (spAfter K) := by
  refine T.FAfter.ok scAfter (fun vs H Q E h => ?_) (fun cdv A outer s H vs Q E hr h => ?_)
  · obtain ⟨x, z, wz, ss, st, rfl, _⟩ := h
    rfl
  · obtain ⟨x, z, wz, ss, st, rfl, hR, hrl, hf, hin, q⟩ := h
    refine ⟨_, (pss_cons (ps_asg (pv 0) (pg_tup rfl (pgs_cons (pg_name (i := 3) scAfter.nd rfl (.inl rfl)) (pgs_cons (pg_name (i := 4) scAfter.nd rfl (.inl rfl)) pgs_nil))))
 (pss_cons (ps_for PassesOwn.never rfl (pi_str (pv 2)) (pg_name (i := 5) scAfter.nd rfl (.inl rfl))
 (pss_cons (ps_if (pt_cmpR op_isN (pv 1) pe_non (nomark _)) (pss_one (ps_ret pe_non)) pss_nil)
 (pss_one (ps_set (i := 1) scAfter.nd rfl (.inl rfl) (pe_ix ix_tup (pe_ix ix_tup (pv 4) (pv 1) (fun _ _ => rfl)) (pe_bm PySem.F.plainAttrs_str PySem.F.slot_str_index PySem.F.type_str_index mt_sindex (pv 3) (pa_cons (pv 5) pa_nil)) (fun _ _ => rfl))))))
 (pss_one (ps_ret (pv 1))))), ?_⟩
    obtain ⟨a, u, v, p, t, rfl, e, hS, hp, ht⟩ := hR.two rfl
    cases e
    obtain ⟨b, xs, rfl, hS2, hA⟩ := ht.isTup'
    obtain ⟨hl, r1, r4, hes⟩ := rul_of (L := z.cps.toList) hrl
    obtain rfl := hp.isStr'
    refine ⟨_, rfl, a, _, rfl, hS, rfl, _, _, rfl, _, _, rfl, rfl, ?_⟩
    refine ⟨_, rfl, wz, rfl, ?_⟩
    refine for_it walk_str (fun j σ H' => H' = H ∧ ∃ lv, σ = [some (.ref a), some (stV (behind z.cps.toList ss st (wz.cps.toList.take j))), some (.str wz), some (.str z), some (.ref b), lv]) ⟨rfl, _, rfl⟩ (fun _ _ _ _ _ => trivial) ?_ ?_
    · rintro j u σ H' H2 hj ⟨rfl, lv, rfl⟩ ⟨rfl, c, hc, rfl⟩
      have hc2 : wz.cps.toList[j]? = some c := by rw [Array.getElem?_toList]; exact hc
      have hcz := hin c (List.mem_of_getElem? hc2)
      have hft := fit_behind (L := z.cps.toList) hrl (wz.cps.toList.take j) hf
      have hnx := behind_take (L := z.cps.toList) (ss := ss) (st := st) hc2
      refine ⟨_, rfl, rfl, _, rfl, ?_⟩
      cases hb : behind z.cps.toList ss st (wz.cps.toList.take j) with
      | none =>
        refine ite2 (fun _ => ?_) (fun y => absurd (decide_eq_true rfl) y)
        have e : behind z.cps.toList ss st wz.cps.toList = none := by
          have h0 : wz.cps.toList.take j ++ wz.cps.toList.drop j = wz.cps.toList := List.take_append_drop _ _
          rw [← h0]
          unfold behind
          rw [List.foldl_append]
          show behind z.cps.toList ss (behind z.cps.toList ss st (wz.cps.toList.take j)) _ = none
          rw [hb, behind_none]
        rw [e] at q
        exact q
      | some i =>
        refine ite2 (fun y => absurd (of_decide_eq_true y) (by simp [stV])) (fun _ => ?_)
        obtain ⟨f1, f2⟩ := hft i hb
        have ln := hA.len
        have hx : xs[i.toNat]? = some (xs[i.toNat]'(by omega)) := List.getElem?_eq_getElem _
        obtain ⟨e, he, re⟩ := hA.at hx
        obtain ⟨es, rfl, el, ed⟩ := hes e (List.mem_of_getElem? he)
        obtain ⟨a2, ys, ea, hS3, hA3⟩ := re.isTup'
        have hk : z.cps.toList.idxOf c < z.cps.toList.length := List.idxOf_lt_length_of_mem hcz
        have hz : z.cps.toList.length = z.length := Array.length_toList
        have ly := hA3.len
        have hy : ys[z.cps.toList.idxOf c]? = some (ys[z.cps.toList.idxOf c]'(by omega)) := List.getElem?_eq_getElem _
        obtain ⟨d, hd, rd⟩ := hA3.at hy
        have hv : ys[z.cps.toList.idxOf c]'(by omega) = stV (tgt d) := by
          rcases ed d (List.mem_of_getElem? hd) with rfl | ⟨n, rfl, _, _⟩
          · generalize ys[z.cps.toList.idxOf c]'(by omega) = y at rd
            cases rd
            rfl
          · generalize ys[z.cps.toList.idxOf c]'(by omega) = y at rd
            cases rd
            rfl
        have hst : stepD z.cps.toList ss (some i) c = tgt d := by
          show tgt ((elems (ss.getD i.toNat .none)).getD (z.cps.toList.idxOf c) .none) = tgt d
          rw [List.getD_eq_getElem?_getD (l := ss), he]
          show tgt (es.getD (z.cps.toList.idxOf c) .none) = tgt d
          rw [List.getD_eq_getElem?_getD, hd]
          rfl
        have hi : atI xs i = some (.ref a2) := by
          rw [← ea, ← hx, show i = ((i.toNat : Nat) : Int) by omega]
          exact (atI_nat hx).trans hx.symm
        refine ⟨_, rfl, _, rfl, b, xs, i, _, rfl, rfl, hS2, hi, _, rfl, ?_⟩
        refine ⟨rfl, _, rfl, z, _, z.cps.toList.idxOf c, [], rfl, rfl, occ_idx hl hcz, a2, ys, _, _, rfl, rfl, hS3, atI_nat hy, ?_⟩
        refine ⟨rfl, some (.str ⟨#[c]⟩), ?_⟩
        rw [hnx, hb, hst, ← hv]
        rfl
    · rintro σ H' ⟨rfl, lv, rfl⟩
      have e : wz.cps.toList.take wz.cps.size = wz.cps.toList := by rw [← Array.length_toList, List.take_length]
      rw [e]
      exact ⟨_, rfl, q⟩
end
end My
/-! ### is_of -/
namespace My
open PySem PySem.Spec PyProof.Rows L2
abbrev sIsOf : Stmt := topS 22
theorem scIsOf : FnScope ["rule", "word", "ring", "state", "_"] ["rule", "word", "ring"] (defScope sIsOf) := ⟨rfl, rfl, rfl, by decide +kernel, rfl, by decide +kernel, by decide +kernel⟩
def ringD (L : List Nat) (d : PyData) : Bool := txtD L d && !decide (lenD d = 0)
/-- the state behind so many turns of the ring -/
def turns (L : List Nat) (ss : List PyData) (cs : List Nat) : Nat → Option Int → Option Int
  | 0, st => st
  | n + 1, st => behind L ss (turns L ss cs n st) cs
structure IsOfTxt (K : PySem.W.Frag) (mg : Str → Option Value) (m1 m2 m3 m4 m6 m7 m12 : Addr) (n1 n2 n3 n4 n6 n7 n12 : FuncData) (t1 t2 : Tok) (r2 : Addr) (v2 : FuncData) (t6 : Tok) (r3 : Addr) (v3 : FuncData) (CR CW r4 : Addr) (v4 : FuncData) : Prop where
  text : TextTxt K mg m1 m2 m3 m4 m6 m7 m12 n1 n2 n3 n4 n6 n7 n12 t1 t2 r2 v2 t6
  after : AfterTxt K mg r3 v3
  noRule : ExcF K mg "NoRule" CR
  noWord : ExcF K mg "NoWord" CW
  FIsOf : FunD K "is_of" "is_of" (defArgs sIsOf) (defBody sIsOf) (defScope sIsOf) [] [("ring", .non)] r4 v4
  gIsOf : mg "is_of" = some (.ref r4)
def spIsOf (K : PySem.W.Frag) (CR CW : Addr) : Sp := fun vs H Q E => ∃ x y r dx dy dr, vs = [x, y, r] ∧ Rp K H x dx ∧ Rp K H y dy ∧ Rp K H r dr ∧
  ((rulD dx = false ∧ ∀ H', Same H H' → E (.ref CR) none H') ∨
   (∃ z ss, dx = .tuple [.str z, .tuple ss] ∧ rulD dx = true ∧
     (((txtD z.cps.toList dy = false ∨ (dr ≠ .none ∧ ringD z.cps.toList dr = false)) ∧ ∀ H', Same H H' → E (.ref CW) none H') ∨
      (∃ wz, dy = .str wz ∧ txtD z.cps.toList dy = true ∧ ((dr = .none ∧ ∀ H', Same H H' → Q (.bl (behind z.cps.toList ss (some 0) wz.cps.toList).isSome) H') ∨
        (∃ rz, dr = .str rz ∧ ringD z.cps.toList dr = true ∧ ∀ H', Same H H' → Q (.bl (turns z.cps.toList ss rz.cps.toList ss.length (behind z.cps.toList ss (some 0) wz.cps.toList)).isSome) H'))))))
theorem rulD_form {d : PyData} (h : rulD d = true) : ∃ z ss, d = .tuple [.str z, .tuple ss] := by
  unfold rulD at h
  split at h
  · rename_i l ss
    rw [Bool.and_eq_true] at h
    cases l with
    | str z => exact ⟨z, ss, rfl⟩
    | _ => exact absurd h.1 (by simp [ltrD])
  · cases h
theorem txt_mem {L : List Nat} {z : Str} (h : txtD L (.str z) = true) : ∀ c ∈ z.cps.toList, c ∈ L := by
  rw [txtD, Bool.and_eq_true, List.all_eq_true] at h
  exact fun c hc => of_decide_eq_true (h.2 c hc)
theorem txt_str {L : List Nat} {d : PyData} (h : txtD L d = true) : ∃ z, d = .str z := by
  cases d with
  | str z => exact ⟨z, rfl⟩
  | _ => exact absurd h (by simp [txtD])
theorem stV_some (st : Option Int) : (!decide (stV st = V.non)) = st.isSome := by
  cases st with
  | none => rfl
  | some i =>
    rw [decide_eq_false (by simp [stV])]
    rfl
theorem fit_turns {L : List Nat} {z : Str} {ss : List PyData} (h : rulD (.tuple [.str z, .tuple ss]) = true) (cs : List Nat) {st : Option Int} (f : Fit ss st) : ∀ n, Fit ss (turns L ss cs n st)
  | 0 => f
  | n + 1 => fit_behind h cs (fit_turns h cs f n)
section
variable {P : Program} {w : World} {K : PySem.W.Frag} {mg : Str → Option Value} {base : Heap} {m1 m2 m3 m4 m6 m7 m12 : Addr} {n1 n2 n3 n4 n6 n7 n12 : FuncData} {t1 t2 t6 : Tok} {r2 r3 r4 CR CW : Addr} {v2 v3 v4 : FuncData}
theorem ok_isOf (T : IsOfTxt K mg m1 m2 m3 m4 m6 m7 m12 n1 n2 n3 n4 n6 n7 n12 t1 t2 r2 v2 t6 r3 v3 CR CW r4 v4) {k : Nat} : FnOk P w K mg base (L2.CX P w) (k + 5) r4 v4 ["rule", "word", "ring"] (spIsOf K CR CW) := by
  have GR : FnOk P w K mg base CX0 (k + 4) m12 n12 ["thing"] (spRule K) := ok_rule T.text.look
  have GT : FnOk P w K mg base CX0 (k + 4) r2 v2 ["thing", "letters"] (spText K) := ok_text T.text
  have GA : FnOk P w K mg base CX0 (k + 4) r3 v3 ["rule", "state", "word"] (spAfter K) := ok_after T.after
  refine T.FIsOf.ok scIsOf (fun vs H Q E h => ?_) (fun cdv A outer s H vs Q E hr h => ?_)
  · obtain ⟨x, y, r, dx, dy, dr, rfl, _⟩ := h
    rfl
  · obtain ⟨x, y, r, dx, dy, dr, rfl, hx, hy, hdr, h⟩ := h
    refine ⟨_, (pss_cons (ps_if (pt_not (pt_val (pe_call GR hr (by rfl) T.text.look.gRule T.text.look.FRule.kp T.text.look.bRule .nil pass0 (pa_cons (pv 0) pa_nil)))) (pss_one (ps_raise rfl (takes_of rfl rfl rfl rfl) (SkE.pmk_own1 PySem.F.excBase_ValueError T.noRule.q T.noRule.g T.noRule.k (raises_own T.noRule.b T.noRule.t) (by exact rfl) pe_str))) pss_nil)
 (pss_cons (ps_if (pt_not (pt_val (pe_call GT hr (by rfl) T.text.gText T.text.FText.kp T.text.bText .nil pass0 (pa_cons (pv 1) (pa_cons (pe_ix ix_tup (pv 0) pe_int (fun _ _ => rfl)) pa_nil))))) (pss_one (ps_raise rfl (takes_of rfl rfl rfl rfl) (SkE.pmk_own1 PySem.F.excBase_ValueError T.noWord.q T.noWord.g T.noWord.k (raises_own T.noWord.b T.noWord.t) (by exact rfl) pe_str))) pss_nil)
 (pss_cons (ps_if (PW.pt (pw_and (pt_cmpR op_notN (pv 2) pe_non (nomark _)) (pw_and1 (PW.pt (pw_or (pt_not (pt_val (pe_call GT hr (by rfl) T.text.gText T.text.FText.kp T.text.bText .nil pass0 (pa_cons (pv 2) (pa_cons (pe_ix ix_tup (pv 0) pe_int (fun _ _ => rfl)) pa_nil))))) (pw_or1 (pt_cmpR op_eq (pe_callB call_len_str (by rfl) T.text.look.len PySem.boot_len (pa_cons (pv 2) pa_nil)) pe_int (nomark _)))))))) (pss_one (ps_raise rfl (takes_of rfl rfl rfl rfl) (SkE.pmk_own1 PySem.F.excBase_ValueError T.noWord.q T.noWord.g T.noWord.k (raises_own T.noWord.b T.noWord.t) (by exact rfl) pe_str))) pss_nil)
 (pss_cons (ps_set (i := 3) scIsOf.nd rfl (.inl rfl) (pe_call GA hr (by rfl) T.after.gAfter T.after.FAfter.kp T.after.bAfter .nil pass0 (pa_cons (pv 0) (pa_cons pe_int (pa_cons (pv 1) pa_nil)))))
 (pss_cons (ps_if (pt_cmpR op_notN (pv 2) pe_non (nomark _)) (pss_one (ps_for (passes_of rfl) rfl (pi_tup (pe_ix ix_tup (pv 0) pe_int (fun _ _ => rfl))) (pg_name (i := 4) scIsOf.nd rfl (.inl rfl))
 (pss_one (ps_set (i := 3) scIsOf.nd rfl (.inl rfl) (pe_call GA hr (by rfl) T.after.gAfter T.after.FAfter.kp T.after.bAfter .nil pass0 (pa_cons (pv 0) (pa_cons (pv 3) (pa_cons (pv 2) pa_nil)))))))) pss_nil)
 (pss_one (ps_ret (pe_cmpR op_notN (pv 3) pe_non (nomark _))))))))), ?_⟩
    refine ⟨_, rfl, x, dx, rfl, hx, fun H1 s1 => ⟨_, rfl, ?_⟩⟩
    rcases h with ⟨zr, q⟩ | ⟨z, ss, rfl, zr, h⟩
    · refine ite2 (fun _ => q H1 s1) (fun u => absurd (by rw [zr]; rfl) u)
    · refine ite2 (fun u => absurd u (by rw [zr]; decide)) (fun _ => ?_)
      have hx0 := hx
      obtain ⟨a, u, v, p, t, rfl, e, hS, hp, ht⟩ := hx.two rfl
      cases e
      obtain ⟨b, xs, rfl, hS2, hA⟩ := ht.isTup'
      obtain rfl := hp.isStr'
      obtain ⟨hl, r1, r4, hes⟩ := rul_of (L := z.cps.toList) zr
      have f0 : Fit ss (some 0) := fun i hi => by
        cases hi
        exact ⟨by decide, by omega⟩
      refine ⟨_, rfl, _, rfl, a, _, 0, _, rfl, rfl, same_tup s1 hS, atI_nat (j := 0) rfl, y, dy, z, rfl, hy.go s1, fun H2 s2 => ⟨_, rfl, ?_⟩⟩
      have s12 := s1.trans s2
      by_cases zy : txtD z.cps.toList dy = true
      · refine ite2 (fun u => absurd u (by rw [zy]; decide)) (fun _ => ?_)
        obtain ⟨wz, rfl⟩ := txt_str zy
        obtain rfl := hy.isStr'
        have hin := txt_mem zy
        by_cases zn : dr = .none
        · subst zn
          cases hdr
          refine ⟨_, rfl, rfl, _, rfl, ite2 (fun u => absurd u (by decide)) (fun _ => iteF ?_)⟩
          refine ⟨_, rfl, _, rfl, _, z, wz, ss, some 0, rfl, hx0.go s12, zr, f0, hin, ?_⟩
          refine ⟨_, rfl, rfl, _, rfl, ite2 (fun u => absurd u (by decide)) (fun _ => ?_)⟩
          refine ⟨_, rfl, rfl, ?_⟩
          rw [stV_some]
          rcases h with ⟨h | h, _⟩ | ⟨w2, e, _, h⟩
          · exact absurd (h.symm.trans zy) (by decide)
          · exact absurd rfl h.1
          · cases e
            rcases h with ⟨_, q⟩ | ⟨rz, e, _⟩
            · exact q H2 s12
            · cases e
        · have nn : ¬ r = V.non := fun e => by
            subst e
            cases hdr
            exact zn rfl
          refine ⟨_, rfl, rfl, _, rfl, ite2 (fun _ => ?_) (fun u => absurd (by rw [decide_eq_false nn]; rfl) u)⟩
          refine ⟨_, rfl, _, rfl, a, _, 0, _, rfl, rfl, same_tup s12 hS, atI_nat (j := 0) rfl, r, dr, z, rfl, hdr.go s12, fun H3 s3 => ⟨_, rfl, ?_⟩⟩
          have s13 := s12.trans s3
          have bad : ringD z.cps.toList dr = false → E (.ref CW) none H3 := fun zb => by
            rcases h with ⟨_, q⟩ | ⟨w2, e, _, h⟩
            · exact q H3 s13
            · rcases h with ⟨e, _⟩ | ⟨rz, _, e, _⟩
              · exact absurd e zn
              · exact absurd (e.symm.trans zb) (by decide)
          by_cases zt : txtD z.cps.toList dr = true
          · refine ite2 (fun u => absurd u (by rw [zt]; decide)) (fun _ => ?_)
            obtain ⟨rz, rfl⟩ := txt_str zt
            obtain ⟨_, rfl, e2, hrz⟩ := hdr.isStr rfl
            cases e2
            refine ⟨_, rfl, rz, rfl, hrz, rfl, _, rfl, ?_⟩
            by_cases zl : rz.length = 0
            · refine ite2 (fun _ => bad ?_) (fun u => absurd (by rw [zl]; rfl) u)
              rw [ringD, zt, show lenD (.str rz) = rz.length from rfl, decide_eq_true zl]
              rfl
            · refine ite2 (fun u => absurd (of_decide_eq_true u) (by simpa using zl)) (fun _ => ?_)
              refine ⟨_, rfl, _, rfl, _, z, wz, ss, some 0, rfl, hx0.go s13, zr, f0, hin, ?_⟩
              refine ⟨_, rfl, rfl, _, rfl, ite2 (fun _ => ?_) (fun u => absurd (by rw [decide_eq_false nn]; rfl) u)⟩
              have zg : ringD z.cps.toList (.str rz) = true := by
                rw [ringD, zt, show lenD (.str rz) = rz.length from rfl, decide_eq_false zl]
                rfl
              refine ⟨_, rfl, a, _, 1, _, rfl, rfl, same_tup s13 hS, atI_nat (j := 1) rfl, b, rfl, ⟨xs, same_tup s13 hS2⟩, ?_⟩
              have fb := fit_behind (L := z.cps.toList) zr wz.cps.toList f0
              have hin2 := txt_mem zt
              refine for_it (walk_tup (K := K) (a := b) (xs := xs)) (fun j σ H' => H' = H3 ∧ ∃ lv, σ = [some (.ref a), some (.str wz), some (.str rz), some (stV (turns z.cps.toList ss rz.cps.toList j (behind z.cps.toList ss (some 0) wz.cps.toList))), lv]) ⟨rfl, _, rfl⟩ (fun _ σ H' _ h => by rw [h.1]; exact same_tup s13 hS2) ?_ ?_
              · rintro j u σ H' H4 hj ⟨rfl, lv, rfl⟩ ⟨rfl, hu⟩
                refine ⟨_, rfl, _, rfl, _, rfl, _, z, rz, ss, _, rfl, hx0.go s13, zr, fit_turns zr _ fb j, hin2, rfl, _, rfl⟩
              · rintro σ H' ⟨rfl, lv, rfl⟩
                refine ⟨_, rfl, rfl, ?_⟩
                rw [stV_some, hA.len]
                rcases h with ⟨h | h, _⟩ | ⟨w2, e, _, h⟩
                · exact absurd (h.symm.trans zy) (by decide)
                · exact absurd (h.2.symm.trans zg) (by decide)
                · cases e
                  rcases h with ⟨e, _⟩ | ⟨r2, e, _, q⟩
                  · exact absurd e zn
                  · cases e
                    exact q H' s13
          · refine ite2 (fun _ => bad ?_) (fun u => absurd (by rw [eq_false_of_ne_true zt]; rfl) u)
            rw [ringD, eq_false_of_ne_true zt, Bool.false_and]
      · refine ite2 (fun _ => ?_) (fun u => absurd (by rw [eq_false_of_ne_true zy]; rfl) u)
        rcases h with ⟨_, q⟩ | ⟨wz, rfl, e, _⟩
        · exact q H2 s12
        · exact absurd e zy
end
end My
/-! ### what stays when the pen writes -/
namespace My
open PySem PySem.Spec PyProof.Rows L2
/-- all but what stands at p, and the tables, is as it was -/
def ButN (p : Addr) (H H' : Hp) : Prop := ∀ b o, b ≠ p → H b = some o → (∀ ps, o ≠ .tbl ps) → H' b = some o
theorem ButN.trans {p : Addr} {H H1 H2 : Hp} (a : ButN p H H1) (b : ButN p H1 H2) : ButN p H H2 := fun c o n e t => b c o n (a c o n e t) t
theorem ButN.refl (p : Addr) (H : Hp) : ButN p H H := fun _ _ _ e _ => e
theorem butN_same {p : Addr} {H H' : Hp} (s : Same H H') : ButN p H H' := fun b o _ e _ => s b o e
theorem butN_but {p : Addr} {H H' : Hp} (s : But p H H') : ButN p H H' := fun b o n e _ => s b o n e
theorem butN_ext {p : Addr} {H H' : Hp} (s : LamX.ExtN H H') : ButN p H H' := fun b o _ e t => s b o e t
theorem Pen.ext {H H' : Hp} {p : Addr} {n : Nat} (h : Pen H p n) (s : LamX.ExtN H H') : Pen H' p n := by
  obtain ⟨c, cs, a, r, h1, h2, h3⟩ := h.ex
  exact ⟨c, cs, a, r, s _ _ h1 (fun _ z => nomatch z), s _ _ h2 (fun _ z => nomatch z), h3⟩
theorem tabs_but {T : List (Addr × Str)} {H H' : Hp} {p : Addr} {ys : List V} (h : LamX.Tabs T H) (hp : H p = some (.lst ys)) (b : But p H H') : LamX.Tabs T H' := fun x hx => by
  obtain ⟨ps, h1, h2, h3⟩ := h x hx
  refine ⟨ps, b _ _ (ne_of h1 hp (by intro z; cases z)) h1, h2, fun pos cv hc => ?_⟩
  obtain ⟨c, e1, e2⟩ := h3 pos cv hc
  exact ⟨c, e1, b _ _ (ne_of e2 hp (by intro z; cases z)) e2⟩
theorem tabs_pen {T : List (Addr × Str)} {H H' : Hp} {p : Addr} {n : Nat} (h : LamX.Tabs T H) (hp : Pen H p n) (b : But p H H') : LamX.Tabs T H' := by
  obtain ⟨ys, e⟩ := hp.ls
  exact tabs_but h e b
theorem tabs_same {T : List (Addr × Str)} {H H' : Hp} (h : LamX.Tabs T H) (s : Same H H') : LamX.Tabs T H' := h.ext s
theorem new_ne {H : Hp} {p l : Addr} {n : Nat} (h : Pen H p n) (hl : H l = none) : l ≠ p := by
  obtain ⟨xs, e⟩ := h.ls
  exact (ne_of_none e hl).symm
/-- x is what d says, whatever becomes of the pen -/
def Rs (p : Addr) (K : PySem.W.Frag) (H : Hp) (x : V) (d : PyData) : Prop := ∀ H', ButN p H H' → Rp K H' x d
def RsAll (p : Addr) (K : PySem.W.Frag) (H : Hp) (xs : List V) (ds : List PyData) : Prop := ∀ H', ButN p H H' → RpAll K H' xs ds
section
variable {p : Addr} {K : PySem.W.Frag} {H H' : Hp} {x : V} {d : PyData} {xs : List V} {ds : List PyData}
theorem Rs.go (h : Rs p K H x d) (b : ButN p H H') : Rs p K H' x d := fun H2 b2 => h H2 (b.trans b2)
theorem RsAll.go (h : RsAll p K H xs ds) (b : ButN p H H') : RsAll p K H' xs ds := fun H2 b2 => h H2 (b.trans b2)
theorem Rs.rp (h : Rs p K H x d) : Rp K H x d := h H (ButN.refl p H)
theorem RsAll.rp (h : RsAll p K H xs ds) : RpAll K H xs ds := h H (ButN.refl p H)
theorem rs_non : Rs p K H .non .none := fun _ _ => .non
theorem rs_bl (b : Bool) : Rs p K H (.bl b) (.bool b) := fun _ _ => .bl b
theorem rs_int (i : Int) : Rs p K H (.int i) (.int i) := fun _ _ => .int i
theorem rs_str (z : Str) (h : z.length ≤ sizeLine) : Rs p K H (.str z) (.str z) := fun _ _ => .str z h
theorem rsNil : RsAll p K H [] [] := fun _ _ => .nil
theorem RsAll.cons (h : Rs p K H x d) (t : RsAll p K H xs ds) : RsAll p K H (x :: xs) (d :: ds) := fun H2 b => .cons (h H2 b) (t H2 b)
theorem rs_tup {t : Addr} (ht : t ≠ p) (h : H t = some (.tup xs)) (a : RsAll p K H xs ds) : Rs p K H (.ref t) (.tuple ds) := fun H2 b => .tup (SqT.of (b _ _ ht h (fun _ z => nomatch z))) (a H2 b)
theorem rs_lst {t : Addr} (ht : t ≠ p) (h : H t = some (.lst xs)) (a : RsAll p K H xs ds) : Rs p K H (.ref t) (.list ds) := fun H2 b => .lst (SqL.of (b _ _ ht h (fun _ z => nomatch z))) (a H2 b)
theorem rsAll_of {α : Type} {f : α → V} {g : α → PyData} : ∀ {l : List α}, (∀ a ∈ l, Rs p K H (f a) (g a)) → RsAll p K H (l.map f) (l.map g)
  | [], _ => rsNil
  | a :: l, h => RsAll.cons (h a (.head _)) (rsAll_of fun b hb => h b (.tail _ hb))
end
def spPickC (K : PySem.W.Frag) : Sp := fun vs H Q _ => ∃ (p c s : Addr) (xs : List V) (n : Nat), vs = [.ref p, .ref s] ∧ PenC H p c n ∧ n < 1048000 ∧ SqL K H s xs ∧ s ≠ p ∧ 0 < xs.length ∧ xs.length ≤ 1000 ∧ ∀ (H' : Hp) (k : Nat) (v : V), But p H H' → PenC H' p c (n + 1) → xs[(k : Nat)]? = some (v : V) → Q v H'
theorem log_small {z : Int} {m : Nat} (h : z.natAbs ≤ m) (hm : m < 9000) : z.natAbs.log2 < 9000 := Nat.lt_of_le_of_lt (Nat.log2_le_self _) (Nat.lt_of_le_of_lt h hm)
section
variable {P : Program} {w : World} {K : PySem.W.Frag} {mg : Str → Option Value} {base : Heap} {f1 f2 f3 f4 : Addr} {d1 d2 d3 d4 : FuncData}
theorem ok_pickC (T : PenTxt K mg f1 f2 f3 f4 d1 d2 d3 d4) {k : Nat} : FnOk P w K mg base CX0 (k + 3) f4 d4 ["pen", "some"] (spPickC K) := by
  have F := T.FPick
  have GT : FnOk P w K mg base CX0 (k + 2) f3 d3 ["pen", "many"] spTakeC := ok_takeC T
  refine F.ok scPick (fun vs H Q E h => ?_) (fun cdv A outer s H vs Q E hr h => ?_)
  · obtain ⟨c, c2, a, xs, n, rfl, _⟩ := h
    rfl
  · obtain ⟨p, c, l, xs, n, rfl, hP, hn, hS, nlp, l0, l1, q⟩ := h
    refine ⟨_, (pss_one (ps_ret (pe_ix ix_list (pv 1) (pe_call GT hr (by rfl) T.gTake T.FTake.kp T.bTake .nil pass0 (pa_cons (pv 0) (pa_cons (pe_callB call_len_seq (by rfl) T.len PySem.boot_len (pa_cons (pv 1) pa_nil)) pa_nil))) (fun _ _ => rfl)))), ?_⟩
    refine ⟨_, rfl, _, rfl, _, rfl, l, xs, rfl, .inl hS, p, c, _, n, rfl, hP, hn, by omega, ?_, fun H1 k b1 hP1 k0 k1 => ?_⟩
    · exact log_small (show ((xs.length : Int)).natAbs ≤ 1000 by omega) (by decide)
    · have hk : k.toNat < xs.length := by omega
      have e : xs[k.toNat]? = some xs[k.toNat] := List.getElem?_eq_getElem hk
      have hS1 : SqL K H1 l xs := by
        rcases hS with (h | ⟨o, h⟩) | h
        · exact .inl (.inl (b1 _ _ nlp h))
        · exact .inl (.inr ⟨o, b1 _ _ nlp h⟩)
        · exact .inr h
      exact ⟨l, xs, k, _, rfl, rfl, hS1, at_of (by omega) e, q H1 k.toNat _ b1 hP1 e⟩
end
end My
/-! ### the law's letters -/
namespace My
open PySem PySem.Spec PyProof.Rows L2
abbrev sXLetters : Stmt := topS 35
theorem scXLetters : FnScope ["pen", "i", "alphabet", "j", "k"] ["pen"] (defScope sXLetters) := ⟨rfl, rfl, rfl, by decide +kernel, rfl, by decide +kernel, by decide +kernel⟩
structure LetTxt (K : PySem.W.Frag) (mg : Str → Option Value) (x1 : Addr) (y1 : FuncData) : Prop where
  FXLetters : Fun K "_law_x_letters" "_law_x_letters" sXLetters x1 y1
  bXLetters : Binds K y1 ["pen"] []
  gXLetters : mg "_law_x_letters" = some (.ref x1)
def abc : Str := "abcdefghijklmnopqrstuvwxyz"
theorem abc_len : abc.length ≤ sizeLine := by
  show 26 ≤ sizeLine
  decide
theorem abc_at {i : Int} (h0 : 0 ≤ i) (h1 : i ≤ 25) : atI abc.cps.toList i = some (97 + i.toNat) := by
  have h : ∀ n : Nat, n < 26 → abc.cps.toList[n]? = some (97 + n) := by decide +kernel
  have e := h i.toNat (by omega)
  rw [show i = ((i.toNat : Nat) : Int) by omega]
  exact (atI_nat e)
def spXLetters : Sp := fun vs H Q _ => ∃ (p : Addr) (n : Nat), vs = [.ref p] ∧ Pen H p n ∧ n < 1047000 ∧ ∀ (H' : Hp) (z : Str), But p H H' → Pen H' p (n + 4) → lettersL z.cps.toList = true → Q (.str z) H'
theorem letters_one {a : Nat} (h1 : 97 ≤ a) (h2 : a ≤ 122) : lettersL [a] = true := by
  simp [lettersL, h1, h2]
section
variable {P : Program} {w : World} {K : PySem.W.Frag} {mg : Str → Option Value} {base : Heap} {f1 f2 f3 f4 : Addr} {d1 d2 d3 d4 : FuncData} {x1 : Addr} {y1 : FuncData}
theorem ok_xLetters (TP : PenTxt K mg f1 f2 f3 f4 d1 d2 d3 d4) (T : LetTxt K mg x1 y1) {k : Nat} : FnOk P w K mg base CX0 (k + 4) x1 y1 ["pen"] spXLetters := by
  have GT : FnOk P w K mg base CX0 (k + 3) f3 d3 ["pen", "many"] spTake := ok_take TP (k := k + 1)
  have GP : FnOk P w K mg base CX0 (k + 3) f4 d4 ["pen", "some"] (spPick K) := ok_pick TP (k := k)
  refine T.FXLetters.ok scXLetters (fun vs H Q E h => ?_) (fun cdv A outer s H vs Q E hr h => ?_)
  · obtain ⟨p, n, rfl, _⟩ := h
    rfl
  · obtain ⟨p, n, rfl, hP, hn, q⟩ := h
    refine ⟨_, (Evl.pss_cut (ps_par (i := 1) (j := 2) (by rfl) scXLetters.nd rfl rfl (by decide) rfl rfl (pa_cons (pe_call GT hr (by rfl) TP.gTake TP.FTake.kp TP.bTake .nil pass0 (pa_cons (pv 0) (pa_cons pe_int pa_nil))) (pa_cons pe_str pa_nil)) (by rfl))
 (Evl.pss_cut (ps_set (i := 3) scXLetters.nd rfl (.inl rfl) (pe_op op_add (pe_op op_add (pv 1) pe_int) (pe_call GT hr (by rfl) TP.gTake TP.FTake.kp TP.bTake .nil pass0 (pa_cons (pv 0) (pa_cons (pe_op op_sub pe_int (pv 1)) pa_nil)))))
 (Evl.pss_cut (ps_set (i := 4) scXLetters.nd rfl (.inl rfl) (pe_op op_add (pe_op op_add (pv 3) pe_int) (pe_call GT hr (by rfl) TP.gTake TP.FTake.kp TP.bTake .nil pass0 (pa_cons (pv 0) (pa_cons (pe_op op_sub pe_int (pv 3)) pa_nil)))))
 (pss_one (ps_ret (pe_op op_add_str (pe_ix ix_str (pv 2) (pv 1) (fun _ _ => rfl)) (pe_call GP hr (by rfl) TP.gPick TP.FPick.kp TP.bPick .nil pass0 (pa_cons (pv 0) (pa_cons (pe_lst (pa_cons pe_str (pa_cons (pe_ix ix_str (pv 2) (pv 3) (fun _ _ => rfl)) (pa_cons (pe_ix ix_str (pv 2) (pv 3) (fun _ _ => rfl)) (pa_cons (pe_ix ix_str (pv 2) (pv 3) (fun _ _ => rfl)) (pa_cons (pe_op op_add_str (pe_ix ix_str (pv 2) (pv 3) (fun _ _ => rfl)) (pe_ix ix_str (pv 2) (pv 4) (fun _ _ => rfl))) pa_nil)))))) pa_nil))))))))), ?_⟩
    refine ⟨fun σ H' => ∃ i : Int, σ = [some (.ref p), some (.int i), some (.str abc), none, none] ∧ 0 ≤ i ∧ i ≤ 23 ∧ But p H H' ∧ Pen H' p (n + 1), ?_, ?_⟩
    · refine ⟨_, rfl, p, 24, n, rfl, hP, by omega, by decide, by decide, fun H1 i b1 hP1 i0 i1 => ⟨_, _, rfl, i, rfl, i0, by omega, b1, hP1⟩⟩
    rintro σ H1 ⟨i, rfl, i0, i1, b1, hP1⟩
    refine ⟨fun σ H' => ∃ j : Int, σ = [some (.ref p), some (.int i), some (.str abc), some (.int j), none] ∧ i < j ∧ j ≤ 24 ∧ But p H H' ∧ Pen H' p (n + 2), ?_, ?_⟩
    · refine ⟨_, rfl, _, _, rfl, rfl, _, rfl, _, rfl, _, _, rfl, rfl, p, 24 - i, n + 1, rfl, hP1, by omega, by omega, log_small (m := 24) (by omega) (by decide), fun H2 j b2 hP2 j0 j1 => ⟨_, _, rfl, rfl, _, rfl, by omega, by omega, b1.trans b2, hP2⟩⟩
    rintro σ H2 ⟨j, rfl, j0, j1, b2, hP2⟩
    refine ⟨fun σ H' => ∃ k : Int, σ = [some (.ref p), some (.int i), some (.str abc), some (.int j), some (.int k)] ∧ j < k ∧ k ≤ 25 ∧ But p H H' ∧ Pen H' p (n + 3), ?_, ?_⟩
    · refine ⟨_, rfl, _, _, rfl, rfl, _, rfl, _, rfl, _, _, rfl, rfl, p, 25 - j, n + 2, rfl, hP2, by omega, by omega, log_small (m := 25) (by omega) (by decide), fun H3 k b3 hP3 k0 k1 => ⟨_, _, rfl, rfl, _, rfl, by omega, by omega, b2.trans b3, hP3⟩⟩
    rintro σ H3 ⟨k, rfl, k0, k1, b3, hP3⟩
    have ai := abc_at (i := i) i0 (by omega)
    have aj := abc_at (i := j) (by omega) (by omega)
    have ak := abc_at (i := k) (by omega) (by omega)
    have len1 : ∀ a b : Nat, (⟨#[a]⟩ : Str).length + (⟨#[b]⟩ : Str).length ≤ sizeLine := fun a b => by
      show 2 ≤ sizeLine
      decide
    refine ⟨_, rfl, _, rfl, abc, i, _, rfl, rfl, abc_len, ai, ?_⟩
    refine ⟨_, rfl, _, rfl, _, rfl, abc, j, _, rfl, rfl, abc_len, aj, _, rfl, _, rfl, abc, j, _, rfl, rfl, abc_len, aj, _, rfl, _, rfl, abc, j, _, rfl, rfl, abc_len, aj, ?_⟩
    refine ⟨_, rfl, _, rfl, abc, j, _, rfl, rfl, abc_len, aj, _, rfl, _, rfl, abc, k, _, rfl, rfl, abc_len, ak, _, _, rfl, rfl, len1 _ _, (by show 5 ≤ sizeLine; decide), fun l hl => ?_⟩
    have nl := new_ne hP3 hl
    refine ⟨p, l, _, n + 3, rfl, hP3.same (same_upd hl), by omega, SqL.of upd_same, nl, (by show 0 < 5; decide), (by show 5 ≤ 1000; decide), fun H4 m v b4 hP4 hm => ?_⟩
    have b34 : But p H H4 := b3.trans ((But.of (same_upd hl)).trans b4)
    have c1 : ∃ y : Str, v = .str y ∧ (y.cps.toList = [] ∨ y.cps.toList = [97 + j.toNat] ∨ y.cps.toList = [97 + j.toNat, 97 + k.toNat]) := by
      match m, hm with
      | 0, hm => exact ⟨_, (Option.some.inj hm).symm, .inl (by decide +kernel)⟩
      | 1, hm => exact ⟨_, (Option.some.inj hm).symm, .inr (.inl rfl)⟩
      | 2, hm => exact ⟨_, (Option.some.inj hm).symm, .inr (.inl rfl)⟩
      | 3, hm => exact ⟨_, (Option.some.inj hm).symm, .inr (.inl rfl)⟩
      | 4, hm => exact ⟨_, (Option.some.inj hm).symm, .inr (.inr rfl)⟩
      | m + 5, hm => exact absurd hm (by simp)
    obtain ⟨y, rfl, c1⟩ := c1
    have hy : y.length = y.cps.toList.length := rfl
    refine ⟨_, _, rfl, rfl, ?_, q H4 _ b34 hP4 ?_⟩
    · rw [hy]
      refine Nat.le_trans (show _ ≤ 3 from ?_) (by decide)
      rw [show (⟨#[97 + i.toNat]⟩ : Str).length = 1 from rfl]
      rcases c1 with e | e | e <;> rw [e] <;> simp
    · have e1 : ((⟨#[97 + i.toNat]⟩ : Str) ++ y).cps.toList = [97 + i.toNat] ++ y.cps.toList := by
        show (#[97 + i.toNat] ++ y.cps).toList = _
        simp
      rw [e1]
      rcases c1 with e | e | e <;> rw [e]
      · simp [lettersL]; omega
      · simp [lettersL]; omega
      · simp [lettersL]; omega
end
end My
/-! ### the law's rule -/
namespace My
open PySem PySem.Spec PyProof.Rows L2
abbrev sXRule : Stmt := topS 36
theorem scXRule : FnScope ["pen", "letters", "most", "many", "states", "state", "row", "letter", "after"] ["pen", "letters", "most"] (defScope sXRule) := ⟨rfl, rfl, rfl, by decide +kernel, rfl, by decide +kernel, by decide +kernel⟩
structure RulTxt (K : PySem.W.Frag) (mg : Str → Option Value) (x2 : Addr) (y2 : FuncData) : Prop where
  range : mg "range" = none
  len : mg "len" = none
  tuple : mg "tuple" = none
  FXRule : Fun K "_law_x_rule" "_law_x_rule" sXRule x2 y2
  bXRule : Binds K y2 ["pen", "letters", "most"] []
  gXRule : mg "_law_x_rule" = some (.ref x2)
def stD : Option Int → PyData
  | some i => .int i
  | none => .none
theorem letters_pos {z : Str} (h : lettersL z.cps.toList = true) : 0 < z.length := by
  have e : z.cps.toList.length = z.length := Array.length_toList
  rw [← e]
  cases l : z.cps.toList with
  | nil => rw [l] at h; cases h
  | cons a b => exact Nat.succ_pos _
theorem but_none {p a : Addr} {H H' : Hp} (b : But p H H') (n : a ≠ p) (e : H' a = none) : H a = none := by
  cases h : H a with
  | none => rfl
  | some o => exact absurd ((b a o n h).symm.trans e) (by simp)
/-- a row of a rule's table -/
structure RowOk (n m : Nat) (r : List (Option Int)) : Prop where
  len : r.length = n
  has : ∃ x ∈ r, x ≠ none
  range : ∀ i, some i ∈ r → 0 ≤ i ∧ i < (m : Int)
def rowsD (rows : List (List (Option Int))) : List PyData := rows.map fun r => .tuple (r.map stD)
theorem rulD_rows {z : Str} {rows : List (List (Option Int))} (hl : lettersL z.cps.toList = true) (h1 : 1 ≤ rows.length) (h2 : rows.length ≤ 4) (h : ∀ r ∈ rows, RowOk z.length rows.length r) : rulD (.tuple [.str z, .tuple (rowsD rows)]) = true := by
  have ln : (rowsD rows).length = rows.length := List.length_map ..
  rw [rulD, Bool.and_eq_true, Bool.and_eq_true, tabD, Bool.and_eq_true, List.all_eq_true, List.all_eq_true]
  refine ⟨hl, ⟨?_, fun e he => ?_⟩, fun e he => ?_⟩
  · rw [tupD, Bool.and_eq_true, decide_eq_true_eq, decide_eq_true_eq, ln]
    omega
  · obtain ⟨r, hr, rfl⟩ := List.mem_map.mp he
    rw [tupD, Bool.and_eq_true, decide_eq_true_eq, decide_eq_true_eq, List.length_map, (h r hr).len]
    exact ⟨Int.le_refl _, Int.le_refl _⟩
  · obtain ⟨r, hr, rfl⟩ := List.mem_map.mp he
    rw [wayD, Bool.and_eq_true, List.all_eq_true, decide_eq_true_eq, ln]
    refine ⟨?_, fun d hd => ?_⟩
    · obtain ⟨x, hx, hn⟩ := (h r hr).has
      cases x with
      | none => exact absurd rfl hn
      | some i =>
        have : PyData.int i ∈ (r.map stD).filter someD := List.mem_filter.mpr ⟨List.mem_map.mpr ⟨some i, hx, rfl⟩, rfl⟩
        have := List.length_pos_of_mem this
        omega
    · obtain ⟨hd1, hd2⟩ := List.mem_filter.mp hd
      obtain ⟨x, hx, rfl⟩ := List.mem_map.mp hd1
      cases x with
      | none => cases hd2
      | some i =>
        have := (h r hr).range i hx
        show betD 0 _ (.int i) = true
        rw [betD, Bool.and_eq_true, decide_eq_true_eq, decide_eq_true_eq]
        omega
/-- the tuples of rows stand -/
inductive RowsAt (p : Addr) (H : Hp) : List Addr → List (List (Option Int)) → Prop
  | nil : RowsAt p H [] []
  | cons {t : Addr} {r : List (Option Int)} {ts : List Addr} {rows : List (List (Option Int))} : (t ≠ p ∧ H t = some (.tup (r.map stV))) → RowsAt p H ts rows → RowsAt p H (t :: ts) (r :: rows)
theorem RowsAt.go {p : Addr} {H H' : Hp} {ts : List Addr} {rows : List (List (Option Int))} (h : RowsAt p H ts rows) (g : ∀ (t : Addr) (r : List (Option Int)), t ≠ p → H t = some (.tup (r.map stV)) → H' t = some (.tup (r.map stV))) : RowsAt p H' ts rows := by
  induction h with
  | nil => exact .nil
  | cons a _ ih => exact .cons ⟨a.1, g _ _ a.1 a.2⟩ ih
theorem RowsAt.snoc {p : Addr} {H : Hp} {ts : List Addr} {rows : List (List (Option Int))} (h : RowsAt p H ts rows) {t : Addr} {r : List (Option Int)} (n : t ≠ p) (e : H t = some (.tup (r.map stV))) : RowsAt p H (ts ++ [t]) (rows ++ [r]) := by
  induction h with
  | nil => exact .cons ⟨n, e⟩ .nil
  | cons a _ ih => exact .cons a ih
theorem rs_st {p : Addr} {K : PySem.W.Frag} {H : Hp} (x : Option Int) : Rs p K H (stV x) (stD x) := by
  cases x with
  | none => exact rs_non
  | some i => exact rs_int i
theorem RowsAt.rs {p : Addr} {K : PySem.W.Frag} {H : Hp} {ts : List Addr} {rows : List (List (Option Int))} (h : RowsAt p H ts rows) : RsAll p K H (ts.map V.ref) (rowsD rows) := by
  induction h with
  | nil => exact rsNil
  | cons a _ ih => exact RsAll.cons (rs_tup a.1 a.2 (rsAll_of fun x _ => rs_st x)) ih
def spXRule (K : PySem.W.Frag) : Sp := fun vs H Q _ => ∃ (p : Addr) (n : Nat) (z : Str) (most : Int), vs = [.ref p, .str z, .int most] ∧ Pen H p n ∧ n < 1047000 ∧ lettersL z.cps.toList = true ∧ 1 ≤ most ∧ most ≤ 4 ∧
  ∀ (H' : Hp) (t : Addr) (ss : List PyData), But p H H' → Pen H' p (n + 45) → Rs p K H' (.ref t) (.tuple [.str z, .tuple ss]) → rulD (.tuple [.str z, .tuple ss]) = true → Q (.ref t) H'
section
variable {P : Program} {w : World} {K : PySem.W.Frag} {mg : Str → Option Value} {base : Heap} {f1 f2 f3 f4 : Addr} {d1 d2 d3 d4 : FuncData} {x2 : Addr} {y2 : FuncData}
theorem ok_xRule (TP : PenTxt K mg f1 f2 f3 f4 d1 d2 d3 d4) (T : RulTxt K mg x2 y2) {k : Nat} : FnOk P w K mg base CX0 (k + 4) x2 y2 ["pen", "letters", "most"] (spXRule K) := by
  have GT : FnOk P w K mg base CX0 (k + 3) f3 d3 ["pen", "many"] spTake := ok_take TP (k := k + 1)
  have GTC : FnOk P w K mg base CX0 (k + 3) f3 d3 ["pen", "many"] spTakeC := ok_takeC TP (k := k + 1)
  have GP : FnOk P w K mg base CX0 (k + 3) f4 d4 ["pen", "some"] (spPickC K) := ok_pickC TP (k := k)
  refine T.FXRule.ok scXRule (fun vs H Q E h => ?_) (fun cdv A outer s H vs Q E hr h => ?_)
  · obtain ⟨p, n, z, most, rfl, _⟩ := h
    rfl
  · obtain ⟨p, n, z, most, rfl, hP, hn, hl, m1, m4, q⟩ := h
    refine ⟨_, (Evl.pss_cut (ps_asg (pe_tup (pa_cons (pe_op op_add pe_int (pe_call GTC hr (by rfl) TP.gTake TP.FTake.kp TP.bTake .nil pass0 (pa_cons (pv 0) (pa_cons (pv 2) pa_nil)))) (pa_cons (pe_lst pa_nil) pa_nil))) (pg_tup rfl (pgs_cons (pg_name (i := 3) scXRule.nd rfl (.inr rfl)) (pgs_cons (pg_name (i := 4) scXRule.nd rfl (.inl rfl)) pgs_nil))))
 (pss_cons (ps_for PassesOwn.never rfl (pi_range1 (by rfl) T.range (pa_cons (pv 3) pa_nil)) (pg_name (i := 5) scXRule.nd rfl (.inl rfl))
 (Evl.pss_cut (ps_setLc (i := 6) (own := [("letter", 7)]) (g := gName 7) (tt := tYes) (by rfl) scXRule.nd rfl rfl (sw_true rfl rfl rfl (by decide +kernel)) (pi_str (pv 1)) (blkOk_by (N := ["pen", "letters", "most", "many", "states", "state", "row", "letter", "after"]) (sc := defScope sXRule) (by decide +kernel)) (fun _ _ _ _ _ => pg_name (i := 7) scXRule.nd rfl (Or.inl rfl)) (fun _ _ _ _ _ => pts_nil) (fun _ _ _ _ _ => (pe_call GP hr (by rfl) TP.gPick TP.FPick.kp TP.bPick .nil pass0 (pa_cons (pv 0) (pa_cons (pe_lst (pa_cons pe_non (pa_cons (pe_call GTC hr (by rfl) TP.gTake TP.FTake.kp TP.bTake .nil pass0 (pa_cons (pv 0) (pa_cons (pv 3) pa_nil))) (pa_cons (pe_call GTC hr (by rfl) TP.gTake TP.FTake.kp TP.bTake .nil pass0 (pa_cons (pv 0) (pa_cons (pv 3) pa_nil))) pa_nil)))) pa_nil)))))
 (Evl.pss_cut (ps_if (pt_cmpR op_notIn_seq pe_bl (pe_lc (own := [("after", 8)]) (g := gName 8) (tt := tYes) (by rfl) scXRule.nd (pi_list (pv 6)) (blkOk_by (N := ["pen", "letters", "most", "many", "states", "state", "row", "letter", "after"]) (sc := defScope sXRule) (by decide +kernel)) (fun _ _ _ _ _ => pg_name (i := 8) scXRule.nd rfl (Or.inl rfl)) (fun _ _ _ _ _ => pts_nil) (fun _ _ _ _ _ => (pe_cmpR op_isN (pv 8) pe_non (nomark _)))) (by rfl)) (pss_one (ps_asg (pe_call GTC hr (by rfl) TP.gTake TP.FTake.kp TP.bTake .nil pass0 (pa_cons (pv 0) (pa_cons (pv 3) pa_nil))) (pg_sub (pv 6) (pe_call GTC hr (by rfl) TP.gTake TP.FTake.kp TP.bTake .nil pass0 (pa_cons (pv 0) (pa_cons (pe_callB call_len_seq (by rfl) T.len PySem.boot_len (pa_cons (pv 6) pa_nil)) pa_nil))) set_list))) pss_nil)
 (pss_one (ps_expr (pe_bm PySem.F.plainAttrs_list PySem.F.slot_list_append PySem.F.type_list_append mt_append (pv 4) (pa_cons (pe_callTy call_tuple_of (by rfl) T.tuple (by decide +kernel) (pa_cons (pv 6) pa_nil)) pa_nil)))))))
 (pss_one (ps_ret (pe_tup (pa_cons (pv 1) (pa_cons (pe_callTy call_tuple_of (by rfl) T.tuple (by decide +kernel) (pa_cons (pv 4) pa_nil)) pa_nil))))))), ?_⟩
    obtain ⟨c, hP⟩ := hP.at
    have z3 : z.cps.size ≤ 3 := ltrD_len (d := .str z) hl
    have sl3 : ∀ {m : Nat}, m ≤ 3 → m < sizeLine := fun h => Nat.lt_of_le_of_lt h (by decide)
    refine ⟨fun σ H' => ∃ (mi : Int) (S : Addr), σ = [some (.ref p), some (.str z), some (.int most), some (.int mi), some (.ref S), none, none, none, none] ∧ 1 ≤ mi ∧ mi ≤ 4 ∧ But p H H' ∧ PenC H' p c (n + 1) ∧ H' S = some (.lst []) ∧ S ≠ p ∧ S ≠ c ∧ H S = none, ?_, ?_⟩
    · refine ⟨_, rfl, _, rfl, p, c, most, n, rfl, hP, by omega, by omega, log_small (m := 4) (by omega) (by decide), fun H1 k1 b1 hP1 k10 k11 => ⟨_, _, rfl, rfl, (by show 0 ≤ sizeLine; decide), fun S hS => ⟨(by show 2 ≤ sizeLine; decide), fun t ht => ?_⟩⟩⟩
      have x1 := same_upd (o := HO.lst []) hS
      have x2 := same_upd (o := HO.tup [.int (1 + k1), .ref S]) ht
      obtain ⟨c1, _, _, hp1, hc1, _⟩ := hP1.ex
      refine ⟨t, _, rfl, SqT.of upd_same, rfl, _, _, rfl, _, _, rfl, rfl, 1 + k1, S, rfl, by omega, by omega, b1.trans (But.of (x1.trans x2)), hP1.keep (fun o e => (x1.trans x2) _ _ e) (fun o e => (x1.trans x2) _ _ e), x2 _ _ upd_same, (ne_of_none hp1 hS).symm, (ne_of_none hc1 hS).symm, but_none b1 (ne_of_none hp1 hS).symm hS⟩
    rintro σ H1 ⟨mi, S, rfl, i1, i4, b1, hP1, hS, nSp, nSc, S0⟩
    refine ⟨_, rfl, _, rfl, by omega, by omega, ?_⟩
    have lift : ∀ {i : Nat} {v5 v6 : Option V}, True := trivial
    refine for_range (lo := 0) (n := mi.toNat) (fun i σ H' => ∃ v5 v6 ts rows, σ = [some (.ref p), some (.str z), some (.int most), some (.int mi), some (.ref S), v5, v6, none, none] ∧ But p H H' ∧ PenC H' p c (n + 1 + 11 * i) ∧ H' S = some (.lst (ts.map V.ref)) ∧ RowsAt p H' ts rows ∧ rows.length = i ∧ ts.length = i ∧ ∀ r ∈ rows, RowOk z.length mi.toNat r)
      ⟨none, none, [], [], rfl, b1, hP1, hS, .nil, rfl, rfl, fun _ h => nomatch h⟩ ?_ ?_
    · rintro i σ H2 hi ⟨v5, v6, ts, rows, rfl, b2, hP2, hS2, hR, lr, lt, ok⟩
      -- row
      refine ⟨fun σ H' => ∃ (R : Addr) (r : List (Option Int)), σ = [some (.ref p), some (.str z), some (.int most), some (.int mi), some (.ref S), some (.int (0 + (i : Int))), some (.ref R), none, none] ∧ But p H H' ∧ PenC H' p c (n + 1 + 11 * i + 9) ∧ H' S = some (.lst (ts.map V.ref)) ∧ RowsAt p H' ts rows ∧ H' R = some (.lst (r.map stV)) ∧ r.length = z.length ∧ (∀ j, some j ∈ r → 0 ≤ j ∧ j < mi) ∧ R ≠ p ∧ R ≠ S ∧ R ≠ c ∧ H R = none, ?_, ?_⟩
      · refine ⟨_, rfl, z, rfl, fun D nD => ?_⟩
        obtain ⟨_, _, _, hp2, hc2, _⟩ := hP2.ex
        have nDp : D ≠ p := (ne_of_none hp2 nD).symm
        have nDc : D ≠ c := (ne_of_none hc2 nD).symm
        have nDS : D ≠ S := (ne_of_none hS2 nD).symm
        refine lc_it walk_str (fun j H' => ∃ r : List (Option Int), But p H2 H' ∧ PenC H' p c (n + 1 + 11 * i + 3 * j) ∧ H' D = some (.lst (r.map stV)) ∧ r.length = j ∧ (∀ j, some j ∈ r → 0 ≤ j ∧ j < mi)) ⟨[], But.of (same_upd nD), hP2.keep (fun o e => same_upd nD _ _ e) (fun o e => same_upd nD _ _ e), upd_same, rfl, fun _ h => nomatch h⟩ (fun _ _ _ _ => trivial) ?_ ?_
        · rintro j u H' H3 hj ⟨r, bj, hPj, hD, lj, rj⟩ ⟨rfl, cc, hcc, rfl⟩
          refine ⟨rfl, ?_⟩
          refine ⟨_, rfl, _, rfl, _, rfl, p, c, mi, _, rfl, hPj, by omega, by omega, log_small (m := 4) (by omega) (by decide), fun Ha ka ba hPa ka0 ka1 => ?_⟩
          refine ⟨_, rfl, _, rfl, p, c, mi, _, rfl, hPa, by omega, by omega, log_small (m := 4) (by omega) (by decide), fun Hb kb bb hPb kb0 kb1 => ⟨(by show 3 ≤ sizeLine; decide), fun L hL => ?_⟩⟩
          have xL := same_upd (o := HO.lst [V.non, .int ka, .int kb]) hL
          obtain ⟨_, _, _, hpb, hcb, _⟩ := hPb.ex
          refine ⟨p, c, L, _, _, rfl, hPb.keep (fun o e => xL _ _ e) (fun o e => xL _ _ e), by omega, SqL.of upd_same, (ne_of_none hpb hL).symm, (by show 0 < 3; decide), (by show 3 ≤ 1000; decide), fun Hc m v bc hPc hm => ?_⟩
          have bD : But p H3 Hc := (ba.trans bb).trans ((But.of xL).trans bc)
          have hv : ∃ x : Option Int, v = stV x ∧ ∀ j, x = some j → 0 ≤ j ∧ j < mi := by
            match m, hm with
            | 0, hm => exact ⟨none, (Option.some.inj hm).symm, fun _ e => nomatch e⟩
            | 1, hm => exact ⟨some ka, (Option.some.inj hm).symm, fun j e => by cases e; exact ⟨ka0, ka1⟩⟩
            | 2, hm => exact ⟨some kb, (Option.some.inj hm).symm, fun j e => by cases e; exact ⟨kb0, kb1⟩⟩
            | m + 3, hm => exact absurd hm (by simp)
          obtain ⟨x, rfl, hx⟩ := hv
          refine ⟨_, bD _ _ nDp hD, ?_, r ++ [x], ?_, ?_, ?_, ?_, ?_⟩
          · rw [List.length_map, lj]
            exact sl3 (by omega)
          · intro b o nb e
            rw [upd_ne (ne_of_none e nD)]
            exact bD _ _ nb (bj _ _ nb e)
          · have hk : n + 1 + 11 * i + 3 * (j + 1) = n + 1 + 11 * i + 3 * j + 1 + 1 + 1 := by omega
            rw [hk]
            exact hPc.keep (fun o e => by rw [upd_ne nDp.symm]; exact e) (fun o e => by rw [upd_ne nDc.symm]; exact e)
          · rw [upd_same, List.map_append]
            rfl
          · rw [List.length_append, lj]
            rfl
          · intro j hj
            rcases List.mem_append.mp hj with h | h
            · exact rj j h
            · exact hx j (List.mem_singleton.mp h).symm
        · rintro H' ⟨r, bj, hPj, hD, lj, rj⟩
          refine ⟨D, r, rfl, b2.trans bj, hPj.mono (by omega), bj _ _ nSp hS2, hR.go fun t _ nt e => bj _ _ nt e, hD, lj, rj, nDp, nDS, nDc, but_none b2 nDp nD⟩
      rintro σ H3 ⟨R, r, rfl, b3, hP3, hS3, hR3, hr3, lr3, rg, nRp, nRS, nRc, R0⟩
      -- one that lets a letter by
      refine ⟨fun σ H' => ∃ (R : Addr) (r : List (Option Int)), σ = [some (.ref p), some (.str z), some (.int most), some (.int mi), some (.ref S), some (.int (0 + (i : Int))), some (.ref R), none, none] ∧ But p H H' ∧ PenC H' p c (n + 1 + 11 * i + 11) ∧ H' S = some (.lst (ts.map V.ref)) ∧ RowsAt p H' ts rows ∧ H' R = some (.lst (r.map stV)) ∧ RowOk z.length mi.toNat r ∧ R ≠ p ∧ R ≠ S ∧ R ≠ c ∧ H R = none, ?_, ?_⟩
      · refine ⟨_, rfl, R, rfl, ⟨_, SqL.of hr3⟩, fun D nD => ?_⟩
        obtain ⟨_, _, _, hp3, hc3, _⟩ := hP3.ex
        have xD := same_upd (o := HO.lst []) nD
        refine lc_lstO (xs := r.map stV) (fun j H' => Same H3 H' ∧ H' D = some (.lst ((r.take j).map fun x => V.bl (decide (stV x = V.non))))) ⟨xD, upd_same⟩ (fun i H' h => h.1.seq (SqL.of hr3)) ?_ ?_
        · rintro j u H' hu ⟨sm, hD⟩
          rw [List.getElem?_map] at hu
          cases e : r[j]? with
          | none =>
            rw [e] at hu
            cases hu
          | some x =>
            rw [e] at hu
            cases hu
            refine ⟨rfl, ?_⟩
            refine ⟨_, rfl, rfl, _, hD, ?_, same_new sm nD, ?_⟩
            · rw [List.length_map]
              have := List.length_take_le' j r
              exact sl3 (by have : z.length ≤ 3 := z3; omega)
            · rw [upd_same, List.take_succ, e, List.map_append]
              rfl
        · rintro H' ⟨sm, hD⟩
          rw [List.length_map, List.take_length] at hD
          have fl : (r.map fun x => V.bl (decide (stV x = V.non))).all flatV = true := by
            rw [List.all_map, List.all_eq_true]
            exact fun _ _ => rfl
          have hP4 : PenC H' p c (n + 1 + 11 * i + 9) := hP3.keep (fun o e => sm _ _ e) (fun o e => sm _ _ e)
          refine ⟨D, _, rfl, .inl (SqL.of hD), rfl, fl, _, rfl, ite2 (fun u => ?_) (fun u => ?_)⟩
          · have lr4 : 0 < r.length := by rw [lr3]; exact letters_pos hl
            refine ⟨_, rfl, _, rfl, p, c, mi, _, rfl, hP4, by omega, by omega, log_small (m := 4) (by omega) (by decide), fun Ha ka ba hPa ka0 ka1 => ?_⟩
            have hRa : Ha R = some (.lst (r.map stV)) := ba _ _ nRp (sm _ _ hr3)
            refine ⟨_, rfl, _, rfl, _, rfl, R, _, rfl, .inl (SqL.of hRa), p, c, _, _, rfl, hPa, by omega, by rw [List.length_map]; omega, log_small (m := 4) (by rw [List.length_map]; have : z.length ≤ 3 := z3; omega) (by decide), fun Hb kb bb hPb kb0 kb1 => ?_⟩
            rw [List.length_map] at kb1
            have hRb : Hb R = some (.lst (r.map stV)) := bb _ _ nRp hRa
            have b34 : But p H3 Hb := (But.of sm).trans (ba.trans bb)
            have nxt : But p H3 (upd Hb R (.lst ((r.set kb.toNat (some ka)).map stV))) → True := fun _ => trivial
            refine ⟨R, _, kb, kb.toNat, rfl, rfl, hRb, ixN_of kb0 (by rw [List.length_map]; exact kb1), ?_⟩
            have er : (r.map stV).set kb.toNat (.int ka) = (r.set kb.toNat (some ka)).map stV := by rw [List.map_set]; rfl
            rw [er]
            refine ⟨R, r.set kb.toNat (some ka), rfl, fun b o nb e => ?_, ?_, ?_, ?_, upd_same, ⟨?_, ?_, ?_⟩, nRp, nRS, nRc, R0⟩
            · rw [upd_ne (ne_of_none e R0)]
              exact b34 _ _ nb (b3 _ _ nb e)
            · exact hPb.keep (fun o e => by rw [upd_ne nRp.symm]; exact e) (fun o e => by rw [upd_ne nRc.symm]; exact e)
            · rw [upd_ne nRS.symm]
              exact b34 _ _ nSp hS3
            · refine hR3.go fun t _ nt e => ?_
              rw [upd_ne (ne_of e hr3 (by intro z; cases z))]
              exact b34 _ _ nt e
            · rw [List.length_set, lr3]
            · exact ⟨some ka, List.mem_of_getElem? (i := kb.toNat) (by rw [List.getElem?_set_self (by omega)]), by simp⟩
            · intro j hj
              rcases List.mem_or_eq_of_mem_set hj with h | h
              · have := rg j h
                omega
              · cases h
                omega
          · refine ⟨R, r, rfl, b3.trans (But.of sm), hP4.mono (by omega), sm _ _ hS3, hR3.go fun t _ nt e => sm _ _ e, sm _ _ hr3, ⟨lr3, ?_, fun j hj => ?_⟩, nRp, nRS, nRc, R0⟩
            · have u2 : inV (.bl false) (r.map fun x => V.bl (decide (stV x = V.non))) = true := by
                cases e : inV (.bl false) (r.map fun x => V.bl (decide (stV x = V.non))) with
                | true => rfl
                | false => exact absurd (by rw [e]; rfl) u
              unfold inV at u2
              rw [List.any_map, List.any_eq_true] at u2
              obtain ⟨x, hx, hx2⟩ := u2
              refine ⟨x, hx, fun e => ?_⟩
              subst e
              exact absurd hx2 (by decide)
            · have := rg j hj
              omega
      rintro σ H4 ⟨R, r, rfl, b4, hP4, hS4, hR4, hr4, okr, nRp, nRS, nRc, _⟩
      refine ⟨_, rfl, .inl ⟨rfl, _, SqL.of hS4⟩, _, rfl, R, _, rfl, .inl ⟨SqL.of hr4, fun t ht => ?_⟩⟩
      have xt := same_upd (o := HO.tup (r.map stV)) ht
      obtain ⟨_, _, _, hp4, hc4, _⟩ := hP4.ex
      have ntp : t ≠ p := (ne_of_none hp4 ht).symm
      refine ⟨S, _, _, rfl, rfl, xt _ _ hS4, ?_, ?_⟩
      · rw [List.length_map, lt]
        exact sl3 (by omega)
      · refine ⟨_, _, ts ++ [t], rows ++ [r], rfl, ?_, ?_, ?_, ?_, ?_, ?_, ?_⟩
        · intro b o nb e
          rw [upd_ne (ne_of_none e S0)]
          exact xt _ _ (b4 _ _ nb e)
        · exact (hP4.keep (fun o e => by rw [upd_ne nSp.symm]; exact xt _ _ e) (fun o e => by rw [upd_ne nSc.symm]; exact xt _ _ e)).mono (by omega)
        · rw [upd_same, List.map_append]
          rfl
        · refine RowsAt.snoc (hR4.go fun t' _ nt e => ?_) ntp ?_
          · rw [upd_ne (ne_of e hS4 (by intro z; cases z))]
            exact xt _ _ e
          · rw [upd_ne (ne_of_none hS4 ht).symm]
            exact upd_same
        · rw [List.length_append, lr]
          rfl
        · rw [List.length_append, lt]
          rfl
        · intro r' hr'
          rcases List.mem_append.mp hr' with h | h
          · exact ok r' h
          · rw [List.mem_singleton.mp h]
            exact okr
    · rintro σ H2 ⟨v5, v6, ts, rows, rfl, b2, hP2, hS2, hR, lr, lt, ok⟩
      refine ⟨_, rfl, _, rfl, S, _, rfl, .inl ⟨SqL.of hS2, fun t ht => ⟨(by show 2 ≤ sizeLine; decide), fun u hu => ?_⟩⟩⟩
      have xt := same_upd (o := HO.tup (ts.map V.ref)) ht
      have xu := same_upd (o := HO.tup [V.str z, V.ref t]) hu
      have x2 := xt.trans xu
      obtain ⟨_, _, _, hp2, hc2, _⟩ := hP2.ex
      have ntp : t ≠ p := (ne_of_none hp2 ht).symm
      have nup : u ≠ p := (ne_of_none (xt _ _ hp2) hu).symm
      have hz : z.length ≤ sizeLine := Nat.le_trans (show z.length ≤ 3 from z3) (by decide)
      refine q _ u (rowsD rows) (b2.trans (But.of x2)) ((hP2.keep (fun o e => x2 _ _ e) (fun o e => x2 _ _ e)).mono (by omega)).pen ?_ ?_
      · exact rs_tup nup upd_same (RsAll.cons (rs_str z hz) (RsAll.cons (rs_tup ntp (xu _ _ upd_same) (hR.go fun t' _ _ e => x2 _ _ e).rs) rsNil))
      · exact rulD_rows hl (by omega) (by omega) (by rw [lr]; exact ok)
end
end My
/-! ### the law's path -/
namespace My
open PySem PySem.Spec PyProof.Rows L2
abbrev sXPath : Stmt := topS 37
theorem scXPath : FnScope ["pen", "rule", "state", "many", "text", "turn", "at", "k"] ["pen", "rule", "state", "many"] (defScope sXPath) := ⟨rfl, rfl, rfl, by decide +kernel, rfl, by decide +kernel, by decide +kernel⟩
structure PathTxt (K : PySem.W.Frag) (mg : Str → Option Value) (x3 : Addr) (y3 : FuncData) : Prop where
  range : mg "range" = none
  len : mg "len" = none
  FXPath : Fun K "_law_x_path" "_law_x_path" sXPath x3 y3
  bXPath : Binds K y3 ["pen", "rule", "state", "many"] []
  gXPath : mg "_law_x_path" = some (.ref x3)
theorem PenC.same {H H' : Hp} {p c : Addr} {n : Nat} (h : PenC H p c n) (s : Same H H') : PenC H' p c n := h.keep (fun _ e => s _ _ e) (fun _ e => s _ _ e)
def spXPath (K : PySem.W.Frag) : Sp := fun vs H Q _ => ∃ (p c : Addr) (n : Nat) (x : V) (z : Str) (ss : List PyData) (st many : Int), vs = [.ref p, x, .int st, .int many] ∧ PenC H p c n ∧ n < 1047000 ∧ Rs p K H x (.tuple [.str z, .tuple ss]) ∧ rulD (.tuple [.str z, .tuple ss]) = true ∧ 0 ≤ st ∧ st < (ss.length : Int) ∧ 0 ≤ many ∧ many ≤ 10 ∧
  ∀ (H' : Hp) (t : Addr) (y : Str) (st' : Int), But p H H' → PenC H' p c (n + many.toNat) → H' t = some (.tup [.str y, .int st']) → t ≠ p → y.length = many.toNat → (∀ c ∈ y.cps.toList, c ∈ z.cps.toList) → 0 ≤ st' → st' < (ss.length : Int) → Q (.ref t) H'
/-- what stands in a rule's table at a state -/
theorem rul_at {K : PySem.W.Frag} {H : Hp} {z : Str} {xs : List V} {ss : List PyData} (h : rulD (.tuple [.str z, .tuple ss]) = true) (hA : RpAll K H xs ss) {i : Int} (i0 : 0 ≤ i) (i1 : i < (ss.length : Int)) :
    ∃ a ys es, atI xs i = some (.ref a) ∧ SqT K H a ys ∧ RpAll K H ys es ∧ ss[i.toNat]? = some (.tuple es) ∧ es.length = z.length ∧ ys.length = z.length ∧ (∀ d ∈ es, d = .none ∨ ∃ i, d = .int i ∧ 0 ≤ i ∧ i < (ss.length : Int)) ∧ wayD (ss.length : Int) (.tuple es) = true := by
  obtain ⟨_, _, _, hes⟩ := rul_of (L := z.cps.toList) h
  have ln := hA.len
  have hx : xs[i.toNat]? = some (xs[i.toNat]'(by omega)) := List.getElem?_eq_getElem _
  obtain ⟨e, he, re⟩ := hA.at hx
  obtain ⟨es, rfl, el, ed⟩ := hes e (List.mem_of_getElem? he)
  obtain ⟨a2, ys, ea, hS3, hA3⟩ := re.isTup'
  have hi : atI xs i = some (.ref a2) := by
    rw [← ea, ← hx, show i = ((i.toNat : Nat) : Int) by omega]
    exact (atI_nat hx).trans hx.symm
  rw [rulD, Bool.and_eq_true, Bool.and_eq_true] at h
  exact ⟨a2, ys, es, hi, hS3, hA3, he, el, hA3.len.trans el, ed, List.all_eq_true.mp h.2.2 _ (List.mem_of_getElem? he)⟩
theorem way_some {m : Int} {es : List PyData} (h : wayD m (.tuple es) = true) : ∃ k, k < es.length ∧ someD (es.getD k .none) = true := by
  rw [wayD, Bool.and_eq_true, decide_eq_true_eq] at h
  have h1 : 0 < (es.filter someD).length := by omega
  obtain ⟨d, hd⟩ := List.exists_mem_of_length_pos h1
  obtain ⟨hd1, hd2⟩ := List.mem_filter.mp hd
  obtain ⟨k, hk, rfl⟩ := List.mem_iff_getElem.mp hd1
  refine ⟨k, hk, ?_⟩
  rw [List.getD_eq_getElem?_getD, List.getElem?_eq_getElem hk]
  exact hd2
theorem ix_tupK {X : Cx} {K : PySem.W.Frag} (e : X.K = K) : IxR X (rIxT K) := by
  subst e
  exact ix_tup
theorem str_app (x y : Str) : (x ++ y).cps.toList = x.cps.toList ++ y.cps.toList := by
  show (x.cps ++ y.cps).toList = _
  simp
theorem str_len (x : Str) : x.cps.toList.length = x.length := Array.length_toList
section
variable {P : Program} {w : World} {K : PySem.W.Frag} {mg : Str → Option Value} {base : Heap} {f1 f2 f3 f4 : Addr} {d1 d2 d3 d4 : FuncData} {x3 : Addr} {y3 : FuncData}
theorem ok_xPath (TP : PenTxt K mg f1 f2 f3 f4 d1 d2 d3 d4) (T : PathTxt K mg x3 y3) {k : Nat} : FnOk P w K mg base CX0 (k + 4) x3 y3 ["pen", "rule", "state", "many"] (spXPath K) := by
  have GP : FnOk P w K mg base CX0 (k + 3) f4 d4 ["pen", "some"] (spPickC K) := ok_pickC TP (k := k)
  refine T.FXPath.ok scXPath (fun vs H Q E h => ?_) (fun cdv A outer s H vs Q E hr h => ?_)
  · obtain ⟨p, c, n, x, z, ss, st, many, rfl, _⟩ := h
    rfl
  · obtain ⟨p, c, n, x, z, ss, st, many, rfl, hP, hn, hx, zr, s0, s1, m0, m1, q⟩ := h
    refine ⟨_, (Evl.pss_cut (ps_set (i := 4) scXPath.nd rfl (.inl rfl) pe_str)
 (pss_cons (ps_for PassesOwn.never rfl (pi_range1 (by rfl) T.range (pa_cons (pv 3) pa_nil)) (pg_name (i := 5) scXPath.nd rfl (.inl rfl))
 (Evl.pss_cut (ps_set (i := 6) scXPath.nd rfl (.inl rfl) (pe_call GP hr (by rfl) TP.gPick TP.FPick.kp TP.bPick .nil pass0 (pa_cons (pv 0) (pa_cons (pe_lc (own := [("k", 7)]) (g := gName 7) (by rfl) scXPath.nd (pi_range1 (by rfl) T.range (pa_cons (pe_callB call_len_str (by rfl) T.len PySem.boot_len (pa_cons (pe_ix (ix_tupK (K := K) rfl) (pv 1) pe_int (fun _ _ => rfl)) pa_nil)) pa_nil)) (blkOk_by (N := ["pen", "rule", "state", "many", "text", "turn", "at", "k"]) (sc := defScope sXPath) (by decide +kernel)) (fun _ _ _ _ _ => pg_name (i := 7) scXPath.nd rfl (Or.inl rfl)) (fun _ _ _ _ _ => (pts_one (pt_cmpR op_notN (pe_ix (ix_tupK (K := K) rfl) (pe_ix (ix_tupK (K := K) rfl) (pe_ix (ix_tupK (K := K) rfl) (pv 1) pe_int (fun _ _ => rfl)) (pv 2) (fun _ _ => rfl)) (pv 7) (fun _ _ => rfl)) pe_non (nomark _)))) (fun _ _ _ _ _ => (pv 7))) pa_nil))))
 (pss_one (ps_asg (pe_tup (pa_cons (pe_op op_add_str (pv 4) (pe_ix ix_str (pe_ix (ix_tupK (K := K) rfl) (pv 1) pe_int (fun _ _ => rfl)) (pv 6) (fun _ _ => rfl))) (pa_cons (pe_ix (ix_tupK (K := K) rfl) (pe_ix (ix_tupK (K := K) rfl) (pe_ix (ix_tupK (K := K) rfl) (pv 1) pe_int (fun _ _ => rfl)) (pv 2) (fun _ _ => rfl)) (pv 6) (fun _ _ => rfl)) pa_nil))) (pg_tup rfl (pgs_cons (pg_name (i := 4) scXPath.nd rfl (.inl rfl)) (pgs_cons (pg_name (i := 2) scXPath.nd rfl (.inr rfl)) pgs_nil)))))))
 (pss_one (ps_ret (pe_tup (pa_cons (pv 4) (pa_cons (pv 2) pa_nil))))))), ?_⟩
    obtain ⟨hl, r1, r4, _⟩ := rul_of (L := z.cps.toList) zr
    have z3 : z.length ≤ 3 := ltrD_len (d := .str z) hl
    have zs : z.length ≤ sizeLine := Nat.le_trans z3 (by decide)
    have sl3 : ∀ {m : Nat}, m ≤ 100 → m < sizeLine := fun h => Nat.lt_of_le_of_lt h (by decide)
    refine ⟨fun σ H' => σ = [some (.ref p), some x, some (.int st), some (.int many), some (.str ""), none, none, none] ∧ H' = H, ⟨rfl, rfl⟩, ?_⟩
    rintro σ H ⟨rfl, rfl⟩
    refine ⟨_, rfl, _, rfl, by omega, by omega, ?_⟩
    refine for_range (lo := 0) (n := many.toNat) (fun i σ H' => ∃ (y : Str) (st' : Int) (v5 v6 : Option V), σ = [some (.ref p), some x, some (.int st'), some (.int many), some (.str y), v5, v6, none] ∧ But p H H' ∧ PenC H' p c (n + i) ∧ y.length = i ∧ (∀ c ∈ y.cps.toList, c ∈ z.cps.toList) ∧ 0 ≤ st' ∧ st' < (ss.length : Int))
      ⟨_, st, none, none, rfl, fun _ _ _ e => e, hP, rfl, (fun c hc => absurd (show c ∈ ([] : List Nat) from hc) (by simp)), s0, s1⟩ ?_ ?_
    · rintro i σ H1 hi ⟨y, st', v5, v6, rfl, b1, hP1, ly, my, t0, t1⟩
      have hx1 := (hx.go (butN_but b1)).rp
      obtain ⟨a, u, v, pd, td, rfl, e, hS, hp, ht⟩ := hx1.two rfl
      cases e
      obtain ⟨b, xs, rfl, hS2, hA⟩ := ht.isTup'
      obtain rfl := hp.isStr'
      obtain ⟨a2, ys, es, ha2, hS3, hA3, he, el, yl, ed, hw⟩ := rul_at zr hA t0 t1
      refine ⟨fun σ H' => ∃ (k : Nat) (d : PyData) (yk : V), σ = [some (.ref p), some (.ref a), some (.int st'), some (.int many), some (.str y), some (.int (0 + (i : Int))), some (.int k), none] ∧ But p H1 H' ∧ PenC H' p c (n + i + 1) ∧ k < z.length ∧ es[k]? = some d ∧ ys[k]? = some yk ∧ someD d = true, ?_, ?_⟩
      · refine ⟨_, rfl, _, rfl, a, _, 0, _, rfl, rfl, hS, atI_nat (j := 0) rfl, z, rfl, zs, _, rfl, by omega, by omega, fun D nD => ?_⟩
        have xD := same_upd (o := HO.lst []) nD
        refine lc_range (lo := 0) (n := z.length) (fun j H' => Same H1 H' ∧ H' D = some (.lst (((List.range j).filter fun k => someD (es.getD k .none)).map fun k : Nat => V.int (k : Int)))) ⟨xD, upd_same⟩ ?_ ?_
        · rintro j H' hj ⟨sm, hD⟩
          have hyk : ys[j]? = some (ys[j]'(by omega)) := List.getElem?_eq_getElem _
          obtain ⟨d, hd, rd⟩ := hA3.at hyk
          have ev : (!decide (ys[j]'(by omega) = V.non)) = someD (es.getD j .none) := by
            rw [← someV_eq, some_of rd, List.getD_eq_getElem?_getD, hd]
            rfl
          refine ⟨rfl, ?_⟩
          refine ⟨_, rfl, a, _, 1, _, rfl, rfl, same_tup sm hS, atI_nat (j := 1) rfl, _, rfl, b, xs, st', _, rfl, rfl, same_tup sm hS2, ha2, _, rfl, a2, ys, _, _, rfl, rfl, same_tup sm hS3, (by rw [Int.zero_add]; exact atI_nat hyk), rfl, _, rfl, ?_⟩
          rw [ev]
          have hk : j ∈ List.range j → False := fun h => absurd (List.mem_range.mp h) (Nat.lt_irrefl _)
          refine ite2 (fun u => ?_) (fun u => ?_)
          · refine ⟨_, rfl, _, hD, ?_, same_new sm nD, ?_⟩
            · rw [List.length_map]
              have h1 := List.length_filter_le (fun k => someD (es.getD k .none)) (List.range j)
              rw [List.length_range] at h1
              exact sl3 (by omega)
            · rw [upd_same, List.range_succ, List.filter_append, List.map_append, List.filter_cons, u, Int.zero_add]
              rfl
          · refine ⟨sm, ?_⟩
            rw [hD, List.range_succ, List.filter_append, List.filter_cons, eq_false_of_ne_true u]
            simp
        · rintro H' ⟨sm, hD⟩
          have nDp := new_ne hP1.pen nD
          have hP2 := hP1.same sm
          obtain ⟨k0, k1, k2⟩ := way_some hw
          have hmem : k0 ∈ (List.range z.length).filter fun k => someD (es.getD k .none) := List.mem_filter.mpr ⟨List.mem_range.mpr (by omega), k2⟩
          have hpos := List.length_pos_of_mem hmem
          have hle := List.length_filter_le (fun k => someD (es.getD k .none)) (List.range z.length)
          rw [List.length_range] at hle
          refine ⟨p, c, D, _, n + i, rfl, hP2, by omega, SqL.of hD, nDp, (by rw [List.length_map]; exact hpos), (by rw [List.length_map]; omega), fun H2 m v b2 hP3 hm => ?_⟩
          rw [List.getElem?_map] at hm
          cases e : ((List.range z.length).filter fun k => someD (es.getD k .none))[m]? with
          | none =>
            rw [e] at hm
            cases hm
          | some k =>
            rw [e] at hm
            obtain rfl := Option.some.inj hm
            obtain ⟨q1, q2⟩ := List.mem_filter.mp (List.mem_of_getElem? e)
            have q3 := List.mem_range.mp q1
            have hd : es[k]? = some (es[k]'(by omega)) := List.getElem?_eq_getElem _
            refine ⟨k, _, _, rfl, (But.of sm).trans b2, hP3, q3, hd, List.getElem?_eq_getElem (by omega), ?_⟩
            rw [List.getD_eq_getElem?_getD, hd] at q2
            exact q2
      rintro σ H2 ⟨k, d, yk, rfl, b2, hP2, kl, hd, hyk, sd⟩
      have b12 := b1.trans b2
      have hx2 := (hx.go (butN_but b12)).rp
      obtain ⟨a', u, v, pd, td, ea, e, hS', hp', ht'⟩ := hx2.two rfl
      cases ea
      cases e
      obtain ⟨b', xs', rfl, hS2', hA'⟩ := ht'.isTup'
      obtain rfl := hp'.isStr'
      obtain ⟨a2', ys', es', ha2', hS3', hA3', he', el', yl', ed', hw'⟩ := rul_at zr hA' t0 t1
      rw [he] at he'
      cases he'
      have hy' : ys'[k]? = some (ys'[k]'(by omega)) := List.getElem?_eq_getElem _
      obtain ⟨d', hd', rd'⟩ := hA3'.at hy'
      rw [hd] at hd'
      cases hd'
      rcases ed d (List.mem_of_getElem? hd) with rfl | ⟨v', rfl, v0, v1⟩
      · cases sd
      have ev := rd'.isInt
      rw [ev] at hy'
      have hzk : z.cps.toList[k]? = some (z.cps.toList[k]'(by rw [str_len]; exact kl)) := List.getElem?_eq_getElem _
      refine ⟨_, rfl, _, rfl, a, _, 0, _, rfl, rfl, hS', atI_nat (j := 0) rfl, _, rfl, z, (k : Int), _, rfl, rfl, zs, atI_nat hzk, _, _, rfl, rfl, ?_, ?_⟩
      · rw [ly]
        exact Nat.le_trans (show i + 1 ≤ 100 by omega) (by decide)
      refine ⟨_, rfl, a, _, 1, _, rfl, rfl, hS', atI_nat (j := 1) rfl, _, rfl, b', xs', st', _, rfl, rfl, hS2', ha2', _, rfl, a2', ys', (k : Int), _, rfl, rfl, hS3', atI_nat hy', (by show 2 ≤ sizeLine; decide), fun t ht => ?_⟩
      have xt := same_upd (o := HO.tup [V.str (y ++ ⟨#[z.cps.toList[k]'(by rw [str_len]; exact kl)]⟩), .int v']) ht
      refine ⟨t, _, rfl, SqT.of upd_same, rfl, _, _, rfl, _, _, rfl, rfl, _, v', _, _, rfl, b12.trans (But.of xt), (hP2.same xt).mono (by omega), ?_, ?_, v0, v1⟩
      · rw [← str_len, str_app, List.length_append, str_len, ly]
        rfl
      · intro c' hc
        rw [str_app] at hc
        rcases List.mem_append.mp hc with h | h
        · exact my c' h
        · have h2 : c' = z.cps.toList[k]'(by rw [str_len]; exact kl) := by simpa using h
          rw [h2]
          exact List.getElem_mem _
    · rintro σ H1 ⟨y, st', v5, v6, rfl, b1, hP1, ly, my, t0, t1⟩
      refine ⟨_, rfl, _, rfl, (by show 2 ≤ sizeLine; decide), fun t ht => ?_⟩
      have xt := same_upd (o := HO.tup [V.str y, .int st']) ht
      exact q _ t y st' (b1.trans (But.of xt)) (hP1.same xt) upd_same (new_ne hP1.pen ht) ly my t0 t1
end
end My
/-! ### the law's row -/
namespace My
open PySem PySem.Spec PyProof.Rows L2
abbrev sXRow : Stmt := topS 38
theorem scXRow : FnScope ["pen", "rule", "state", "most", "text", "marks", "states", "more", "at"] ["pen", "rule", "state", "most"] (defScope sXRow) := ⟨rfl, rfl, rfl, by decide +kernel, rfl, by decide +kernel, by decide +kernel⟩
structure RowTxt (K : PySem.W.Frag) (mg : Str → Option Value) (x4 : Addr) (y4 : FuncData) : Prop where
  len : mg "len" = none
  FXRow : Fun K "_law_x_row" "_law_x_row" sXRow x4 y4
  bXRow : Binds K y4 ["pen", "rule", "state", "most"] []
  gXRow : mg "_law_x_row" = some (.ref x4)
def spXRow (K : PySem.W.Frag) : Sp := fun vs H Q _ => ∃ (p c : Addr) (n : Nat) (x : V) (z : Str) (ss : List PyData) (st most : Int), vs = [.ref p, x, .int st, .int most] ∧ PenC H p c n ∧ n < 1046000 ∧ Rs p K H x (.tuple [.str z, .tuple ss]) ∧ rulD (.tuple [.str z, .tuple ss]) = true ∧ 0 ≤ st ∧ st < (ss.length : Int) ∧ 1 ≤ most ∧ most ≤ 6 ∧
  ∀ (H' : Hp) (t : Addr) (b r : Str), But p H H' → PenC H' p c (n + 30) → H' t = some (.tup [.str b, .str r]) → t ≠ p → b.length + r.length ≤ 20 → 0 < r.length → (∀ c ∈ b.cps.toList, c ∈ z.cps.toList) → (∀ c ∈ r.cps.toList, c ∈ z.cps.toList) → Q (.ref t) H'
theorem countP_lt {α : Type} {p q : α → Bool} : ∀ {l : List α}, (∀ x ∈ l, p x = true → q x = true) → (∃ x ∈ l, q x = true ∧ p x = false) → l.countP p < l.countP q
  | [], _, h => by obtain ⟨x, hx, _⟩ := h; cases hx
  | a :: l, h1, h2 => by
    have ih := @countP_lt α p q l fun x hx => h1 x (.tail _ hx)
    have le : l.countP p ≤ l.countP q := List.countP_mono_left fun x hx => h1 x (.tail _ hx)
    rw [List.countP_cons, List.countP_cons]
    obtain ⟨x, hx, hq, hp⟩ := h2
    rcases List.mem_cons.mp hx with rfl | hx
    · rw [hq, hp]
      simp
      omega
    · have := ih ⟨x, hx, hq, hp⟩
      have h3 := h1 a (.head _)
      cases hpa : p a <;> cases hqa : q a
      · simpa using this
      · simp; omega
      · rw [hpa, hqa] at h3; exact absurd (h3 rfl) (by decide)
      · simpa using this
/-- how many states are not met so far -/
def fresh (m : Nat) (sts : List Int) : Nat := (List.range m).countP fun i : Nat => decide (¬ (i : Int) ∈ sts)
theorem fresh_le (m : Nat) (sts : List Int) : fresh m sts ≤ m := by
  have := List.countP_le_length (p := fun i : Nat => decide (¬ (i : Int) ∈ sts)) (l := List.range m)
  rw [List.length_range] at this
  exact this
theorem fresh_lt {m : Nat} {sts : List Int} {s : Int} (h0 : 0 ≤ s) (h1 : s < (m : Int)) (hn : ¬ s ∈ sts) : fresh m (sts ++ [s]) < fresh m sts := by
  refine countP_lt (fun x _ hx => ?_) ⟨s.toNat, List.mem_range.mpr (by omega), ?_, ?_⟩
  · rw [decide_eq_true_eq] at hx ⊢
    exact fun h => hx (List.mem_append.mpr (.inl h))
  · rw [decide_eq_true_eq, show ((s.toNat : Nat) : Int) = s by omega]
    exact hn
  · rw [decide_eq_false_iff_not, show ((s.toNat : Nat) : Int) = s by omega]
    exact fun h => h (List.mem_append.mpr (.inr (.head _)))
theorem inV_int {s : Int} {sts : List Int} : inV (.int s) (sts.map V.int) = decide (s ∈ sts) := by
  unfold inV
  rw [List.any_map, Bool.eq_iff_iff, List.any_eq_true, decide_eq_true_eq]
  constructor
  · rintro ⟨x, hx, h⟩
    have h2 : (x == s) = true := h
    rw [beq_iff_eq] at h2
    rw [← h2]
    exact hx
  · exact fun h => ⟨s, h, show (s == s) = true from beq_self_eq_true s⟩
theorem before_idx {l : List Int} {a : Int} {m : Nat} (h : m < l.idxOf a) (hl : m < l.length) : ¬ l[m] = a := by
  unfold List.idxOf at h
  have := List.not_of_lt_findIdx h
  simpa using this
theorem flat_ints (sts : List Int) : (sts.map V.int).all flatV = true := by
  rw [List.all_map, List.all_eq_true]
  exact fun _ _ => rfl
theorem cut_list (z : Str) (lo hi : Option Int) : (cutS z lo hi).cps.toList = (z.cps.toList.drop (HT.sIx z.length 0 lo)).take (HT.sIx z.length z.length hi - HT.sIx z.length 0 lo) := by
  unfold cutS
  simp
theorem cut_mem {z : Str} {lo hi : Option Int} {c : Nat} (h : c ∈ (cutS z lo hi).cps.toList) : c ∈ z.cps.toList := by
  rw [cut_list] at h
  exact List.mem_of_mem_drop (List.mem_of_mem_take h)
theorem cut_to (z : Str) (k : Nat) (h : k ≤ z.length) : (cutS z none (some (k : Int))).length = k := by
  rw [← str_len, cut_list, HT.sIx_none, HT.sIx_nat, List.length_take, List.length_drop, str_len]
  omega
theorem cut_fromN (z : Str) (k : Nat) (h : k ≤ z.length) : (cutS z (some (k : Int)) none).length = z.length - k := by
  rw [← str_len, cut_list, HT.sIx_none, HT.sIx_nat, List.length_take, List.length_drop, str_len]
  omega
section
variable {P : Program} {w : World} {K : PySem.W.Frag} {mg : Str → Option Value} {base : Heap} {f1 f2 f3 f4 : Addr} {d1 d2 d3 d4 : FuncData} {x3 x4 : Addr} {y3 y4 : FuncData}
theorem ok_xRow (TP : PenTxt K mg f1 f2 f3 f4 d1 d2 d3 d4) (TH : PathTxt K mg x3 y3) (T : RowTxt K mg x4 y4) {k : Nat} : FnOk P w K mg base CX0 (k + 5) x4 y4 ["pen", "rule", "state", "most"] (spXRow K) := by
  have GT : FnOk P w K mg base CX0 (k + 4) f3 d3 ["pen", "many"] spTakeC := ok_takeC TP (k := k + 2)
  have GH : FnOk P w K mg base CX0 (k + 4) x3 y3 ["pen", "rule", "state", "many"] (spXPath K) := ok_xPath TP TH (k := k)
  refine T.FXRow.ok scXRow (fun vs H Q E h => ?_) (fun cdv A outer s H vs Q E hr h => ?_)
  · obtain ⟨p, c, n, x, z, ss, st, most, rfl, _⟩ := h
    rfl
  · obtain ⟨p, c, n, x, z, ss, st, most, rfl, hP, hn, hx, zr, s0, s1, m0, m1, q⟩ := h
    refine ⟨_, (Evl.pss_cut (ps_asg (pe_call GH hr (by rfl) TH.gXPath TH.FXPath.kp TH.bXPath .nil pass0 (pa_cons (pv 0) (pa_cons (pv 1) (pa_cons (pv 2) (pa_cons (pe_call GT hr (by rfl) TP.gTake TP.FTake.kp TP.bTake .nil pass0 (pa_cons (pv 0) (pa_cons (pv 3) pa_nil))) pa_nil))))) (pg_tup rfl (pgs_cons (pg_name (i := 4) scXRow.nd rfl (.inl rfl)) (pgs_cons (pg_name (i := 2) scXRow.nd rfl (.inl rfl)) pgs_nil))))
 (Evl.pss_cut (ps_par (i := 5) (j := 6) (by rfl) scXRow.nd rfl rfl (by decide) rfl rfl (pa_cons (pe_lst pa_nil) (pa_cons (pe_lst pa_nil) pa_nil)) (by rfl))
 (Evl.pss_cut (ps_while PassesOwn.never (pt_cmpR op_notIn_seq (pv 2) (pv 6) (by rfl))
 (Evl.pss_cut (ps_expr (pe_bm PySem.F.plainAttrs_list PySem.F.slot_list_append PySem.F.type_list_append mt_append (pv 5) (pa_cons (pe_callB call_len_str (by rfl) T.len PySem.boot_len (pa_cons (pv 4) pa_nil)) pa_nil)))
 (Evl.pss_cut (ps_expr (pe_bm PySem.F.plainAttrs_list PySem.F.slot_list_append PySem.F.type_list_append mt_append (pv 6) (pa_cons (pv 2) pa_nil)))
 (Evl.pss_cut (ps_asg (pe_call GH hr (by rfl) TH.gXPath TH.FXPath.kp TH.bXPath .nil pass0 (pa_cons (pv 0) (pa_cons (pv 1) (pa_cons (pv 2) (pa_cons (pe_op op_add pe_int (pe_call GT hr (by rfl) TP.gTake TP.FTake.kp TP.bTake .nil pass0 (pa_cons (pv 0) (pa_cons pe_int pa_nil)))) pa_nil))))) (pg_tup rfl (pgs_cons (pg_name (i := 7) scXRow.nd rfl (.inl rfl)) (pgs_cons (pg_name (i := 2) scXRow.nd rfl (.inl rfl)) pgs_nil))))
 (pss_one (ps_set (i := 4) scXRow.nd rfl (.inl rfl) (pe_op op_add_str (pv 4) (pv 7))))))))
 (Evl.pss_cut (ps_set (i := 8) scXRow.nd rfl (.inl rfl) (pe_ix ix_list (pv 5) (pe_bm PySem.F.plainAttrs_list PySem.F.slot_list_index PySem.F.type_list_index mt_index (pv 6) (pa_cons (pv 2) pa_nil)) (fun _ _ => rfl)))
 (pss_one (ps_ret (pe_tup (pa_cons (pe_slice sl_str (pv 4) po_none (po_some (pv 8))) (pa_cons (pe_slice sl_str (pv 4) (po_some (pv 8)) po_none) pa_nil))))))))), ?_⟩
    have h100 : ∀ {m : Nat}, m ≤ 100 → m ≤ sizeLine := fun h => Nat.le_trans h (by decide)
    obtain ⟨_, r1, r4, _⟩ := rul_of (L := z.cps.toList) zr
    -- the first path
    refine ⟨fun σ H' => ∃ (y : Str) (st' : Int), σ = [some (.ref p), some x, some (.int st'), some (.int most), some (.str y), none, none, none, none] ∧ But p H H' ∧ PenC H' p c (n + 1 + y.length) ∧ y.length ≤ 5 ∧ (∀ c ∈ y.cps.toList, c ∈ z.cps.toList) ∧ 0 ≤ st' ∧ st' < (ss.length : Int), ?_, ?_⟩
    · refine ⟨_, rfl, _, rfl, _, rfl, _, rfl, _, rfl, p, c, most, n, rfl, hP, by omega, by omega, log_small (m := 6) (by omega) (by decide), fun H1 k1 b1 hP1 k10 k11 => ?_⟩
      refine ⟨p, c, _, x, z, ss, st, k1, rfl, hP1, by omega, hx.go (butN_but b1), zr, s0, s1, k10, by omega, fun H2 t y st' b2 hP2 ht nt ly my t0 t1 => ?_⟩
      refine ⟨t, _, rfl, SqT.of ht, rfl, _, _, rfl, _, _, rfl, rfl, y, st', rfl, b1.trans b2, ?_, by omega, my, t0, t1⟩
      rw [ly]
      exact hP2
    rintro σ H1 ⟨y0, st0, rfl, b1, hP1, ly0, my0, t00, t01⟩
    -- marks, states
    refine ⟨fun σ H' => ∃ (M S : Addr), σ = [some (.ref p), some x, some (.int st0), some (.int most), some (.str y0), some (.ref M), some (.ref S), none, none] ∧ But p H H' ∧ PenC H' p c (n + 1 + y0.length) ∧ H' M = some (.lst []) ∧ H' S = some (.lst []) ∧ M ≠ S ∧ M ≠ p ∧ S ≠ p ∧ M ≠ c ∧ S ≠ c ∧ H M = none ∧ H S = none, ?_, ?_⟩
    · refine ⟨(by show 0 ≤ sizeLine; decide), fun M hM => ⟨(by show 0 ≤ sizeLine; decide), fun S hS => ⟨_, _, rfl, ?_⟩⟩⟩
      have x1 := same_upd (o := HO.lst []) hM
      have x2 := same_upd (o := HO.lst []) hS
      obtain ⟨_, _, _, hp1, hc1, _⟩ := hP1.ex
      have nM := new_ne hP1.pen hM
      have hM2 : (upd H1 M (.lst [])) M = some (.lst []) := upd_same
      exact ⟨M, S, rfl, b1.trans (But.of (x1.trans x2)), hP1.same (x1.trans x2), x2 _ _ upd_same, upd_same, ne_of_none hM2 hS, nM, new_ne (hP1.same x1).pen hS, (ne_of_none hc1 hM).symm, (ne_of_none (x1 _ _ hc1) hS).symm, but_none b1 nM hM, but_none (b1.trans (But.of x1)) (new_ne (hP1.same x1).pen hS) hS⟩
    rintro σ H2 ⟨M, S, rfl, b2, hP2, hM2, hS2, nMS, nMp, nSp, nMc, nSc, M0, S0⟩
    -- the turns
    refine ⟨fun σ H' => ∃ (y : Str) (st' : Int) (ms : List Nat) (sts : List Int) (v7 : Option V), σ = [some (.ref p), some x, some (.int st'), some (.int most), some (.str y), some (.ref M), some (.ref S), v7, none] ∧ But p H H' ∧ PenC H' p c (n + 30) ∧ H' M = some (.lst (ms.map fun k : Nat => V.int (k : Int))) ∧ H' S = some (.lst (sts.map V.int)) ∧ ms.length = sts.length ∧ (∀ m ∈ ms, m < y.length) ∧ (∀ c ∈ y.cps.toList, c ∈ z.cps.toList) ∧ y.length ≤ 20 ∧ st' ∈ sts, ?_, ?_⟩
    · let Pv : Nat → L2.St → Hp → Prop := fun m σ H' => ∃ (y : Str) (st' : Int) (ms : List Nat) (sts : List Int) (v7 : Option V), σ = [some (.ref p), some x, some (.int st'), some (.int most), some (.str y), some (.ref M), some (.ref S), v7, none] ∧ But p H H' ∧ PenC H' p c (n + 1 + y.length + sts.length) ∧ H' M = some (.lst (ms.map fun k : Nat => V.int (k : Int))) ∧ H' S = some (.lst (sts.map V.int)) ∧ ms.length = sts.length ∧ (∀ m ∈ ms, m < y.length) ∧ (∀ c ∈ y.cps.toList, c ∈ z.cps.toList) ∧ 0 ≤ st' ∧ st' < (ss.length : Int) ∧ m = fresh ss.length sts ∧ y.length + 3 * m ≤ 5 + 3 * ss.length ∧ sts.length + m ≤ ss.length
      refine ⟨Pv, ⟨_, y0, st0, [], [], none, rfl, b2, hP2, hM2, hS2, rfl, fun _ h => (nomatch h), my0, t00, t01, rfl, ?_, ?_⟩, ?_⟩
      · have := fresh_le ss.length []
        omega
      · have := fresh_le ss.length []
        simpa using this
      rintro m σ H3 ⟨y, st', ms, sts, v7, rfl, b3, hP3, hM3, hS3, lm, mm, my, t0, t1, rfl, lim, lim2⟩
      refine ⟨_, rfl, _, rfl, S, _, rfl, .inl (SqL.of hS3), rfl, flat_ints sts, _, rfl, ?_⟩
      rw [inV_int]
      refine ite2 (fun u => ?_) (fun u => ?_)
      · have nin : ¬ st' ∈ sts := fun h => by
          rw [decide_eq_true h] at u
          cases u
        have fl := fresh_lt t0 t1 nin
        refine ⟨fun σ H' => ∃ m', m' < fresh ss.length sts ∧ Pv m' σ H', fun _ _ h => h, ?_⟩
        -- marks.append
        refine ⟨fun σ H' => σ = [some (.ref p), some x, some (.int st'), some (.int most), some (.str y), some (.ref M), some (.ref S), v7, none] ∧ But p H H' ∧ PenC H' p c (n + 1 + y.length + sts.length) ∧ H' M = some (.lst ((ms ++ [y.length]).map fun k : Nat => V.int (k : Int))) ∧ H' S = some (.lst (sts.map V.int)), ?_, ?_⟩
        · refine ⟨_, rfl, .inl ⟨rfl, _, SqL.of hM3⟩, _, rfl, y, rfl, h100 (by omega), M, _, _, rfl, rfl, hM3, Nat.lt_of_le_of_lt (show _ ≤ 100 by rw [List.length_map]; omega) (by decide), rfl, fun b o nb e => ?_, ?_, ?_, ?_⟩
          · rw [upd_ne (ne_of_none e M0)]
            exact b3 _ _ nb e
          · exact hP3.keep (fun o e => by rw [upd_ne nMp.symm]; exact e) (fun o e => by rw [upd_ne nMc.symm]; exact e)
          · rw [upd_same, List.map_append]
            rfl
          · rw [upd_ne nMS.symm]
            exact hS3
        rintro σ H4 ⟨rfl, b4, hP4, hM4, hS4⟩
        refine ⟨fun σ H' => σ = [some (.ref p), some x, some (.int st'), some (.int most), some (.str y), some (.ref M), some (.ref S), v7, none] ∧ But p H H' ∧ PenC H' p c (n + 1 + y.length + sts.length) ∧ H' M = some (.lst ((ms ++ [y.length]).map fun k : Nat => V.int (k : Int))) ∧ H' S = some (.lst ((sts ++ [st']).map V.int)), ?_, ?_⟩
        · refine ⟨_, rfl, .inl ⟨rfl, _, SqL.of hS4⟩, _, rfl, S, _, _, rfl, rfl, hS4, Nat.lt_of_le_of_lt (show _ ≤ 100 by rw [List.length_map]; omega) (by decide), rfl, fun b o nb e => ?_, ?_, ?_, ?_⟩
          · rw [upd_ne (ne_of_none e S0)]
            exact b4 _ _ nb e
          · exact hP4.keep (fun o e => by rw [upd_ne nSp.symm]; exact e) (fun o e => by rw [upd_ne nSc.symm]; exact e)
          · rw [upd_ne nMS]
            exact hM4
          · rw [upd_same, List.map_append]
            rfl
        rintro σ H5 ⟨rfl, b5, hP5, hM5, hS5⟩
        refine ⟨fun σ H' => ∃ (y2 : Str) (st2 : Int), σ = [some (.ref p), some x, some (.int st2), some (.int most), some (.str y), some (.ref M), some (.ref S), some (.str y2), none] ∧ But p H H' ∧ PenC H' p c (n + 1 + y.length + sts.length + 1 + y2.length) ∧ H' M = some (.lst ((ms ++ [y.length]).map fun k : Nat => V.int (k : Int))) ∧ H' S = some (.lst ((sts ++ [st']).map V.int)) ∧ 1 ≤ y2.length ∧ y2.length ≤ 3 ∧ (∀ c ∈ y2.cps.toList, c ∈ z.cps.toList) ∧ 0 ≤ st2 ∧ st2 < (ss.length : Int), ?_, ?_⟩
        · refine ⟨_, rfl, _, rfl, _, rfl, _, rfl, p, c, 3, _, rfl, hP5, by omega, by decide, by decide, fun H6 k6 b6 hP6 k60 k61 => ⟨_, _, rfl, rfl, ?_⟩⟩
          refine ⟨p, c, _, x, z, ss, st', 1 + k6, rfl, hP6, by omega, hx.go (butN_but (b5.trans b6)), zr, t0, t1, by omega, by omega, fun H7 t y2 st2 b7 hP7 ht nt ly2 my2 t20 t21 => ?_⟩
          refine ⟨t, _, rfl, SqT.of ht, rfl, _, _, rfl, _, _, rfl, rfl, y2, st2, rfl, b5.trans (b6.trans b7), ?_, b7 _ _ nMp (b6 _ _ nMp hM5), b7 _ _ nSp (b6 _ _ nSp hS5), by omega, by omega, my2, t20, t21⟩
          rw [ly2]
          exact hP7
        rintro σ H6 ⟨y2, st2, rfl, b6, hP6, hM6, hS6, ly2, ly3, my2, t20, t21⟩
        have la : (y ++ y2).length = y.length + y2.length := by rw [← str_len, str_app, List.length_append, str_len, str_len]
        refine ⟨_, rfl, _, rfl, _, _, rfl, rfl, h100 (by omega), _, fl, y ++ y2, st2, ms ++ [y.length], sts ++ [st'], _, rfl, b6, hP6.mono ?_, hM6, hS6, ?_, ?_, ?_, t20, t21, rfl, ?_, ?_⟩
        · rw [la, List.length_append]
          simp
          omega
        · rw [List.length_append, List.length_append, lm]
          rfl
        · intro m hm
          rw [la]
          rcases List.mem_append.mp hm with h | h
          · have := mm m h
            omega
          · rw [List.mem_singleton.mp h]
            omega
        · intro c' hc
          rw [str_app] at hc
          exact (List.mem_append.mp hc).elim (my c') (my2 c')
        · rw [la]
          omega
        · rw [List.length_append, List.length_singleton]
          omega
      · have hin : st' ∈ sts := by
          by_cases h : st' ∈ sts
          · exact h
          · exact absurd (by rw [decide_eq_false h]; rfl) u
        exact ⟨y, st', ms, sts, v7, rfl, b3, hP3.mono (by omega), hM3, hS3, lm, mm, my, by omega, hin⟩
    rintro σ H3 ⟨y, st', ms, sts, v7, rfl, b3, hP3, hM3, hS3, lm, mm, my, ly, hin⟩
    have hj : sts.idxOf st' < sts.length := List.idxOf_lt_length_of_mem hin
    have hjj : sts[sts.idxOf st']? = some st' := by
      rw [List.getElem?_eq_getElem hj, List.getElem_idxOf]
    have hm : ms[sts.idxOf st']? = some (ms[sts.idxOf st']'(by omega)) := List.getElem?_eq_getElem _
    have ml := mm _ (List.mem_of_getElem? hm)
    generalize ms[sts.idxOf st']'(by omega) = at0 at hm ml
    refine ⟨fun σ H' => H' = H3 ∧ σ = [some (.ref p), some x, some (.int st'), some (.int most), some (.str y), some (.ref M), some (.ref S), v7, some (.int (at0 : Int))], ?_, ?_⟩
    · refine ⟨_, rfl, _, rfl, .inl ⟨rfl, _, SqL.of hS3⟩, _, rfl, S, _, _, sts.idxOf st', .int st', rfl, rfl, SqL.of hS3, rfl, flat_ints sts, ?_, show (st' == st') = true from beq_self_eq_true st', ?_, ?_⟩
      · rw [List.getElem?_map, hjj]
        rfl
      · intro m z' hlt hz
        rw [List.getElem?_map] at hz
        cases e : sts[m]? with
        | none =>
          rw [e] at hz
          cases hz
        | some s' =>
          rw [e] at hz
          obtain rfl := Option.some.inj hz
          have hlen : m < sts.length := by omega
          have hm2 := before_idx hlt hlen
          rw [List.getElem?_eq_getElem hlen] at e
          obtain rfl := Option.some.inj e
          simpa [eqV] using hm2
      · exact ⟨M, _, _, _, rfl, rfl, SqL.of hM3, atI_nat (by rw [List.getElem?_map, hm]; rfl), rfl, rfl⟩
    rintro σ H3 ⟨rfl, rfl⟩
    have ys : y.length ≤ sizeLine := h100 (by omega)
    refine ⟨_, rfl, _, rfl, _, rfl, y, rfl, ys, _, rfl, _, rfl, _, rfl, y, rfl, ys, (by show 2 ≤ sizeLine; decide), fun t ht => ?_⟩
    have l1 := cut_to y at0 (by omega)
    have l2 := cut_fromN y at0 (by omega)
    have xt := same_upd (o := HO.tup [V.str (cutS y none (some (at0 : Int))), V.str (cutS y (some (at0 : Int)) none)]) ht
    exact q _ t _ _ (b3.trans (But.of xt)) (hP3.same xt) upd_same (new_ne hP3.pen ht) (by omega) (by omega) (fun c hc => my c (cut_mem hc)) (fun c hc => my c (cut_mem hc))
end
end My
/-! ### tuple * 1 -/
namespace My
open PySem PySem.Spec PyProof.Rows L2
theorem tuple_mul1 (l : Addr) (items : Array Value) (n : Nat) (dd : Option Addr) (sl : Array (Option Value)) (u : Tok) :
    Meets (Builtin.«tuple.__mul__» ⟨[.ref l, .int 1 u], []⟩) (fun _ R s => s.heap.get? l = some { cls := .type "tuple", dict := dd, data := .seq items n, slots := sl } ∧
      R (.ok (.ret (Value.ref l))) s) :=
  .of_wp fun prog w A R s h => by
    obtain ⟨hp, g, d, tk, os⟩ := s
    obtain ⟨hl, h⟩ := h
    have f1 := AutoSeq1.idx_int
    wp_walk using wpAny_loadPart' hl
    exact ⟨_, rfl, h⟩
theorem op_repT1 {X : Cx} : OpR X (binaryOp .Mult) (fun x y H Q => ∃ l k xs, x = .ref l ∧ y = .int k ∧ SqT X.K H l xs ∧ xs ≠ [] ∧ 1 ≤ k ∧ k ≤ 1000 ∧ xs.length ≤ 1000 ∧ (k = 1 → Q (.ref l) H) ∧ ∀ p, H p = none → Q (.ref p) (upd H p (.tup (List.replicate k.toNat xs).flatten))) := by
  intro pins s σ H x y v u Q I rx ry h
  obtain ⟨l, k, xs, rfl, rfl, hT, hne, h1, h2, hz, q1, q2⟩ := h
  by_cases e : k = 1
  · subst e
    cases rx
    obtain ⟨t, rfl⟩ := ry
    obtain ⟨its, r, ⟨⟨cls, dd, data, sl⟩, ho, hc, n, hd⟩, hs⟩ := I.tuple hT
    simp only at hc hd
    subst hc hd
    exact wpAny_binaryOp_repeat_ref (T := "tuple") (U := "int") (by decide) ⟨_, ho, rfl⟩ (fun s' => typeIs_int s' 1 t) noFill_tuple_mul F.fills_int_mul F.slot_int_rmul repeat_tuple F.slot_int_index.lookup
      (call_meets F.slot_int_rmul (typeIs_int s 1 t) F.entry_int_rmul (F.args_int_rmul_2 _ _) (int_rmul_tuple 1 t l its.toArray n dd sl)
        ⟨ho, rfl, ⟨_, ho, rfl⟩, call_meets F.slot_tuple_mul ⟨_, ho, rfl⟩ F.entry_tuple_mul (F.args_tuple_mul_2 _ _) (tuple_mul1 l its.toArray n dd sl t) ⟨ho, ⟨.ref l, H, I, rfl, q1 rfl⟩⟩⟩)
  · exact op_repT pins s σ H (.ref l) (.int k) v u Q I rx ry ⟨l, k, xs, rfl, rfl, hT, hne, by omega, h2, hz, q2⟩
end My
/-! ### the law's texts and long ones -/
namespace My
open PySem PySem.Spec PyProof.Rows L2
abbrev sXText : Stmt := topS 42
theorem scXText : FnScope ["pen", "letters", "most", "turn"] ["pen", "letters", "most"] (defScope sXText) := ⟨rfl, rfl, rfl, by decide +kernel, rfl, by decide +kernel, by decide +kernel⟩
abbrev sXLong : Stmt := topS 43
theorem scXLong : FnScope ["pen", "rule", "begin", "again", "most", "word", "loop"] ["pen", "rule"] (defScope sXLong) := ⟨rfl, rfl, rfl, by decide +kernel, rfl, by decide +kernel, by decide +kernel⟩
structure TexTxt (K : PySem.W.Frag) (mg : Str → Option Value) (x5 x6 : Addr) (y5 y6 : FuncData) : Prop where
  range : mg "range" = none
  list : mg "list" = none
  len : mg "len" = none
  FXText : Fun K "_law_x_text" "_law_x_text" sXText x5 y5
  bXText : Binds K y5 ["pen", "letters", "most"] []
  gXText : mg "_law_x_text" = some (.ref x5)
  FXLong : Fun K "_law_x_long" "_law_x_long" sXLong x6 y6
  bXLong : Binds K y6 ["pen", "rule"] []
  gXLong : mg "_law_x_long" = some (.ref x6)
def spXText : Sp := fun vs H Q _ => ∃ (p c : Addr) (n : Nat) (z : Str) (most : Int), vs = [.ref p, .str z, .int most] ∧ PenC H p c n ∧ n < 1046000 ∧ lettersL z.cps.toList = true ∧ 1 ≤ most ∧ most ≤ 6 ∧
  ∀ (H' : Hp) (y : Str), But p H H' → PenC H' p c (n + 6) → y.length ≤ 5 → (∀ c ∈ y.cps.toList, c ∈ z.cps.toList) → Q (.str y) H'
theorem vals_of {vs : List V} {us : List Value} (l : vs.length = us.length) (h : ∀ (i : Nat) (v : V) (u : Value), vs[i]? = some v → us[i]? = some u → RelV v u) : Vals vs us := by
  induction vs generalizing us with
  | nil =>
    cases us with
    | nil => exact .nil
    | cons _ _ => simp at l
  | cons v vs ih =>
    cases us with
    | nil => simp at l
    | cons u us =>
      exact .cons (h 0 v u rfl rfl) (ih (by simpa using l) fun i v' u' e1 e2 => h (i + 1) v' u' e1 e2)
theorem call_list_strX {X : Cx} (hc : X.calm = true) : CallR X (.type "list") (fun xs H Q => ∃ z : Str, xs = [.str z] ∧ z.cps.size ≤ 1000 ∧ ∀ l, H l = none → Q (.ref l) (upd H l (.lst (z.cps.toList.map fun c => V.str ⟨#[c]⟩)))) := by
  intro pins s σ H xs us Q I r h
  obtain ⟨z, rfl, hz, q⟩ := h
  obtain ⟨u, rfl, t, rfl⟩ := vals1 r
  have hz2 : z.cps.size ≤ sizeLine := Nat.le_trans hz (by decide)
  refine PySem.call_list_str (I.ok.hd hc) z t (fun h' tk acc' c' kp e it => ?_) hz2
  refine ⟨.ref s.heap.objs.size, _, I.laid (t' := tk) kp (Nat.le_refl _) (show ObjOk X.prog X.w _ h' _ (.lst (z.cps.toList.map fun c => V.str ⟨#[c]⟩)) from ⟨?_, acc'.toList, c', ?_, e⟩), rfl, q _ (I.hok.fresh (Nat.le_refl _))⟩
  · rw [List.length_map, Array.length_toList]
    exact hz2
  · refine vals_of ?_ fun i v u e1 e2 => ?_
    · rw [List.length_map, Array.length_toList, Array.length_toList, it.1]
    · rw [Array.getElem?_toList] at e2
      obtain ⟨c, t2, e3, rfl⟩ := it.2 i u e2
      rw [List.getElem?_map, Array.getElem?_toList, e3] at e1
      obtain rfl := Option.some.inj e1
      exact ⟨t2, rfl⟩
theorem join_mem {sep : Str} (hs : sep.cps = #[]) {c : Nat} : ∀ {ys : List Str}, c ∈ (Str.join sep ys).cps.toList → ∃ y ∈ ys, c ∈ y.cps.toList
  | [], h => absurd (show c ∈ ([] : List Nat) from h) (by simp)
  | [x], h => ⟨x, .head _, h⟩
  | x :: y :: r, h => by
    have e : Str.join sep (x :: y :: r) = x ++ sep ++ Str.join sep (y :: r) := rfl
    rw [e, str_app, str_app, hs] at h
    rcases List.mem_append.mp h with h | h
    · exact ⟨x, .head _, by simpa using h⟩
    · obtain ⟨u, hu, hc⟩ := join_mem hs h
      exact ⟨u, .tail _ hu, hc⟩
/-- signs as texts -/
def sgs (cs : List Nat) : List Str := cs.map fun c => ⟨#[c]⟩
theorem sgs_len (cs : List Nat) : ((sgs cs).map (·.length)).sum = cs.length := by
  induction cs with
  | nil => rfl
  | cons c cs ih =>
    show (⟨#[c]⟩ : Str).length + ((sgs cs).map (·.length)).sum = _
    rw [ih, show (⟨#[c]⟩ : Str).length = 1 from rfl, List.length_cons]
    omega
theorem sgs_mem {cs : List Nat} {y : Str} {c : Nat} (h : y ∈ sgs cs) (hc : c ∈ y.cps.toList) : c ∈ cs := by
  obtain ⟨d, hd, rfl⟩ := List.mem_map.mp h
  have : c = d := by simpa using hc
  rw [this]
  exact hd
theorem z_len {z : Str} (h : lettersL z.cps.toList = true) : z.cps.size ≤ 3 := ltrD_len (d := .str z) h
section
variable {P : Program} {w : World} {K : PySem.W.Frag} {mg : Str → Option Value} {base : Heap} {f1 f2 f3 f4 : Addr} {d1 d2 d3 d4 : FuncData} {x3 x4 x5 x6 : Addr} {y3 y4 y5 y6 : FuncData}
theorem ok_xText (TP : PenTxt K mg f1 f2 f3 f4 d1 d2 d3 d4) (T : TexTxt K mg x5 x6 y5 y6) {k : Nat} : FnOk P w K mg base CX0 (k + 4) x5 y5 ["pen", "letters", "most"] spXText := by
  have GT : FnOk P w K mg base CX0 (k + 3) f3 d3 ["pen", "many"] spTakeC := ok_takeC TP (k := k + 1)
  have GP : FnOk P w K mg base CX0 (k + 3) f4 d4 ["pen", "some"] (spPickC K) := ok_pickC TP (k := k)
  refine T.FXText.ok scXText (fun vs H Q E h => ?_) (fun cdv A outer s H vs Q E hr h => ?_)
  · obtain ⟨p, c, n, z, most, rfl, _⟩ := h
    rfl
  · obtain ⟨p, c, n, z, most, rfl, hP, hn, hl, m0, m1, q⟩ := h
    refine ⟨_, (pss_one (ps_ret (pe_bm PySem.F.plainAttrs_str PySem.F.slot_str_join PySem.F.type_str_join mt_join pe_str (pa_cons (pe_lc (own := [("turn", 3)]) (g := gName 3) (tt := tYes) (by rfl) scXText.nd (pi_range1 (by rfl) T.range (pa_cons (pe_call GT hr (by rfl) TP.gTake TP.FTake.kp TP.bTake .nil pass0 (pa_cons (pv 0) (pa_cons (pv 2) pa_nil))) pa_nil)) (blkOk_by (N := ["pen", "letters", "most", "turn"]) (sc := defScope sXText) (by decide +kernel)) (fun _ _ _ _ _ => pg_name (i := 3) scXText.nd rfl (Or.inl rfl)) (fun _ _ _ _ _ => pts_nil) (fun _ _ _ _ _ => (pe_call GP hr (by rfl) TP.gPick TP.FPick.kp TP.bPick .nil pass0 (pa_cons (pv 0) (pa_cons (pe_callTy (call_list_strX rfl) (by rfl) T.list (by decide +kernel) (pa_cons (pv 1) pa_nil)) pa_nil))))) pa_nil)))), ?_⟩
    have z3 := z_len hl
    have hpos := letters_pos hl
    refine ⟨rfl, _, rfl, _, rfl, p, c, most, n, rfl, hP, by omega, by omega, log_small (m := 6) (by omega) (by decide), fun H1 k1 b1 hP1 k10 k11 => ⟨_, rfl, by omega, by omega, fun D nD => ?_⟩⟩
    have nDp := new_ne hP1.pen nD
    obtain ⟨_, _, _, hp1, hc1, _⟩ := hP1.ex
    have nDc : D ≠ c := (ne_of_none hc1 nD).symm
    refine lc_range (lo := 0) (n := k1.toNat) (fun j H' => ∃ cs : List Nat, But p H1 H' ∧ PenC H' p c (n + 1 + j) ∧ H' D = some (.lst ((sgs cs).map V.str)) ∧ cs.length = j ∧ ∀ c ∈ cs, c ∈ z.cps.toList) ⟨[], But.of (same_upd nD), hP1.same (same_upd nD), upd_same, rfl, fun _ h => nomatch h⟩ ?_ ?_
    · rintro j H' hj ⟨cs, bj, hPj, hD, lj, mj⟩
      refine ⟨rfl, ?_⟩
      refine ⟨_, rfl, _, rfl, z, rfl, by omega, fun L hL => ?_⟩
      have xL := same_upd (o := HO.lst (z.cps.toList.map fun c => V.str ⟨#[c]⟩)) hL
      refine ⟨p, c, L, _, _, rfl, hPj.same xL, by omega, SqL.of upd_same, new_ne hPj.pen hL, (by rw [List.length_map, str_len]; exact hpos), (by rw [List.length_map, Array.length_toList]; omega), fun Hc m v bc hPc hm => ?_⟩
      rw [List.getElem?_map] at hm
      cases e : z.cps.toList[m]? with
      | none =>
        rw [e] at hm
        cases hm
      | some cc =>
        rw [e] at hm
        obtain rfl := Option.some.inj hm
        refine ⟨_, bc _ _ nDp (xL _ _ hD), ?_, cs ++ [cc], ?_, ?_, ?_, ?_, ?_⟩
        · rw [List.length_map]
          show (List.map _ cs).length < sizeLine
          rw [List.length_map, lj]
          exact Nat.lt_of_le_of_lt (show j ≤ 100 by omega) (by decide)
        · intro b o nb e2
          rw [upd_ne (ne_of_none e2 nD)]
          exact bc _ _ nb (xL _ _ (bj _ _ nb e2))
        · have hk : n + 1 + (j + 1) = n + 1 + j + 1 := by omega
          rw [hk]
          exact hPc.keep (fun o e => by rw [upd_ne nDp.symm]; exact e) (fun o e => by rw [upd_ne nDc.symm]; exact e)
        · rw [upd_same]
          show _ = some (HO.lst ((List.map _ (cs ++ [cc])).map V.str))
          rw [List.map_append, List.map_append]
          rfl
        · rw [List.length_append, lj]
          rfl
        · intro c' hc'
          rcases List.mem_append.mp hc' with h | h
          · exact mj c' h
          · rw [List.mem_singleton.mp h]
            exact List.mem_of_getElem? e
    · rintro H' ⟨cs, bj, hPj, hD, lj, mj⟩
      have jl := StrLaws.join_length_le (("" : Str)) (sgs cs)
      have jz : (("" : Str)).length = 0 := rfl
      have sl : (sgs cs).length = cs.length := List.length_map ..
      rw [sgs_len, jz, Nat.mul_zero] at jl
      refine ⟨_, D, sgs cs, rfl, rfl, .inl (SqL.of hD), ?_, ?_⟩
      · rw [sgs_len, jz]
        omega
      · rw [show Txt.join (("" : Str)) (sgs cs) = Str.join (("" : Str)) (sgs cs) from PySem.StrLaws.glued_eq_join _ _]
        refine q _ _ (b1.trans bj) (hPj.mono (by omega)) (by omega) fun c' hc' => ?_
        obtain ⟨y, hy, hcy⟩ := join_mem rfl hc'
        exact mj c' (sgs_mem hy hcy)
end
end My
/-! ### the law's long texts -/
namespace My
open PySem PySem.Spec PyProof.Rows L2
theorem reps_size (a : Array Nat) : ∀ (k : Nat) (acc : Array Nat), ((List.replicate k a).foldl (· ++ ·) acc).size = acc.size + k * a.size
  | 0, acc => by simp
  | k + 1, acc => by
    rw [List.replicate_succ, List.foldl_cons, reps_size a k, Array.size_append, Nat.succ_mul]
    omega
theorem reps_mem {a : Array Nat} {c : Nat} : ∀ {k : Nat} {acc : Array Nat}, c ∈ ((List.replicate k a).foldl (· ++ ·) acc) → c ∈ acc ∨ c ∈ a
  | 0, acc, h => .inl (by simpa using h)
  | k + 1, acc, h => by
    rw [List.replicate_succ, List.foldl_cons] at h
    rcases reps_mem h with h | h
    · exact Array.mem_append.mp h
    · exact .inr h
theorem mul_len {x : Str} {n : Int} (h : 0 ≤ n) : (Txt.mul x n).length = x.length * n.toNat := by
  unfold Txt.mul
  by_cases h1 : n < 1
  · rw [if_pos h1, show n.toNat = 0 by omega]
    rfl
  · rw [if_neg h1]
    by_cases h2 : (n == 1 || x.length == 0) = true
    · rw [if_pos h2]
      rcases Bool.or_eq_true .. |>.mp h2 with h3 | h3
      · rw [beq_iff_eq] at h3
        rw [h3]
        simp
      · rw [beq_iff_eq] at h3
        rw [h3, Nat.zero_mul]
    · rw [if_neg h2]
      show ((List.replicate n.toNat x.cps).foldl (· ++ ·) #[]).size = _
      rw [reps_size, Nat.mul_comm]
      show 0 + x.cps.size * _ = x.cps.size * _
      omega
theorem mul_mem {x : Str} {n : Int} {c : Nat} (h : c ∈ (Txt.mul x n).cps.toList) : c ∈ x.cps.toList := by
  unfold Txt.mul at h
  split at h
  · exact absurd (show c ∈ ([] : List Nat) from h) (by simp)
  · split at h
    · exact h
    · have h2 : c ∈ ((List.replicate n.toNat x.cps).foldl (· ++ ·) #[]) := by simpa using h
      rcases reps_mem h2 with h3 | h3
      · simp at h3
      · simpa using h3
theorem op_mulT {X : Cx} : OpR X (binaryOp .Mult) (fun x y H Q => ∃ (z : Str) (n : Int), x = .str z ∧ y = .int n ∧ z.length ≤ 2000 ∧ 0 ≤ n ∧ n ≤ 2000 ∧ Q (.str (Txt.mul z n)) H) := by
  intro pins s σ H x y v u Q I rx ry h
  obtain ⟨z, n, rfl, rfl, hz, h0, h1, q⟩ := h
  obtain ⟨t, rfl⟩ := rx
  obtain ⟨t', rfl⟩ := ry
  refine SB.mul ⟨?_, fun h2 _ => ?_, fun h2 _ => ?_⟩ fun t2 k => ⟨.str _, H, I.tok k, ⟨_, rfl⟩, q⟩
  · rw [Bool.or_eq_false_iff]
    exact ⟨decide_eq_false (by omega), decide_eq_false (by omega)⟩
  · have h3 : (2000 : Int) ≤ (2 ^ 63 - 1) / n := (Int.le_ediv_iff_mul_le (by omega)).mpr (by omega)
    omega
  · have h4 : z.length * n.toNat ≤ 2000 * 2000 := Nat.mul_le_mul hz (by omega)
    exact decide_eq_false (by rw [sizeLine_eq]; omega)
theorem cut_most (z : Str) (k : Int) (h : 0 ≤ k) : (cutS z none (some k)).length ≤ k.toNat := by
  rw [← str_len, cut_list, HT.sIx_none, show k = ((k.toNat : Nat) : Int) by omega, HT.sIx_nat, List.length_take]
  omega
theorem sIx_last (n : Nat) : HT.sIx n n (some (-1)) = (-1 + (n : Int)).toNat := by
  unfold HT.sIx
  exact if_pos (by decide)
theorem cut_last (z : Str) : (cutS z none (some (-1))).length ≤ z.length - 1 := by
  rw [← str_len, cut_list, HT.sIx_none, sIx_last, List.length_take]
  omega
theorem one_len (c : Nat) : (⟨#[c]⟩ : Str).length = 1 := rfl
theorem app_len (x y : Str) : (x ++ y).length = x.length + y.length := by rw [← str_len, str_app, List.length_append, str_len, str_len]
def spXLong (K : PySem.W.Frag) : Sp := fun vs H Q _ => ∃ (p c : Addr) (n : Nat) (x : V) (z : Str) (ss : List PyData), vs = [.ref p, x] ∧ PenC H p c n ∧ n < 1045000 ∧ Rs p K H x (.tuple [.str z, .tuple ss]) ∧ rulD (.tuple [.str z, .tuple ss]) = true ∧
  ∀ (H' : Hp) (t : Addr) (b r : Str), But p H H' → PenC H' p c (n + 40) → H' t = some (.tup [.str b, .str r]) → t ≠ p → b.length ≤ 1500 → 0 < r.length → r.length ≤ 1500 → (∀ c ∈ b.cps.toList, c ∈ z.cps.toList) → (∀ c ∈ r.cps.toList, c ∈ z.cps.toList) → Q (.ref t) H'
theorem sg_at {z : Str} {m : Nat} {v : V} (h : (z.cps.toList.map fun c => V.str ⟨#[c]⟩)[m]? = some v) : ∃ c, v = .str ⟨#[c]⟩ ∧ c ∈ z.cps.toList := by
  rw [List.getElem?_map] at h
  cases e : z.cps.toList[m]? with
  | none =>
    rw [e] at h
    cases h
  | some c =>
    rw [e] at h
    exact ⟨c, (Option.some.inj h).symm, List.mem_of_getElem? e⟩
section
variable {P : Program} {w : World} {K : PySem.W.Frag} {mg : Str → Option Value} {base : Heap} {f1 f2 f3 f4 : Addr} {d1 d2 d3 d4 : FuncData} {x3 x4 x5 x6 : Addr} {y3 y4 y5 y6 : FuncData}
theorem ok_xLong (TP : PenTxt K mg f1 f2 f3 f4 d1 d2 d3 d4) (TH : PathTxt K mg x3 y3) (TR : RowTxt K mg x4 y4) (T : TexTxt K mg x5 x6 y5 y6) {k : Nat} : FnOk P w K mg base CX0 (k + 6) x6 y6 ["pen", "rule"] (spXLong K) := by
  have GT : FnOk P w K mg base CX0 (k + 5) f3 d3 ["pen", "many"] spTakeC := ok_takeC TP (k := k + 3)
  have GP : FnOk P w K mg base CX0 (k + 5) f4 d4 ["pen", "some"] (spPickC K) := ok_pickC TP (k := k + 2)
  have GR : FnOk P w K mg base CX0 (k + 5) x4 y4 ["pen", "rule", "state", "most"] (spXRow K) := ok_xRow TP TH TR (k := k)
  refine T.FXLong.ok scXLong (fun vs H Q E h => ?_) (fun cdv A outer s H vs Q E hr h => ?_)
  · obtain ⟨p, c, n, x, z, ss, rfl, _⟩ := h
    rfl
  · obtain ⟨p, c, n, x, z, ss, rfl, hP, hn, hx, zr, q⟩ := h
    refine ⟨_, (Evl.pss_cut (ps_asg (pe_call GR hr (by rfl) TR.gXRow TR.FXRow.kp TR.bXRow .nil pass0 (pa_cons (pv 0) (pa_cons (pv 1) (pa_cons pe_int (pa_cons pe_int pa_nil))))) (pg_tup rfl (pgs_cons (pg_name (i := 2) scXLong.nd rfl (.inl rfl)) (pgs_cons (pg_name (i := 3) scXLong.nd rfl (.inl rfl)) pgs_nil))))
 (Evl.pss_cut (ps_set (i := 4) scXLong.nd rfl (.inl rfl) (pe_call GP hr (by rfl) TP.gPick TP.FPick.kp TP.bPick .nil pass0 (pa_cons (pv 0) (pa_cons (pe_lst (pa_cons pe_int (pa_cons pe_int (pa_cons pe_int (pa_cons pe_int pa_nil))))) pa_nil))))
 (Evl.pss_cut (ps_set (i := 5) scXLong.nd rfl (.inl rfl) (pe_slice sl_str (pe_op op_add_str (pv 2) (pe_op op_mulT (pv 3) (pv 4))) po_none (po_some (pv 4))))
 (Evl.pss_cut (ps_set (i := 6) scXLong.nd rfl (.inl rfl) (pe_op op_mulT (pv 3) (pe_op op_fdivW (pv 4) (pe_callB call_len_str (by rfl) T.len PySem.boot_len (pa_cons (pv 3) pa_nil)))))
 (Evl.pss_cut (ps_if (pt_cmpR op_eq (pe_call GT hr (by rfl) TP.gTake TP.FTake.kp TP.bTake .nil pass0 (pa_cons (pv 0) (pa_cons pe_int pa_nil))) pe_int (nomark _)) (pss_one (ps_set (i := 5) scXLong.nd rfl (.inl rfl) (pe_op op_add_str (pe_slice sl_str (pv 5) po_none (po_some (pe_un un_neg pe_int))) (pe_call GP hr (by rfl) TP.gPick TP.FPick.kp TP.bPick .nil pass0 (pa_cons (pv 0) (pa_cons (pe_callTy (call_list_strX rfl) (by rfl) T.list (by decide +kernel) (pa_cons (pe_ix ix_tup (pv 1) pe_int (fun _ _ => rfl)) pa_nil)) pa_nil)))))) pss_nil)
 (Evl.pss_cut (ps_if (pt_cmpR op_eq (pe_call GT hr (by rfl) TP.gTake TP.FTake.kp TP.bTake .nil pass0 (pa_cons (pv 0) (pa_cons pe_int pa_nil))) pe_int (nomark _)) (pss_one (ps_set (i := 6) scXLong.nd rfl (.inl rfl) (pe_op op_add_str (pe_slice sl_str (pv 6) po_none (po_some (pe_un un_neg pe_int))) (pe_call GP hr (by rfl) TP.gPick TP.FPick.kp TP.bPick .nil pass0 (pa_cons (pv 0) (pa_cons (pe_callTy (call_list_strX rfl) (by rfl) T.list (by decide +kernel) (pa_cons (pe_ix ix_tup (pv 1) pe_int (fun _ _ => rfl)) pa_nil)) pa_nil)))))) pss_nil)
 (pss_one (ps_ret (pe_tup (pa_cons (pv 5) (pa_cons (pv 6) pa_nil))))))))))), ?_⟩
    obtain ⟨hl, r1, r4, _⟩ := rul_of (L := z.cps.toList) zr
    have z3 := z_len hl
    have hpos := letters_pos hl
    have big : ∀ {m : Nat}, m ≤ 40000 → m ≤ sizeLine := fun h => Nat.le_trans h (by decide)
    refine ⟨fun σ H' => ∃ (b a : Str), σ = [some (.ref p), some x, some (.str b), some (.str a), none, none, none] ∧ But p H H' ∧ PenC H' p c (n + 30) ∧ b.length + a.length ≤ 20 ∧ 0 < a.length ∧ (∀ c ∈ b.cps.toList, c ∈ z.cps.toList) ∧ (∀ c ∈ a.cps.toList, c ∈ z.cps.toList), ?_, ?_⟩
    · refine ⟨_, rfl, _, rfl, p, c, n, x, z, ss, 0, 6, rfl, hP, by omega, hx, zr, by decide, by omega, by decide, by decide, fun H1 t b a b1 hP1 ht nt l1 l2 mb ma => ?_⟩
      exact ⟨t, _, rfl, SqT.of ht, rfl, _, _, rfl, _, _, rfl, rfl, b, a, rfl, b1, hP1, l1, l2, mb, ma⟩
    rintro σ H1 ⟨b, a, rfl, b1, hP1, l1, l2, mb, ma⟩
    refine ⟨fun σ H' => ∃ (m : Int), σ = [some (.ref p), some x, some (.str b), some (.str a), some (.int m), none, none] ∧ But p H H' ∧ PenC H' p c (n + 31) ∧ 300 ≤ m ∧ m ≤ 1500, ?_, ?_⟩
    · refine ⟨_, rfl, (by show 4 ≤ sizeLine; decide), fun L hL => ?_⟩
      have xL := same_upd (o := HO.lst [.int 300, .int 301, .int 700, .int 1500]) hL
      refine ⟨p, c, L, _, _, rfl, hP1.same xL, by omega, SqL.of upd_same, new_ne hP1.pen hL, (by decide), (by decide), fun H2 m v b2 hP2 hm => ?_⟩
      have hv : ∃ i : Int, v = .int i ∧ 300 ≤ i ∧ i ≤ 1500 := by
        match m, hm with
        | 0, hm => exact ⟨_, (Option.some.inj hm).symm, by decide, by decide⟩
        | 1, hm => exact ⟨_, (Option.some.inj hm).symm, by decide, by decide⟩
        | 2, hm => exact ⟨_, (Option.some.inj hm).symm, by decide, by decide⟩
        | 3, hm => exact ⟨_, (Option.some.inj hm).symm, by decide, by decide⟩
        | m + 4, hm => exact absurd hm (by simp)
      obtain ⟨i, rfl, i0, i1⟩ := hv
      exact ⟨i, rfl, b1.trans ((But.of xL).trans b2), hP2, i0, i1⟩
    rintro σ H2 ⟨m, rfl, b2, hP2, m0, m1⟩
    -- word
    refine ⟨fun σ H' => ∃ (wd : Str), σ = [some (.ref p), some x, some (.str b), some (.str a), some (.int m), some (.str wd), none] ∧ H' = H2 ∧ wd.length ≤ 1500 ∧ (∀ c ∈ wd.cps.toList, c ∈ z.cps.toList), ?_, ?_⟩
    · have lm := mul_len (x := a) (n := m) (by omega)
      have l4 : a.length * m.toNat ≤ 20 * 1500 := Nat.mul_le_mul (by omega) (by omega)
      have cm := cut_most (b ++ Txt.mul a m) m (by omega)
      refine ⟨_, rfl, _, rfl, _, rfl, a, m, rfl, rfl, by omega, by omega, by omega, _, _, rfl, rfl, big (by omega), _, rfl, m, rfl, _, rfl, big (by rw [app_len]; omega), _, rfl, rfl, by omega, fun c' hc => ?_⟩
      have h2 := cut_mem hc
      rw [str_app] at h2
      exact (List.mem_append.mp h2).elim (mb c') fun h => ma c' (mul_mem h)
    rintro σ H2 ⟨wd, rfl, rfl, lw, mw⟩
    -- loop
    refine ⟨fun σ H' => ∃ (lp : Str), σ = [some (.ref p), some x, some (.str b), some (.str a), some (.int m), some (.str wd), some (.str lp)] ∧ H' = H2 ∧ 0 < lp.length ∧ lp.length ≤ 1500 ∧ (∀ c ∈ lp.cps.toList, c ∈ z.cps.toList), ?_, ?_⟩
    · have d0 : 0 ≤ m / (a.length : Int) := Int.ediv_nonneg (by omega) (by omega)
      have d1 : 1 ≤ m / (a.length : Int) := (Int.le_ediv_iff_mul_le (by omega)).mpr (by omega)
      have d2 : m / (a.length : Int) * (a.length : Int) ≤ m := Int.ediv_mul_le m (by omega)
      have d3 : m / (a.length : Int) ≤ m := Int.ediv_le_self _ (by omega)
      have lm := mul_len (x := a) (n := m / (a.length : Int)) d0
      have l5 : ((a.length * (m / (a.length : Int)).toNat : Nat) : Int) = m / (a.length : Int) * (a.length : Int) := by
        rw [Int.natCast_mul, Int.toNat_of_nonneg d0, Int.mul_comm]
      have l6 : 1 * 1 ≤ a.length * (m / (a.length : Int)).toNat := Nat.mul_le_mul l2 (by omega)
      exact ⟨_, rfl, _, rfl, _, rfl, a, rfl, big (by omega), _, _, rfl, rfl, ⟨by omega, log_small (m := 20) (by omega) (by decide)⟩, a, _, rfl, rfl, by omega, d0, by omega, _, rfl, rfl, by omega, by omega, fun c' hc => ma c' (mul_mem hc)⟩
    rintro σ H2 ⟨lp, rfl, rfl, lp0, lp1, ml⟩
    refine ⟨fun σ H' => ∃ (wd' : Str), σ = [some (.ref p), some x, some (.str b), some (.str a), some (.int m), some (.str wd'), some (.str lp)] ∧ But p H H' ∧ PenC H' p c (n + 33) ∧ wd'.length ≤ 1500 ∧ (∀ c ∈ wd'.cps.toList, c ∈ z.cps.toList), ?_, ?_⟩
    · refine ⟨_, rfl, p, c, 3, _, rfl, hP2, by omega, by decide, by decide, fun H3 k3 b3 hP3 k30 k31 => ⟨rfl, _, rfl, ite2 (fun _ => ?_) (fun _ => ?_)⟩⟩
      · have hx3 := (hx.go (butN_but (b2.trans b3))).rp
        obtain ⟨ax, u, v, pd, td, ex, e, hS, hp, ht⟩ := hx3.two rfl
        cases e
        subst ex
        obtain rfl := hp.isStr'
        refine ⟨_, rfl, _, rfl, _, rfl, wd, rfl, big (by omega), _, rfl, _, rfl, ax, _, 0, _, rfl, rfl, hS, atI_nat (j := 0) rfl, z, rfl, by omega, fun L hL => ?_⟩
        have xL := same_upd (o := HO.lst (z.cps.toList.map fun c => V.str ⟨#[c]⟩)) hL
        refine ⟨p, c, L, _, _, rfl, hP3.same xL, by omega, SqL.of upd_same, new_ne hP3.pen hL, (by rw [List.length_map, str_len]; exact hpos), (by rw [List.length_map, Array.length_toList]; omega), fun H4 m4 v4 b4 hP4 hm4 => ?_⟩
        obtain ⟨cc, rfl, hcc⟩ := sg_at hm4
        have cl := cut_last wd
        have al := app_len (cutS wd none (some (-1))) ⟨#[cc]⟩
        rw [one_len] at al
        refine ⟨_, _, rfl, rfl, big (by rw [one_len]; omega), _, rfl, b2.trans (b3.trans ((But.of xL).trans b4)), hP4.mono (by omega), by omega, fun c' hc => ?_⟩
        rw [str_app] at hc
        rcases List.mem_append.mp hc with h | h
        · exact mw c' (cut_mem h)
        · have : c' = cc := by simpa using h
          rw [this]
          exact hcc
      · exact ⟨wd, rfl, b2.trans b3, hP3.mono (by omega), lw, mw⟩
    rintro σ H2 ⟨wd', rfl, b2, hP2, lw, mw⟩
    refine ⟨fun σ H' => ∃ (lp' : Str), σ = [some (.ref p), some x, some (.str b), some (.str a), some (.int m), some (.str wd'), some (.str lp')] ∧ But p H H' ∧ PenC H' p c (n + 35) ∧ 0 < lp'.length ∧ lp'.length ≤ 1500 ∧ (∀ c ∈ lp'.cps.toList, c ∈ z.cps.toList), ?_, ?_⟩
    · refine ⟨_, rfl, p, c, 3, _, rfl, hP2, by omega, by decide, by decide, fun H3 k3 b3 hP3 k30 k31 => ⟨rfl, _, rfl, ite2 (fun _ => ?_) (fun _ => ?_)⟩⟩
      · have hx3 := (hx.go (butN_but (b2.trans b3))).rp
        obtain ⟨ax, u, v, pd, td, ex, e, hS, hp, ht⟩ := hx3.two rfl
        cases e
        subst ex
        obtain rfl := hp.isStr'
        refine ⟨_, rfl, _, rfl, _, rfl, lp, rfl, big (by omega), _, rfl, _, rfl, ax, _, 0, _, rfl, rfl, hS, atI_nat (j := 0) rfl, z, rfl, by omega, fun L hL => ?_⟩
        have xL := same_upd (o := HO.lst (z.cps.toList.map fun c => V.str ⟨#[c]⟩)) hL
        refine ⟨p, c, L, _, _, rfl, hP3.same xL, by omega, SqL.of upd_same, new_ne hP3.pen hL, (by rw [List.length_map, str_len]; exact hpos), (by rw [List.length_map, Array.length_toList]; omega), fun H4 m4 v4 b4 hP4 hm4 => ?_⟩
        obtain ⟨cc, rfl, hcc⟩ := sg_at hm4
        have cl := cut_last lp
        have al := app_len (cutS lp none (some (-1))) ⟨#[cc]⟩
        rw [one_len] at al
        refine ⟨_, _, rfl, rfl, big (by rw [one_len]; omega), _, rfl, b2.trans (b3.trans ((But.of xL).trans b4)), hP4.mono (by omega), by omega, by omega, fun c' hc => ?_⟩
        rw [str_app] at hc
        rcases List.mem_append.mp hc with h | h
        · exact ml c' (cut_mem h)
        · have : c' = cc := by simpa using h
          rw [this]
          exact hcc
      · exact ⟨lp, rfl, b2.trans b3, hP3.mono (by omega), lp0, lp1, ml⟩
    rintro σ H2 ⟨lp', rfl, b2, hP2, lp0, lp1, ml⟩
    refine ⟨_, rfl, _, rfl, (by show 2 ≤ sizeLine; decide), fun t ht => ?_⟩
    have xt := same_upd (o := HO.tup [V.str wd', V.str lp']) ht
    exact q _ t _ _ (b2.trans (But.of xt)) ((hP2.same xt).mono (by omega)) upd_same (new_ne hP2.pen ht) lw lp0 lp1 mw ml
end
end My
/-! ### the law's own steps along a rule -/
namespace My
open PySem PySem.Spec PyProof.Rows L2
abbrev sXBehind : Stmt := topS 39
abbrev sXIsOf : Stmt := topS 40
theorem scXBehind : FnScope ["rule", "state", "word", "letter"] ["rule", "state", "word"] (defScope sXBehind) := ⟨rfl, rfl, rfl, by decide +kernel, rfl, by decide +kernel, by decide +kernel⟩
theorem scXIsOf : FnScope ["rule", "row", "state", "turn"] ["rule", "row"] (defScope sXIsOf) := ⟨rfl, rfl, rfl, by decide +kernel, rfl, by decide +kernel, by decide +kernel⟩
structure BehTxt (K : PySem.W.Frag) (mg : Str → Option Value) (x7 x8 : Addr) (y7 y8 : FuncData) : Prop where
  range : mg "range" = none
  FXBehind : Fun K "_law_x_behind" "_law_x_behind" sXBehind x7 y7
  bXBehind : Binds K y7 ["rule", "state", "word"] []
  gXBehind : mg "_law_x_behind" = some (.ref x7)
  FXIsOf : Fun K "_law_x_is_of" "_law_x_is_of" sXIsOf x8 y8
  bXIsOf : Binds K y8 ["rule", "row"] []
  gXIsOf : mg "_law_x_is_of" = some (.ref x8)
def spXIsOf (K : PySem.W.Frag) : Sp := fun vs H Q _ => ∃ (x r : V) (z wz cz : Str) (ss : List PyData), vs = [x, r] ∧ Rp K H x (.tuple [.str z, .tuple ss]) ∧ rulD (.tuple [.str z, .tuple ss]) = true ∧ Rp K H r (.tuple [.str wz, .str cz]) ∧ (∀ c ∈ wz.cps.toList, c ∈ z.cps.toList) ∧ (∀ c ∈ cz.cps.toList, c ∈ z.cps.toList) ∧
  Q (.bl (turns z.cps.toList ss cz.cps.toList 5 (behind z.cps.toList ss (some 0) wz.cps.toList)).isSome) H
/-! turns of a ring: so many as there are states tell it -/
theorem turns_none (L : List Nat) (ss : List PyData) (cs : List Nat) : ∀ n, turns L ss cs n none = none
  | 0 => rfl
  | n + 1 => by
    show behind L ss (turns L ss cs n none) cs = none
    rw [turns_none L ss cs n, behind_none]
theorem turns_add (L : List Nat) (ss : List PyData) (cs : List Nat) (st : Option Int) (n : Nat) : ∀ m, turns L ss cs (n + m) st = turns L ss cs m (turns L ss cs n st)
  | 0 => rfl
  | m + 1 => by
    show behind L ss (turns L ss cs (n + m) st) cs = behind L ss (turns L ss cs m (turns L ss cs n st)) cs
    rw [turns_add L ss cs st n m]
theorem pigeon {n : Nat} {a : Nat → Int} (h : ∀ i, i ≤ n → 0 ≤ a i ∧ a i < (n : Int)) : ∃ i j, i < j ∧ j ≤ n ∧ a i = a j := by
  have key : ∀ k, k ≤ n + 1 → (∃ i j, i < j ∧ j < k ∧ a i = a j) ∨ fresh n ((List.range k).map a) + k ≤ n := by
    intro k
    induction k with
    | zero =>
      intro _
      have := fresh_le n ((List.range 0).map a)
      exact .inr (by omega)
    | succ k ih =>
      intro hk
      rcases ih (by omega) with ⟨i, j, h1, h2, h3⟩ | h1
      · exact .inl ⟨i, j, h1, by omega, h3⟩
      · by_cases hm : a k ∈ (List.range k).map a
        · obtain ⟨i, hi, e⟩ := List.mem_map.mp hm
          exact .inl ⟨i, k, List.mem_range.mp hi, Nat.lt_succ_self k, e⟩
        · have h2 := h k (by omega)
          have h3 := fresh_lt h2.1 h2.2 hm
          rw [List.range_succ, List.map_append]
          exact .inr (by show fresh n ((List.range k).map a ++ [a k]) + (k + 1) ≤ n; omega)
  rcases key (n + 1) (Nat.le_refl _) with ⟨i, j, h1, h2, h3⟩ | h1
  · exact ⟨i, j, h1, by omega, h3⟩
  · omega
theorem turns_all {L : List Nat} {z : Str} {ss : List PyData} (h : rulD (.tuple [.str z, .tuple ss]) = true) (cs : List Nat) {st : Option Int} (f : Fit ss st) (hs : (turns L ss cs ss.length st).isSome = true) : ∀ k, (turns L ss cs k st).isSome = true := by
  have down : ∀ i, i ≤ ss.length → (turns L ss cs i st).isSome = true := fun i hi => by
    cases e : turns L ss cs i st with
    | some v => rfl
    | none =>
      rw [show ss.length = i + (ss.length - i) by omega, turns_add, e, turns_none] at hs
      cases hs
  obtain ⟨i, j, h1, h2, h3⟩ := pigeon (n := ss.length) (a := fun i => (turns L ss cs i st).getD 0) fun i hi => by
    have hd := down i hi
    cases e : turns L ss cs i st with
    | none =>
      rw [e] at hd
      cases hd
    | some v => exact fit_turns h cs f i v e
  have eq : turns L ss cs i st = turns L ss cs j st := by
    have di := down i (by omega)
    have dj := down j h2
    cases ei : turns L ss cs i st with
    | none =>
      rw [ei] at di
      cases di
    | some v =>
      cases ej : turns L ss cs j st with
      | none =>
        rw [ej] at dj
        cases dj
      | some v2 =>
        have h4 : (turns L ss cs i st).getD 0 = (turns L ss cs j st).getD 0 := h3
        rw [ei, ej] at h4
        exact congrArg some h4
  intro k
  induction k using Nat.strongRecOn with
  | _ k ih =>
    by_cases hk : k ≤ ss.length
    · exact down k hk
    · have e : turns L ss cs k st = turns L ss cs (i + (k - j)) st := by
        rw [turns_add, eq, ← turns_add, show j + (k - j) = k by omega]
      rw [e]
      exact ih _ (by omega)
theorem turns_five {L : List Nat} {z : Str} {ss : List PyData} (h : rulD (.tuple [.str z, .tuple ss]) = true) (cs : List Nat) {st : Option Int} (f : Fit ss st) : (turns L ss cs ss.length st).isSome = (turns L ss cs 5 st).isSome := by
  obtain ⟨_, r1, r4, _⟩ := rul_of (L := L) h
  cases e : (turns L ss cs ss.length st).isSome with
  | true => exact (turns_all h cs f e 5).symm
  | false =>
    have e2 : turns L ss cs ss.length st = none := by
      cases q : turns L ss cs ss.length st with
      | none => rfl
      | some v =>
        rw [q] at e
        cases e
    rw [show 5 = ss.length + (5 - ss.length) by omega, turns_add, e2, turns_none]
    rfl
section
variable {P : Program} {w : World} {K : PySem.W.Frag} {mg : Str → Option Value} {base : Heap} {x7 x8 : Addr} {y7 y8 : FuncData}
theorem ok_xBehind (T : BehTxt K mg x7 x8 y7 y8) {k : Nat} : FnOk P w K mg base CX0 (k + 1) x7 y7 ["rule", "state", "word"] (spAfter K) := by
  refine T.FXBehind.ok scXBehind (fun vs H Q E h => ?_) (fun cdv A outer s H vs Q E hr h => ?_)
  · obtain ⟨x, z, wz, ss, st, rfl, _⟩ := h
    rfl
  · obtain ⟨x, z, wz, ss, st, rfl, hR, hrl, hf, hin, q⟩ := h
    refine ⟨_, (pss_cons (ps_for PassesOwn.never rfl (pi_str (pv 2)) (pg_name (i := 3) scXBehind.nd rfl (.inl rfl))
 (pss_one (ps_if (pt_cmpR op_notN (pv 1) pe_non (nomark _)) (pss_one (ps_set (i := 1) scXBehind.nd rfl (.inl rfl) (pe_ix ix_tup (pe_ix ix_tup (pe_ix ix_tup (pv 0) pe_int (fun _ _ => rfl)) (pv 1) (fun _ _ => rfl)) (pe_bm PySem.F.plainAttrs_str PySem.F.slot_str_index PySem.F.type_str_index mt_sindex (pe_ix ix_tup (pv 0) pe_int (fun _ _ => rfl)) (pa_cons (pv 3) pa_nil)) (fun _ _ => rfl)))) pss_nil)))
 (pss_one (ps_ret (pv 1)))), ?_⟩
    obtain ⟨a, u, v, p, t, rfl, e, hS, hp, ht⟩ := hR.two rfl
    cases e
    obtain ⟨b, xs, rfl, hS2, hA⟩ := ht.isTup'
    obtain ⟨hl, r1, r4, hes⟩ := rul_of (L := z.cps.toList) hrl
    obtain rfl := hp.isStr'
    refine ⟨_, rfl, wz, rfl, ?_⟩
    refine for_it walk_str (fun j σ H' => H' = H ∧ ∃ lv, σ = [some (.ref a), some (stV (behind z.cps.toList ss st (wz.cps.toList.take j))), some (.str wz), lv]) ⟨rfl, _, rfl⟩ (fun _ _ _ _ _ => trivial) ?_ ?_
    · rintro j u σ H' H2 hj ⟨rfl, lv, rfl⟩ ⟨rfl, c, hc, rfl⟩
      have hc2 : wz.cps.toList[j]? = some c := by rw [Array.getElem?_toList]; exact hc
      have hcz := hin c (List.mem_of_getElem? hc2)
      have hft := fit_behind (L := z.cps.toList) hrl (wz.cps.toList.take j) hf
      have hnx := behind_take (L := z.cps.toList) (ss := ss) (st := st) hc2
      refine ⟨_, rfl, rfl, _, rfl, ?_⟩
      cases hb : behind z.cps.toList ss st (wz.cps.toList.take j) with
      | none =>
        refine ite2 (fun y => absurd y (by decide)) (fun _ => ⟨rfl, some (.str ⟨#[c]⟩), ?_⟩)
        rw [hnx, hb]
        rfl
      | some i =>
        refine ite2 (fun _ => ?_) (fun y => absurd (by rw [decide_eq_false (by simp [stV])]; rfl) y)
        obtain ⟨f1, f2⟩ := hft i hb
        obtain ⟨a2, ys, es, ha2, hS3, hA3, he, el, yl, ed, hw⟩ := rul_at hrl hA f1 f2
        have hk : z.cps.toList.idxOf c < z.cps.toList.length := List.idxOf_lt_length_of_mem hcz
        have hz := str_len z
        have hy : ys[z.cps.toList.idxOf c]? = some (ys[z.cps.toList.idxOf c]'(by omega)) := List.getElem?_eq_getElem _
        obtain ⟨d, hd, rd⟩ := hA3.at hy
        have hv : ys[z.cps.toList.idxOf c]'(by omega) = stV (tgt d) := by
          rcases ed d (List.mem_of_getElem? hd) with rfl | ⟨n, rfl, _, _⟩
          · generalize ys[z.cps.toList.idxOf c]'(by omega) = y at rd
            cases rd
            rfl
          · generalize ys[z.cps.toList.idxOf c]'(by omega) = y at rd
            cases rd
            rfl
        have hst : stepD z.cps.toList ss (some i) c = tgt d := by
          show tgt ((elems (ss.getD i.toNat .none)).getD (z.cps.toList.idxOf c) .none) = tgt d
          rw [List.getD_eq_getElem?_getD (l := ss), he]
          show tgt (es.getD (z.cps.toList.idxOf c) .none) = tgt d
          rw [List.getD_eq_getElem?_getD, hd]
          rfl
        refine ⟨_, rfl, a, _, 1, _, rfl, rfl, hS, atI_nat (j := 1) rfl, _, rfl, b, xs, i, _, rfl, rfl, hS2, ha2, _, rfl, a, _, 0, _, rfl, rfl, hS, atI_nat (j := 0) rfl, ?_⟩
        refine ⟨rfl, _, rfl, z, _, z.cps.toList.idxOf c, [], rfl, rfl, occ_idx hl hcz, a2, ys, _, _, rfl, rfl, hS3, atI_nat hy, ?_⟩
        refine ⟨rfl, some (.str ⟨#[c]⟩), ?_⟩
        rw [hnx, hb, hst, ← hv]
        rfl
    · rintro σ H' ⟨rfl, lv, rfl⟩
      have e : wz.cps.toList.take wz.cps.size = wz.cps.toList := by rw [← Array.length_toList, List.take_length]
      rw [e]
      exact ⟨_, rfl, q⟩
theorem ok_xIsOf (T : BehTxt K mg x7 x8 y7 y8) {k : Nat} : FnOk P w K mg base CX0 (k + 2) x8 y8 ["rule", "row"] (spXIsOf K) := by
  have GB : FnOk P w K mg base CX0 (k + 1) x7 y7 ["rule", "state", "word"] (spAfter K) := ok_xBehind T
  refine T.FXIsOf.ok scXIsOf (fun vs H Q E h => ?_) (fun cdv A outer s H vs Q E hr h => ?_)
  · obtain ⟨x, r, z, wz, cz, ss, rfl, _⟩ := h
    rfl
  · obtain ⟨x, r, z, wz, cz, ss, rfl, hR, hrl, hw, hi1, hi2, q⟩ := h
    refine ⟨_, (pss_cons (ps_set (i := 2) scXIsOf.nd rfl (.inl rfl) (pe_call GB hr (by rfl) T.gXBehind T.FXBehind.kp T.bXBehind .nil pass0 (pa_cons (pv 0) (pa_cons pe_int (pa_cons (pe_ix ix_tup (pv 1) pe_int (fun _ _ => rfl)) pa_nil)))))
 (pss_cons (ps_for PassesOwn.never rfl (pi_range1 (by rfl) T.range (pa_cons pe_int pa_nil)) (pg_name (i := 3) scXIsOf.nd rfl (.inl rfl))
 (pss_one (ps_set (i := 2) scXIsOf.nd rfl (.inl rfl) (pe_ifExp (pt_cmpR op_isN (pv 2) pe_non (nomark _)) pe_non (pe_call GB hr (by rfl) T.gXBehind T.FXBehind.kp T.bXBehind .nil pass0 (pa_cons (pv 0) (pa_cons (pv 2) (pa_cons (pe_ix ix_tup (pv 1) pe_int (fun _ _ => rfl)) pa_nil))))))))
 (pss_one (ps_ret (pe_cmpR op_notN (pv 2) pe_non (nomark _)))))), ?_⟩
    obtain ⟨b, u, v, p, t, rfl, e, hS, hp, ht⟩ := hw.two rfl
    cases e
    obtain rfl := hp.isStr'
    obtain rfl := ht.isStr'
    obtain ⟨hl, r1, r4, hes⟩ := rul_of (L := z.cps.toList) hrl
    have f0 : Fit ss (some 0) := fun i hi => by
      cases hi
      exact ⟨by decide, by omega⟩
    have fb := fit_behind (L := z.cps.toList) hrl wz.cps.toList f0
    refine ⟨_, rfl, _, rfl, b, _, 0, _, rfl, rfl, hS, atI_nat (j := 0) rfl, x, z, wz, ss, some 0, rfl, hR, hrl, f0, hi1, ?_⟩
    refine ⟨_, rfl, by decide, by decide, ?_⟩
    refine for_range (lo := 0) (n := 5) (fun i σ H' => H' = H ∧ ∃ lv, σ = [some x, some (.ref b), some (stV (turns z.cps.toList ss cz.cps.toList i (behind z.cps.toList ss (some 0) wz.cps.toList))), lv]) ⟨rfl, _, rfl⟩ ?_ ?_
    · rintro i σ H' hi ⟨rfl, lv, rfl⟩
      refine ⟨_, rfl, rfl, _, rfl, ?_⟩
      have ft := fit_turns (L := z.cps.toList) hrl cz.cps.toList fb i
      cases e : turns z.cps.toList ss cz.cps.toList i (behind z.cps.toList ss (some 0) wz.cps.toList) with
      | none =>
        refine ite2 (fun _ => ?_) (fun y => absurd (decide_eq_true rfl) y)
        refine ⟨rfl, some (.int (0 + (i : Int))), ?_⟩
        show _ = [_, _, some (stV (behind z.cps.toList ss (turns z.cps.toList ss cz.cps.toList i (behind z.cps.toList ss (some 0) wz.cps.toList)) cz.cps.toList)), _]
        rw [e, behind_none]
        rfl
      | some m =>
        refine ite2 (fun y => absurd (of_decide_eq_true y) (by simp [stV])) (fun _ => ?_)
        rw [e] at ft
        refine ⟨_, rfl, _, rfl, _, rfl, b, _, 1, _, rfl, rfl, hS, atI_nat (j := 1) rfl, x, z, cz, ss, some m, rfl, hR, hrl, ft, hi2, ?_⟩
        refine ⟨rfl, some (.int (0 + (i : Int))), ?_⟩
        show _ = [_, _, some (stV (behind z.cps.toList ss (turns z.cps.toList ss cz.cps.toList i (behind z.cps.toList ss (some 0) wz.cps.toList)) cz.cps.toList)), _]
        rw [e]
        rfl
    · rintro σ H' ⟨rfl, lv, rfl⟩
      refine ⟨_, rfl, rfl, ?_⟩
      rw [stV_some]
      exact q
end
end My
/-! ### how is_of binds -/
namespace My
open PySem PySem.Spec PyProof.Rows L2
theorem isof_binds {K : PySem.W.Frag} {r4 : Addr} {v4 : FuncData} (F : FunD K "is_of" "is_of" (defArgs sIsOf) (defBody sIsOf) (defScope sIsOf) [] [("ring", .non)] r4 v4) : ∃ ds, Vals [V.non] ds ∧ Binds K v4 ["rule", "word", "ring"] ds :=
  F.binds0 2 (by simp) rfl (fun D doc pm an cdv ct us ks h1 h2 => match us, ks, h1, h2 with
    | [_, _], [_], _, _ => ⟨_, _, _, _, _, _, rfl, rfl, rfl⟩)
theorem isof_kbinds {K : PySem.W.Frag} {r4 : Addr} {v4 : FuncData} (F : FunD K "is_of" "is_of" (defArgs sIsOf) (defBody sIsOf) (defScope sIsOf) [] [("ring", .non)] r4 v4) : KBn K v4 ["rule", "word", "ring"] 2 ["ring"] (fun us ws => us ++ ws) (fun vs zs => vs ++ zs) := by
  obtain ⟨mv, h⟩ := F.kbinds0 (ps := ["rule", "word", "ring"]) 2 ["ring"] [] (fun us _ ws => us ++ ws) (by simp) (fun _ h => nomatch h) (fun r1 _ r3 => r1.append r3) (fun D doc pm an cdv ct us mv ws h1 h2 h3 => match us, mv, ws, h1, h2, h3 with
    | [_, _], [], [_], _, _, _ => rfl)
  exact h
end My
/-! ### what stays along the law's refusals -/
namespace My
open PySem PySem.Spec PyProof.Rows L2
abbrev sRef : Stmt := topS 44
theorem scRef : FnScope ["pen", "rule", "letters", "other", "wrong", "some", "bad", "due", "loop", "one", "what", "word", "k", "letter"] ["pen", "rule"] (defScope sRef) := ⟨rfl, rfl, rfl, by decide +kernel, rfl, by decide +kernel, by decide +kernel⟩
def qRef : Str := (envOfC "_law_x_refused_right" (defScope sRef) 0 0 .none).qual ++ "<lambda>"
/-- all but the pen stays, the pen stands, the tables stand -/
def Go (PT p c : Addr) (n : Nat) (H H' : Hp) : Prop := ButN p H H' ∧ PenC H' p c n ∧ LamX.Tabs [(PT, qRef)] H'
section
variable {PT p c : Addr} {n m : Nat} {H H1 H2 : Hp}
theorem Go.pc (g : Go PT p c n H H1) : PenC H1 p c n := g.2.1
theorem Go.pen (g : Go PT p c n H H1) : Pen H1 p n := g.2.1.pen
theorem Go.same (g : Go PT p c n H H1) (s : Same H1 H2) : Go PT p c n H H2 := ⟨g.1.trans (butN_same s), g.2.1.same s, tabs_same g.2.2 s⟩
theorem Go.but (g : Go PT p c n H H1) (b : But p H1 H2) (h : PenC H2 p c m) : Go PT p c m H H2 := ⟨g.1.trans (butN_but b), h, tabs_pen g.2.2 g.pen b⟩
theorem Go.mono (g : Go PT p c n H H1) (h : n ≤ m) : Go PT p c m H H1 := ⟨g.1, g.2.1.mono h, g.2.2⟩
theorem PenC.extN {H H' : Hp} {p c : Addr} {n : Nat} (h : PenC H p c n) (s : LamX.ExtN H H') : PenC H' p c n := by
  obtain ⟨cs, a, r, h1, h2, h3⟩ := h.ex
  exact ⟨cs, a, r, s _ _ h1 (fun _ z => nomatch z), s _ _ h2 (fun _ z => nomatch z), h3⟩
theorem Go.ext (g : Go PT p c n H H1) (s : LamX.ExtN H1 H2) (t : LamX.Tabs [(PT, qRef)] H2) : Go PT p c n H H2 := ⟨g.1.trans (butN_ext s), g.2.1.extN s, t⟩
end

def Bads (p : Addr) (K : PySem.W.Frag) (H : Hp) (P : PyData → Prop) (xs : List V) : Prop := ∀ v ∈ xs, ∃ d, Rs p K H v d ∧ P d
theorem rsAll_rep {p : Addr} {K : PySem.W.Frag} {H : Hp} : ∀ n : Nat, RsAll p K H (List.replicate n .non) (List.replicate n .none)
  | 0 => rsNil
  | n + 1 => .cons rs_non (rsAll_rep n)
theorem no_some (n : Nat) : (List.replicate n PyData.none).filter someD = [] := by
  induction n with
  | zero => rfl
  | succ n ih =>
    rw [List.replicate_succ, List.filter_cons]
    exact ih
theorem txt_bad {L : List Nat} {y : Str} {o : Nat} (h : o ∈ y.cps.toList) (no : ¬ o ∈ L) : txtD L (.str y) = false := by
  cases e : txtD L (.str y) with
  | false => rfl
  | true => exact absurd (txt_mem e o h) no
theorem txt_long {L : List Nat} {y : Str} (h : 1500 < y.length) : txtD L (.str y) = false := by
  rw [txtD, decide_eq_false (by omega), Bool.false_and]
theorem ring_bad {L : List Nat} {d : PyData} (h : txtD L d = false) : ringD L d = false := by
  rw [ringD, h, Bool.false_and]
theorem txt_self {z : Str} (h : z.length ≤ 3) : txtD z.cps.toList (.str z) = true := by
  rw [txtD, decide_eq_true (by omega), Bool.true_and, List.all_eq_true]
  exact fun c hc => decide_eq_true hc
theorem neSE {a b : Str} (h : a = b) : V.bl (!decide (V.str a = V.str b)) = V.bl false := by
  subst h
  rw [decide_eq_true rfl]
  rfl
theorem word2 : wordOf 2 = "letters" := by decide +kernel
theorem word3 : wordOf 3 = "rule" := by decide +kernel
theorem word5 : wordOf 5 = "word" := by decide +kernel
theorem other_of {z : Str} (h : lettersL z.cps.toList = true) : ∃ c, c ∈ abc.cps.toList ∧ ¬ c ∈ z.cps.toList := by
  have m : ∀ c, 97 ≤ c → c ≤ 100 → c ∈ abc.cps.toList := by
    intro c h1 h2
    have : c = 97 ∨ c = 98 ∨ c = 99 ∨ c = 100 := by omega
    rcases this with rfl | rfl | rfl | rfl <;> decide +kernel
  by_cases a : 97 ∈ z.cps.toList
  · by_cases b : 98 ∈ z.cps.toList
    · by_cases d : 99 ∈ z.cps.toList
      · by_cases e : 100 ∈ z.cps.toList
        · exfalso
          generalize z.cps.toList = l at *
          unfold lettersL at h
          split at h
          · simp at a b; omega
          · simp at a b d; omega
          · simp at a b d e; omega
          · cases h
        · exact ⟨100, m _ (by decide) (by decide), e⟩
      · exact ⟨99, m _ (by decide) (by decide), d⟩
    · exact ⟨98, m _ (by decide) (by decide), b⟩
  · exact ⟨97, m _ (by decide) (by decide), a⟩
end My
/-! ### what is refused -/
namespace My
open PySem PySem.Spec PyProof.Rows L2
structure WT (K : PySem.W.Frag) (mg : Str → Option Value) (fW : Addr) (dW : FuncData) : Prop where
  FWord : Fun K "_law_x_word" "_law_x_word" sWord fW dW
  bWord : Binds K dW ["act"] []
  gWord : mg "_law_x_word" = some (.ref fW)
structure RefTxt (K : PySem.W.Frag) (mg : Str → Option Value) (x9 : Addr) (y9 : FuncData) : Prop where
  range : mg "range" = none
  len : mg "len" = none
  FRef : Fun K "_law_x_refused_right" "_law_x_refused_right" sRef x9 y9
  bRef : Binds K y9 ["pen", "rule"] []
  gRef : mg "_law_x_refused_right" = some (.ref x9)
theorem Fun.okC {P : Program} {w : World} {K : PySem.W.Frag} {mg : Str → Option Value} {base : Heap} {x qual : Str} {st : Stmt} {f : Addr} {fd : FuncData} {N ps : List Str} {k : Nat} {sp : Sp} {v : Value} (F : Fun K x qual st f fd) (hv : fd.code = v) (S : FnScope N ps (defScope st)) (len : ∀ vs H Q E, sp vs H Q E → vs.length = ps.length)
    (hbody : ∀ (A : Around) (outer : List Env) (s : Shared) (H : Hp) (vs : List V) (Q : VK) (E : XK), Room k (A.deeper (envOfC qual (defScope st) s.heap.objs.size f v)) → sp vs H Q E → ∃ t, PSs (cxOf CX0 P w K mg base N qual (defScope st) f v A outer s H E).nox (defBody st) t ∧ t { nx := fun _ H' => Q .non H', rt := Q } (start N vs) H) :
    FnOk P w K mg base CX0 (k + 1) f fd ps sp := by
  obtain ⟨oc, od, kV, doc, pm, an, c, ct, osl, hfd, lk, hc⟩ := F.ex
  subst hfd
  obtain rfl : c = v := hv
  refine fn_of lk hc S len fun A outer s H vs Q E hr h => ?_
  obtain ⟨t, d, q⟩ := hbody A outer s H vs Q E hr h
  exact ⟨t, d.nox, q⟩
def spRef (K : PySem.W.Frag) (PT : Addr) : Sp := fun vs H Q _ => ∃ (p c : Addr) (n : Nat) (x : V) (z : Str) (ss : List PyData), vs = [.ref p, x] ∧ PenC H p c n ∧ n < 1044000 ∧ Rs p K H x (.tuple [.str z, .tuple ss]) ∧ rulD (.tuple [.str z, .tuple ss]) = true ∧ LamX.Tabs [(PT, qRef)] H ∧
  ∀ H' : Hp, ButN p H H' → PenC H' p c (n + 12) → LamX.Tabs [(PT, qRef)] H' → Q (.bl true) H'
section
variable {P : Program} {w : World} {K : PySem.W.Frag} {mg : Str → Option Value} {base : Heap} {f1 f2 f3 f4 : Addr} {d1 d2 d3 d4 : FuncData} {m1 m2 m3 m4 m6 m7 m12 : Addr} {n1 n2 n3 n4 n6 n7 n12 : FuncData} {t1 t2 t6 : Tok} {r1 r2 r3 r4 : Addr} {v1 v2 v3 v4 : FuncData} {C0 C1 C2 C3 C4 C5 C6 C7 C8 C9 C10 C11 CL : Addr} {fW x9 : Addr} {dW y9 : FuncData} {cL PT : Addr}
theorem ok_ref (hcd : y9.code = .ref cL) (TP : PenTxt K mg f1 f2 f3 f4 d1 d2 d3 d4) (TI : IsOfTxt K mg m1 m2 m3 m4 m6 m7 m12 n1 n2 n3 n4 n6 n7 n12 t1 t2 r2 v2 t6 r3 v3 C3 C5 r4 v4) (TF : FreeTxt K mg m1 m2 m3 m4 m6 m7 m12 n1 n2 n3 n4 n6 n7 n12 t1 t2 C2 r1 v1) (TE : WordTxt K mg C0 C1 C2 C3 C4 C5 C6 C7 C8 C9 C10 C11 CL) (TW : WT K mg fW dW) (T : RefTxt K mg x9 y9) (TB : LamX.TabB base mg cL PT) : FnOk P w K mg base CX0 8 x9 y9 ["pen", "rule"] (spRef K PT) := by
  have GT : FnOk P w K mg base CX0 7 f3 d3 ["pen", "many"] spTakeC := ok_takeC TP (k := 5)
  have GP : FnOk P w K mg base CX0 7 f4 d4 ["pen", "some"] (spPickC K) := ok_pickC TP (k := 4)
  have GI : FnOk P w K mg base (L2.CX P w) 5 r4 v4 ["rule", "word", "ring"] (spIsOf K C3 C5) := ok_isOf TI (k := 0)
  have GF : FnOk P w K mg base (L2.CX P w) 5 r1 v1 ["letters"] (spFree K C2) := ok_free TF (k := 3)
  obtain ⟨ds, bIs, vIs'⟩ := isof_binds TI.FIsOf
  have vIs := bIs
  have bIs := vIs'
  obtain ⟨ocW, odW, kVW, docW, pmW, anW, cdW, ctW, slW, rfl, lkW, cgW⟩ := TW.FWord.ex
  refine Fun.okC T.FRef hcd scRef (fun vs H Q E h => ?_) (fun A outer s H vs Q E hr h => ?_)
  · obtain ⟨p, c, n, x, z, ss, rfl, _⟩ := h
    rfl
  · obtain ⟨p, c, n, x, z, ss, rfl, hP, hn, hx, zr, hT, q⟩ := h
    refine ⟨_, (Evl.pss_cut (ps_set (i := 2) scRef.nd rfl (.inr rfl) (pe_ix ix_tup (pv 1) pe_int (fun _ _ => rfl)))
 (Evl.pss_cut (ps_set (i := 3) scRef.nd rfl (.inl rfl) (pe_call GP hr (by rfl) TP.gPick TP.FPick.kp TP.bPick .nil pass0 (pa_cons (pv 0) (pa_cons (pe_lc (own := [("letter", 13)]) (g := gName 13) (by rfl) scRef.nd (pi_str pe_str) (blkOk_by (N := ["pen", "rule", "letters", "other", "wrong", "some", "bad", "due", "loop", "one", "what", "word", "k", "letter"]) (sc := defScope sRef) (by decide +kernel)) (fun _ _ _ _ _ => pg_name (i := 13) scRef.nd rfl (Or.inl rfl)) (fun _ _ _ _ _ => (pts_one (pt_cmpR op_notIn_sign (pv 13) (pv 2) (by rfl)))) (fun _ _ _ _ _ => (pv 13))) pa_nil))))
 (Evl.pss_cut (ps_setLc (i := 4) (own := [("k", 12)]) (g := gName 12) (tt := tYes) (by rfl) scRef.nd rfl rfl (sw_true rfl rfl rfl (by decide +kernel)) (pi_range1 (by rfl) T.range (pa_cons pe_int pa_nil)) (blkOk_by (N := ["pen", "rule", "letters", "other", "wrong", "some", "bad", "due", "loop", "one", "what", "word", "k", "letter"]) (sc := defScope sRef) (by decide +kernel)) (fun _ _ _ _ _ => pg_name (i := 12) scRef.nd rfl (Or.inl rfl)) (fun _ _ _ _ _ => pts_nil) (fun _ _ _ _ _ => (pe_cmpR op_eq (pe_call GT hr (by rfl) TP.gTake TP.FTake.kp TP.bTake .nil pass0 (pa_cons (pv 0) (pa_cons pe_int pa_nil))) pe_int (nomark _))))
 (pss_cons (ps_set (i := 5) scRef.nd rfl (.inl rfl) (pe_lst (pa_cons pe_non (pa_cons (pv 2) (pa_cons (pe_tup (pa_cons (pv 2) pa_nil)) (pa_cons (pe_lst (pa_cons (pv 2) (pa_cons (pe_tup pa_nil) pa_nil))) (pa_cons (pe_tup (pa_cons (pv 2) (pa_cons (pe_tup pa_nil) pa_nil))) pa_nil)))))))
 (Evl.pss_cut (ps_expr (pe_bm PySem.F.plainAttrs_list PySem.F.slot_list_append PySem.F.type_list_append mt_append (pv 5) (pa_cons (pe_tup (pa_cons (pv 2) (pa_cons (pe_tup (pa_cons (pe_op op_repT1 (pe_tup (pa_cons pe_non pa_nil)) (pe_callB call_len_str (by rfl) T.len PySem.boot_len (pa_cons (pv 2) pa_nil))) pa_nil)) pa_nil))) pa_nil)))
 (Evl.pss_cut (ps_set (i := 6) scRef.nd rfl (.inl rfl) (pe_call GP hr (by rfl) TP.gPick TP.FPick.kp TP.bPick .nil pass0 (pa_cons (pv 0) (pa_cons (pv 5) pa_nil))))
 (Evl.pss_cut (ps_set (i := 9) scRef.nd rfl (.inr rfl) (pe_ifExp (pt_val (pe_ix ix_list (pv 4) pe_int (fun _ _ => rfl))) (pv 6) (pv 1)))
 (Evl.pss_cut (ps_set (i := 5) scRef.nd rfl (.inl rfl) (pe_lst (pa_cons pe_non (pa_cons (pv 3) (pa_cons (pe_op op_add_str (pv 2) (pv 3)) (pa_cons (pe_tup (pa_cons (pv 2) pa_nil)) (pa_cons pe_int (pa_cons (pe_op op_add_str (pe_op op_add_str (pe_ix ix_str (pv 2) pe_int (fun _ _ => rfl)) (pv 3)) (pe_ix ix_str (pv 2) pe_int (fun _ _ => rfl))) pa_nil))))))))
 (Evl.pss_cut (ps_set (i := 6) scRef.nd rfl (.inl rfl) (pe_call GP hr (by rfl) TP.gPick TP.FPick.kp TP.bPick .nil pass0 (pa_cons (pv 0) (pa_cons (pe_op op_cat (pv 5) (pe_lst (pa_cons (pe_op op_mulT (pe_ix ix_str (pv 2) pe_int (fun _ _ => rfl)) pe_int) pa_nil))) pa_nil))))
 (Evl.pss_cut (ps_set (i := 11) scRef.nd rfl (.inr rfl) (pe_ifExp (pt_val (pe_ix ix_list (pv 4) pe_int (fun _ _ => rfl))) (pv 6) (pv 2)))
 (Evl.pss_cut (ps_set (i := 5) scRef.nd rfl (.inl rfl) (pe_lst (pa_cons pe_str (pa_cons (pv 3) (pa_cons pe_int (pa_cons pe_bl (pa_cons (pe_tup (pa_cons (pv 2) pa_nil)) (pa_cons (pe_op op_add_str (pe_op op_add_str (pe_ix ix_str (pv 2) pe_int (fun _ _ => rfl)) (pv 3)) (pe_ix ix_str (pv 2) pe_int (fun _ _ => rfl))) pa_nil))))))))
 (Evl.pss_cut (ps_set (i := 6) scRef.nd rfl (.inl rfl) (pe_call GP hr (by rfl) TP.gPick TP.FPick.kp TP.bPick .nil pass0 (pa_cons (pv 0) (pa_cons (pe_op op_cat (pv 5) (pe_lst (pa_cons (pe_op op_mulT (pe_ix ix_str (pv 2) pe_int (fun _ _ => rfl)) pe_int) pa_nil))) pa_nil))))
 (Evl.pss_cut (ps_set (i := 8) scRef.nd rfl (.inr rfl) (pe_ifExp (pt_val (pe_ix ix_list (pv 4) pe_int (fun _ _ => rfl))) (pv 6) (pv 2)))
 (Evl.pss_cut (ps_set (i := 7) scRef.nd rfl (.inl rfl) (pe_ifExp (pt_val (pe_ix ix_list (pv 4) pe_int (fun _ _ => rfl))) pe_str (pe_ifExp (PW.pt (pw_or (pt_val (pe_ix ix_list (pv 4) pe_int (fun _ _ => rfl))) (pw_or1 (pt_val (pe_ix ix_list (pv 4) pe_int (fun _ _ => rfl)))))) pe_str pe_str)))
 (Evl.pss_cut (ps_if (pt_cmpR op_ne (LamX.pe_lamcall (T := [(PT, qRef)]) (a := "act") (by rfl) TW.gWord TW.FWord.kp lkW cgW TW.bWord scWord (by rfl) (.inl rfl) (word_gives TE) TB rfl (List.mem_singleton.mpr rfl) (fun p hp _ => congrArg Prod.snd (List.mem_singleton.mp hp)) hr (show LamX.LamS (defScope sRef) _ from LamX.lamS_by (by decide +kernel)) rfl (fun _ _ _ _ _ => rfl) (fun A outer s H E f c1 hr2 => (pe_callN GI hr2 (by rfl) TI.gIsOf TI.FIsOf.kp (isof_kbinds TI.FIsOf) (passes_call (takes_of rfl rfl rfl rfl) (fun _ _ _ _ h => h)) (pa_cons (pv 9) (pa_cons (pv 11) pa_nil)) (pk_cons (pv 8) pk_nil)))) (pv 7) (nomark _)) (pss_one (ps_ret pe_bl)) pss_nil)
 (Evl.pss_cut (ps_if (pt_cmpR op_ne (LamX.pe_lamcall (T := [(PT, qRef)]) (a := "act") (by rfl) TW.gWord TW.FWord.kp lkW cgW TW.bWord scWord (by rfl) (.inl rfl) (word_gives TE) TB rfl (List.mem_singleton.mpr rfl) (fun p hp _ => congrArg Prod.snd (List.mem_singleton.mp hp)) hr (show LamX.LamS (defScope sRef) _ from LamX.lamS_by (by decide +kernel)) rfl (fun _ _ _ _ _ => rfl) (fun A outer s H E f c1 hr2 => (pe_call GI hr2 (by rfl) TI.gIsOf TI.FIsOf.kp bIs vIs (passes_call (takes_of rfl rfl rfl rfl) (fun _ _ _ _ h => h)) (pa_cons (pv 9) (pa_cons (pv 11) pa_nil))))) (pe_ifExp (pt_val (pe_ix ix_list (pv 4) pe_int (fun _ _ => rfl))) pe_str (pe_ifExp (pt_val (pe_ix ix_list (pv 4) pe_int (fun _ _ => rfl))) pe_str pe_str)) (nomark _)) (pss_one (ps_ret pe_bl)) pss_nil)
 (Evl.pss_cut (ps_set (i := 5) scRef.nd rfl (.inl rfl) (pe_lst (pa_cons pe_non (pa_cons pe_str (pa_cons pe_str (pa_cons pe_str (pa_cons pe_str (pa_cons pe_str (pa_cons (pe_tup (pa_cons pe_str pa_nil)) (pa_cons pe_int (pa_cons pe_str (pa_cons pe_str (pa_cons pe_str (pa_cons pe_str (pa_cons pe_str (pa_cons pe_str (pa_cons pe_str (pa_cons pe_str pa_nil))))))))))))))))))
 (Evl.pss_cut (ps_set (i := 10) scRef.nd rfl (.inr rfl) (pe_call GP hr (by rfl) TP.gPick TP.FPick.kp TP.bPick .nil pass0 (pa_cons (pv 0) (pa_cons (pv 5) pa_nil))))
 (pss_one (ps_ret (pe_cmpR op_eq (LamX.pe_lamcall (T := [(PT, qRef)]) (a := "act") (by rfl) TW.gWord TW.FWord.kp lkW cgW TW.bWord scWord (by rfl) (.inl rfl) (word_gives TE) TB rfl (List.mem_singleton.mpr rfl) (fun p hp _ => congrArg Prod.snd (List.mem_singleton.mp hp)) hr (show LamX.LamS (defScope sRef) _ from LamX.lamS_by (by decide +kernel)) rfl (fun _ _ _ _ _ => rfl) (fun A outer s H E f c1 hr2 => (pe_call GF hr2 (by rfl) TF.gFreeRule TF.FFreeRule.kp TF.bFreeRule .nil (passes_call (takes_of rfl rfl rfl rfl) (fun _ _ _ _ h => h)) (pa_cons (pv 10) pa_nil)))) pe_str (nomark _)))))))))))))))))))))), ?_⟩
    obtain ⟨hl, r1', r4', _⟩ := rul_of (L := z.cps.toList) zr
    have z3 := z_len hl
    have zp := letters_pos hl
    have zs : z.length ≤ sizeLine := Nat.le_trans (show z.length ≤ 3 from z3) (by decide)
    have h9 : ∀ {m : Nat}, m ≤ 9 → m ≤ sizeLine := fun h => Nat.le_trans h (by decide)
    have g0 : Go PT p c n H H := ⟨ButN.refl p H, hP, hT⟩
    refine ⟨fun σ H' => σ = [some (.ref p), some x, some (.str z), none, none, none, none, none, none, none, none, none, none, none] ∧ Go PT p c (n + 0) H H', ?_, ?_⟩
    · obtain ⟨a, u, v, pd, td, ex, e, hS, hp, ht⟩ := hx.rp.two rfl
      cases e
      obtain rfl := hp.isStr'
      exact ⟨_, rfl, a, _, 0, _, ex, rfl, hS, atI_nat (j := 0) rfl, rfl, g0⟩
    rintro σ H1 ⟨rfl, g1⟩
    refine ⟨fun σ H' => ∃ o : Nat, σ = [some (.ref p), some x, some (.str z), some (.str ⟨#[o]⟩), none, none, none, none, none, none, none, none, none, none] ∧ Go PT p c (n + 1) H H' ∧ ¬ o ∈ z.cps.toList, ?_, ?_⟩
    · refine ⟨_, rfl, abc, rfl, fun D nD => ?_⟩
      have hP1 := g1.pen
      refine lc_it walk_str (fun j H' => Same H1 H' ∧ H' D = some (.lst (((abc.cps.toList.take j).filter fun c => !decide (c ∈ z.cps.toList)).map fun c => V.str ⟨#[c]⟩))) ⟨same_upd nD, upd_same⟩ (fun _ _ _ _ => trivial) ?_ ?_
      · rintro j u H' H3 hj ⟨sm, hD⟩ ⟨rfl, cc, hcc, rfl⟩
        have hc2 : abc.cps.toList[j]? = some cc := by rw [Array.getElem?_toList]; exact hcc
        refine ⟨rfl, ?_⟩
        refine ⟨_, rfl, _, rfl, cc, z, rfl, rfl, _, rfl, ite2 (fun u => ?_) (fun u => ?_)⟩
        · refine ⟨_, rfl, _, hD, ?_, same_new sm nD, ?_⟩
          · rw [List.length_map]
            have h1 := List.length_filter_le (fun c => !decide (c ∈ z.cps.toList)) (abc.cps.toList.take j)
            have h2 := List.length_take_le' j abc.cps.toList
            have h3 : abc.cps.toList.length = 26 := by decide +kernel
            exact Nat.lt_of_le_of_lt (show _ ≤ 26 by omega) (by decide)
          · rw [upd_same, List.take_succ, hc2, List.filter_append, List.map_append]
            show _ = some (HO.lst (_ ++ (List.filter _ [cc]).map _))
            rw [List.filter_cons, u]
            rfl
        · refine ⟨sm, ?_⟩
          rw [hD, List.take_succ, hc2, List.filter_append]
          show _ = some (HO.lst ((_ ++ List.filter _ [cc]).map _))
          rw [List.filter_cons, eq_false_of_ne_true u]
          simp
      · rintro H' ⟨sm, hD⟩
        rw [show abc.cps.size = abc.cps.toList.length from Array.length_toList.symm, List.take_length] at hD
        have gs := g1.same sm
        have hle := List.length_filter_le (fun c => !decide (c ∈ z.cps.toList)) abc.cps.toList
        have h26 : abc.cps.toList.length = 26 := by decide +kernel
        obtain ⟨c0, hc0, hn0⟩ := other_of hl
        have hpos := List.length_pos_of_mem (List.mem_filter (p := fun c => !decide (c ∈ z.cps.toList)) |>.mpr ⟨hc0, show (!decide (c0 ∈ z.cps.toList)) = true by rw [decide_eq_false hn0]; rfl⟩)
        refine ⟨p, c, D, _, n, rfl, gs.pc, by omega, SqL.of hD, new_ne hP1 nD, (by rw [List.length_map]; exact hpos), (by rw [List.length_map]; omega), fun H2 m v b2 hP2 hm => ?_⟩
        rw [List.getElem?_map] at hm
        cases e : (abc.cps.toList.filter fun c => !decide (c ∈ z.cps.toList))[m]? with
        | none =>
          rw [e] at hm
          cases hm
        | some c1 =>
          rw [e] at hm
          obtain rfl := Option.some.inj hm
          obtain ⟨q1, q2⟩ := List.mem_filter.mp (List.mem_of_getElem? e)
          refine ⟨c1, rfl, gs.but b2 hP2, fun h => ?_⟩
          rw [decide_eq_true h] at q2
          cases q2
    rintro σ H1 ⟨o, rfl, g1, no⟩
    refine ⟨fun σ H' => ∃ (W : Addr) (w0 w1 w2 : Bool), σ = [some (.ref p), some x, some (.str z), some (.str ⟨#[o]⟩), some (.ref W), none, none, none, none, none, none, none, none, none] ∧ Go PT p c (n + 4) H H' ∧ H' W = some (.lst [.bl w0, .bl w1, .bl w2]) ∧ W ≠ p, ?_, ?_⟩
    · refine ⟨_, rfl, by decide, by decide, fun D nD => ?_⟩
      have nDp := new_ne g1.pen nD
      obtain ⟨_, _, _, hp1, hc1, _⟩ := g1.pc.ex
      have nDc : D ≠ c := (ne_of_none hc1 nD).symm
      refine lc_range (lo := 0) (n := 3) (fun j H' => ∃ bs : List Bool, But p H1 H' ∧ PenC H' p c (n + 1 + j) ∧ H' D = some (.lst (bs.map V.bl)) ∧ bs.length = j) ⟨[], But.of (same_upd nD), g1.pc.same (same_upd nD), upd_same, rfl⟩ ?_ ?_
      · rintro j H' hj ⟨bs, bj, hPj, hD, lj⟩
        refine ⟨rfl, ?_⟩
        refine ⟨_, rfl, p, c, 2, _, rfl, hPj, by omega, by decide, by decide, fun H2 k2 b2 hP2 k20 k21 => ⟨rfl, ?_⟩⟩
        refine ⟨_, b2 _ _ nDp hD, ?_, bs ++ [decide (V.int k2 = V.int 0)], ?_, ?_, ?_, ?_⟩
        · rw [List.length_map, lj]
          exact Nat.lt_of_lt_of_le hj (by decide)
        · intro b o nb e
          rw [upd_ne (ne_of_none e nD)]
          exact b2 _ _ nb (bj _ _ nb e)
        · have hk : n + 1 + (j + 1) = n + 1 + j + 1 := by omega
          rw [hk]
          exact hP2.keep (fun o e => by rw [upd_ne nDp.symm]; exact e) (fun o e => by rw [upd_ne nDc.symm]; exact e)
        · rw [upd_same, List.map_append]
          rfl
        · rw [List.length_append, lj]
          rfl
      · rintro H' ⟨bs, bj, hPj, hD, lj⟩
        match bs, lj, hD with
        | [w0, w1, w2], _, hD => exact ⟨D, w0, w1, w2, rfl, g1.but bj hPj, hD, nDp⟩
    rintro σ H1 ⟨W, w0, w1, w2, rfl, g1, hW, nW⟩
    refine ⟨_, rfl, _, rfl, h9 (by simp), fun a1 h1 => ⟨_, rfl, h9 (by simp), fun a2 h2 => ⟨h9 (by simp), fun a3 h3 => ⟨_, rfl, h9 (by simp), fun a4 h4 => ⟨h9 (by simp), fun a5 h5 => ⟨h9 (by simp), fun S hS => ?_⟩⟩⟩⟩⟩⟩
    have x1 := same_upd (o := HO.tup [V.str z]) h1
    have x2 := same_upd (o := HO.tup []) h2
    have x3 := same_upd (o := HO.lst [V.str z, .ref a2]) h3
    have x4 := same_upd (o := HO.tup []) h4
    have x5 := same_upd (o := HO.tup [V.str z, .ref a4]) h5
    have xS := same_upd (o := HO.lst [.non, .str z, .ref a1, .ref a3, .ref a5]) hS
    have s1 := g1.same x1
    have s2 := s1.same x2
    have s3 := s2.same x3
    have s4 := s3.same x4
    have s5 := s4.same x5
    have y1 := (x2.trans x3).trans (x4.trans x5) _ _ upd_same
    have y2 := x3.trans (x4.trans x5) _ _ upd_same
    have y3 := (x4.trans x5) _ _ upd_same
    have y4 := x5 _ _ upd_same
    have y5 : (upd (upd (upd (upd (upd H1 a1 (.tup [.str z])) a2 (.tup [])) a3 (.lst [.str z, .ref a2])) a4 (.tup [])) a5 (.tup [.str z, .ref a4])) a5 = some (.tup [.str z, .ref a4]) := upd_same
    have n1' := new_ne g1.pen h1
    have n2' := new_ne s1.pen h2
    have n3' := new_ne s2.pen h3
    have n4' := new_ne s3.pen h4
    have n5' := new_ne s4.pen h5
    have nS := new_ne s5.pen hS
    have hW5 := (((x1.trans x2).trans x3).trans x4).trans x5 _ _ hW
    have nWS := ne_of_none hW5 hS
    generalize (upd (upd (upd (upd (upd H1 a1 (.tup [.str z])) a2 (.tup [])) a3 (.lst [.str z, .ref a2])) a4 (.tup [])) a5 (.tup [.str z, .ref a4])) = H5 at s5 y1 y2 y3 y4 y5 hS hW5 xS ⊢
    clear s1 s2 s3 s4 x1 x2 x3 x4 x5 h1 h2 h3 h4 h5
    refine ⟨fun σ H' => ∃ (S : Addr) (xs : List V), σ = [some (.ref p), some x, some (.str z), some (.str ⟨#[o]⟩), some (.ref W), some (.ref S), none, none, none, none, none, none, none, none] ∧ Go PT p c (n + 4) H H' ∧ H' W = some (.lst [.bl w0, .bl w1, .bl w2]) ∧ S ≠ p ∧ H' S = some (.lst xs) ∧ xs.length = 6 ∧ Bads p K H' (fun d => rulD d = false) xs, ?_, ?_⟩
    · refine ⟨_, rfl, .inl ⟨rfl, _, SqL.of upd_same⟩, _, rfl, h9 (by simp), fun a6 h6 => ?_⟩
      have x6 := same_upd (o := HO.tup [V.non]) h6
      have n6' := new_ne (s5.same xS).pen h6
      have fin : ∀ (Hx : Hp) (ar : Addr), Same (upd (upd H5 S (.lst [.non, .str z, .ref a1, .ref a3, .ref a5])) a6 (.tup [.non])) Hx → Hx ar = some (.tup (List.replicate z.length .non)) → ar ≠ p → ∀ (a8 a9 : Addr), Hx a8 = none → (upd Hx a8 (.tup [.ref ar])) a9 = none →
          Go PT p c (n + 4) H (upd (upd (upd Hx a8 (.tup [.ref ar])) a9 (.tup [.str z, .ref a8])) S (.lst ([.non, .str z, .ref a1, .ref a3, .ref a5] ++ [.ref a9]))) ∧ (upd (upd (upd Hx a8 (.tup [.ref ar])) a9 (.tup [.str z, .ref a8])) S (.lst ([.non, .str z, .ref a1, .ref a3, .ref a5] ++ [.ref a9]))) W = some (.lst [.bl w0, .bl w1, .bl w2]) ∧
          Bads p K (upd (upd (upd Hx a8 (.tup [.ref ar])) a9 (.tup [.str z, .ref a8])) S (.lst ([.non, .str z, .ref a1, .ref a3, .ref a5] ++ [.ref a9]))) (fun d => rulD d = false) ([.non, .str z, .ref a1, .ref a3, .ref a5] ++ [.ref a9]) := by
        intro Hx ar sx hr' nr a8 a9 h8 h9'
        have x8 := same_upd (o := HO.tup [V.ref ar]) h8
        have x9' := same_upd (o := HO.tup [V.str z, .ref a8]) h9'
        have toX : Same H5 Hx := (xS.trans x6).trans sx
        have hSx : ∃ o, (upd (upd Hx a8 (.tup [.ref ar])) a9 (.tup [.str z, .ref a8])) S = some o := ⟨_, x9' _ _ (x8 _ _ (sx _ _ (x6 _ _ upd_same)))⟩
        have sm : Same H5 (upd (upd (upd Hx a8 (.tup [.ref ar])) a9 (.tup [.str z, .ref a8])) S (.lst ([.non, .str z, .ref a1, .ref a3, .ref a5] ++ [.ref a9]))) := fun b o e => by
          rw [upd_ne (ne_of_none e hS)]
          exact x9' _ _ (x8 _ _ (toX _ _ e))
        have tup_stays : ∀ (t : Addr) (ys : List V), (upd (upd Hx a8 (.tup [.ref ar])) a9 (.tup [.str z, .ref a8])) t = some (.tup ys) → (upd (upd (upd Hx a8 (.tup [.ref ar])) a9 (.tup [.str z, .ref a8])) S (.lst ([.non, .str z, .ref a1, .ref a3, .ref a5] ++ [.ref a9]))) t = some (.tup ys) := fun t ys e => by
          rw [upd_ne (ne_of e (x9' _ _ (x8 _ _ (sx _ _ (x6 _ _ upd_same)))) (by intro q; cases q))]
          exact e
        have gx := s5.same toX
        have n8 := new_ne gx.pen h8
        have n9 := new_ne (gx.same x8).pen h9'
        refine ⟨s5.same sm, sm _ _ hW5, fun v hv => ?_⟩
        simp only [List.mem_append, List.mem_cons, List.not_mem_nil, or_false, List.mem_singleton] at hv
        rcases hv with (rfl | rfl | rfl | rfl | rfl) | rfl
        · exact ⟨.none, rs_non, rfl⟩
        · exact ⟨.str z, rs_str z zs, rfl⟩
        · exact ⟨.tuple [.str z], rs_tup n1' (sm _ _ y1) (.cons (rs_str z zs) rsNil), rfl⟩
        · exact ⟨.list [.str z, .tuple []], rs_lst n3' (sm _ _ y3) (.cons (rs_str z zs) (.cons (rs_tup n2' (sm _ _ y2) rsNil) rsNil)), rfl⟩
        · exact ⟨.tuple [.str z, .tuple []], rs_tup n5' (sm _ _ y5) (.cons (rs_str z zs) (.cons (rs_tup n4' (sm _ _ y4) rsNil) rsNil)), by simp [rulD, tabD, tupD]⟩
        · exact ⟨.tuple [.str z, .tuple [.tuple (List.replicate z.length .none)]], rs_tup n9 (tup_stays _ _ upd_same) (.cons (rs_str z zs) (.cons (rs_tup n8 (tup_stays _ _ (x9' _ _ upd_same)) (.cons (rs_tup nr (tup_stays _ _ (x9' _ _ (x8 _ _ hr'))) (rsAll_rep _)) rsNil)) rsNil)), by simp [rulD, wayD, no_some]⟩
      refine ⟨_, rfl, z, rfl, zs, a6, _, _, rfl, rfl, SqT.of upd_same, (by simp), by omega, by have : z.length ≤ 3 := z3; omega, by decide, fun e1 => ?_, fun a7 h7 => ?_⟩
      · refine ⟨h9 (by simp), fun a8 h8 => ⟨h9 (by simp), fun a9 h9' => ⟨S, _, _, rfl, rfl, same_upd h9' _ _ (same_upd h8 _ _ (x6 _ _ upd_same)), Nat.lt_of_lt_of_le (show 5 < 9 by decide) (h9 (Nat.le_refl 9)), ?_⟩⟩⟩
        have e2 : z.length = 1 := by omega
        obtain ⟨f1, f2, f3⟩ := fin _ a6 (Same.refl _) (by rw [upd_same, e2]; rfl) n6' a8 a9 h8 h9'
        exact ⟨S, _, rfl, f1, f2, nS, upd_same, rfl, f3⟩
      · refine ⟨h9 (by simp), fun a8 h8 => ⟨h9 (by simp), fun a9 h9' => ⟨S, _, _, rfl, rfl, same_upd h9' _ _ (same_upd h8 _ _ (same_upd h7 _ _ (x6 _ _ upd_same))), Nat.lt_of_lt_of_le (show 5 < 9 by decide) (h9 (Nat.le_refl 9)), ?_⟩⟩⟩
        obtain ⟨f1, f2, f3⟩ := fin _ a7 (same_upd h7) (by rw [upd_same, Int.toNat_natCast]; simp) (new_ne ((s5.same xS).same x6).pen h7) a8 a9 h8 h9'
        exact ⟨S, _, rfl, f1, f2, nS, upd_same, rfl, f3⟩
    clear y1 y2 y3 y4 y5 hW5 xS s5 hS
    rintro σ H1 ⟨S, xs, rfl, g1, hW, nS, hS, l6, hB⟩
    refine ⟨fun σ H' => ∃ (bad : V) (d : PyData), σ = [some (.ref p), some x, some (.str z), some (.str ⟨#[o]⟩), some (.ref W), some (.ref S), some bad, none, none, none, none, none, none, none] ∧ Go PT p c (n + 5) H H' ∧ H' W = some (.lst [.bl w0, .bl w1, .bl w2]) ∧ Rs p K H' bad d ∧ rulD d = false, ?_, ?_⟩
    · refine ⟨_, rfl, _, rfl, p, c, S, xs, _, rfl, g1.pc, by omega, SqL.of hS, nS, by omega, by omega, fun H2 m v b2 hP2 hm => ?_⟩
      obtain ⟨d, hd, rd⟩ := hB v (List.mem_of_getElem? hm)
      exact ⟨v, d, rfl, g1.but b2 hP2, b2 _ _ nW hW, hd.go (butN_but b2), rd⟩
    clear hB hS l6 nS
    rintro σ H1 ⟨bad, d, rfl, g1, hW, hb, rd⟩
    refine ⟨fun σ H' => ∃ (one : V) (d1 : PyData), σ = [some (.ref p), some x, some (.str z), some (.str ⟨#[o]⟩), some (.ref W), some (.ref S), some bad, none, none, some one, none, none, none, none] ∧ Go PT p c (n + 5) H H' ∧ H' W = some (.lst [.bl w0, .bl w1, .bl w2]) ∧ Rs p K H' one d1 ∧ (w0 = true → rulD d1 = false) ∧ (w0 = false → d1 = .tuple [.str z, .tuple ss]), ?_, ?_⟩
    · refine ⟨_, rfl, W, _, 0, .bl w0, rfl, rfl, SqL.of hW, atI_nat (j := 0) rfl, w0, rfl, ite2 (fun e => ?_) (fun e => ?_)⟩
      · exact ⟨_, rfl, bad, d, rfl, g1, hW, hb, fun _ => rd, fun e' => absurd (e.symm.trans e') (by decide)⟩
      · exact ⟨_, rfl, x, _, rfl, g1, hW, hx.go g1.1, fun e' => absurd e' e, fun _ => rfl⟩
    clear hb rd
    rintro σ H1 ⟨one, d1, rfl, g1, hW, h1, h1a, h1b⟩
    obtain ⟨zc, hz0⟩ : ∃ zc, z.cps.toList[0]? = some zc := ⟨_, List.getElem?_eq_getElem (by rw [str_len]; exact zp)⟩
    have at0 : atI z.cps.toList 0 = some zc := atI_nat (j := 0) hz0
    have lz : z.length ≤ 3 := z3
    have i1 : o ∈ (⟨#[o]⟩ : Str).cps.toList := by simp
    have i2 : o ∈ (z ++ (⟨#[o]⟩ : Str)).cps.toList := by rw [str_app]; exact List.mem_append.mpr (.inr i1)
    have i3 : o ∈ ((⟨#[zc]⟩ : Str) ++ (⟨#[o]⟩ : Str) ++ (⟨#[zc]⟩ : Str)).cps.toList := by rw [str_app, str_app]; exact List.mem_append.mpr (.inl (List.mem_append.mpr (.inr i1)))
    have l2 : (z ++ (⟨#[o]⟩ : Str)).length ≤ sizeLine := h9 (by rw [app_len, one_len]; omega)
    have l3 : ((⟨#[zc]⟩ : Str) ++ (⟨#[o]⟩ : Str) ++ (⟨#[zc]⟩ : Str)).length ≤ sizeLine := h9 (by simp [app_len, one_len])
    have lo : (⟨#[o]⟩ : Str).length ≤ sizeLine := h9 (by rw [one_len]; decide)
    have lm : (Txt.mul (⟨#[zc]⟩ : Str) 1501).length = 1501 := by rw [mul_len (by decide), one_len]; rfl
    have lm2 : (Txt.mul (⟨#[zc]⟩ : Str) 1501).length ≤ sizeLine := by rw [lm]; decide
    refine ⟨fun σ H' => ∃ (S : Addr) (xs : List V), σ = [some (.ref p), some x, some (.str z), some (.str ⟨#[o]⟩), some (.ref W), some (.ref S), some bad, none, none, some one, none, none, none, none] ∧ Go PT p c (n + 5) H H' ∧ H' W = some (.lst [.bl w0, .bl w1, .bl w2]) ∧ Rs p K H' one d1 ∧ (w0 = true → rulD d1 = false) ∧ (w0 = false → d1 = .tuple [.str z, .tuple ss]) ∧ S ≠ p ∧ H' S = some (.lst xs) ∧ xs.length = 6 ∧ Bads p K H' (fun d => txtD z.cps.toList d = false) xs, ?_, ?_⟩
    · refine ⟨_, rfl, _, rfl, _, rfl, _, _, rfl, rfl, h9 (by rw [one_len]; have : z.length ≤ 3 := z3; omega), _, rfl, h9 (by simp), fun a1 h1' => ⟨_, rfl, z, 0, zc, rfl, rfl, zs, at0, _, rfl, _, _, rfl, rfl, h9 (by simp [one_len]), _, rfl, z, 0, zc, rfl, rfl, zs, at0, _, _, rfl, rfl, h9 (by simp [app_len, one_len]), h9 (by simp), fun S hS => ?_⟩⟩
      have x1 := same_upd (o := HO.tup [V.str z]) h1'
      have xS := same_upd (o := HO.lst [.non, .str ⟨#[o]⟩, .str (z ++ ⟨#[o]⟩), .ref a1, .int 0, .str (⟨#[zc]⟩ ++ ⟨#[o]⟩ ++ ⟨#[zc]⟩)]) hS
      have n1' := new_ne g1.pen h1'
      refine ⟨S, _, rfl, (g1.same x1).same xS, xS _ _ (x1 _ _ hW), h1.go (butN_same (x1.trans xS)), h1a, h1b, new_ne (g1.same x1).pen hS, upd_same, rfl, fun v hv => ?_⟩
      simp only [List.mem_cons, List.not_mem_nil, or_false] at hv
      rcases hv with rfl | rfl | rfl | rfl | rfl | rfl
      · exact ⟨.none, rs_non, rfl⟩
      · exact ⟨.str _, rs_str _ lo, txt_bad i1 no⟩
      · exact ⟨.str _, rs_str _ l2, txt_bad i2 no⟩
      · exact ⟨.tuple [.str z], rs_tup n1' (xS _ _ upd_same) (.cons (rs_str z zs) rsNil), rfl⟩
      · exact ⟨.int 0, rs_int 0, rfl⟩
      · exact ⟨.str _, rs_str _ l3, txt_bad i3 no⟩
    rintro σ H1 ⟨S, xs, rfl, g1, hW, h1, h1a, h1b, nS, hS, l6, hB⟩
    refine ⟨fun σ H' => ∃ (bad : V) (d : PyData), σ = [some (.ref p), some x, some (.str z), some (.str ⟨#[o]⟩), some (.ref W), some (.ref S), some bad, none, none, some one, none, none, none, none] ∧ Go PT p c (n + 6) H H' ∧ H' W = some (.lst [.bl w0, .bl w1, .bl w2]) ∧ Rs p K H' one d1 ∧ (w0 = true → rulD d1 = false) ∧ (w0 = false → d1 = .tuple [.str z, .tuple ss]) ∧ Rs p K H' bad d ∧ (fun d => txtD z.cps.toList d = false) d, ?_, ?_⟩
    · refine ⟨_, rfl, _, rfl, _, rfl, z, 0, zc, rfl, rfl, zs, at0, ⟨#[zc]⟩, 1501, rfl, rfl, (by rw [one_len]; decide), by decide, by decide, h9 (by simp), fun L hL => ⟨S, L, _, _, rfl, rfl, same_upd hL _ _ hS, upd_same, h9 (by rw [l6]; simp), fun r hr' => ?_⟩⟩
      have xL := same_upd (o := HO.lst [V.str (Txt.mul ⟨#[zc]⟩ 1501)]) hL
      have xr := same_upd (o := HO.lst (xs ++ [V.str (Txt.mul ⟨#[zc]⟩ 1501)])) hr'
      have gr := (g1.same xL).same xr
      have bs := butN_same (p := p) (xL.trans xr)
      refine ⟨p, c, r, _, _, rfl, gr.pc, by omega, SqL.of upd_same, new_ne (g1.same xL).pen hr', (by rw [List.length_append, l6]; simp), (by rw [List.length_append, l6]; simp), fun H2 m v b2 hP2 hm => ?_⟩
      have bn := bs.trans (butN_but b2)
      have fin : ∃ d, Rs p K H2 v d ∧ (fun d => txtD z.cps.toList d = false) d := by
        rcases List.mem_append.mp (List.mem_of_getElem? hm) with h | h
        · obtain ⟨d, hd, rd⟩ := hB v h
          exact ⟨d, hd.go bn, rd⟩
        · rw [List.mem_singleton.mp h]
          exact ⟨.str _, rs_str _ lm2, txt_long (by rw [lm]; decide)⟩
      obtain ⟨d, hd, rd⟩ := fin
      exact ⟨v, d, rfl, gr.but b2 hP2, b2 _ _ nW (xr _ _ (xL _ _ hW)), h1.go bn, h1a, h1b, hd, rd⟩
    clear hB hS l6 nS
    rintro σ H1 ⟨bad, d, rfl, g1, hW, h1, h1a, h1b, hb, rd⟩
    refine ⟨fun σ H' => ∃ (word : V) (d2 : PyData), σ = [some (.ref p), some x, some (.str z), some (.str ⟨#[o]⟩), some (.ref W), some (.ref S), some bad, none, none, some one, none, some word, none, none] ∧ Go PT p c (n + 6) H H' ∧ H' W = some (.lst [.bl w0, .bl w1, .bl w2]) ∧ Rs p K H' one d1 ∧ (w0 = true → rulD d1 = false) ∧ (w0 = false → d1 = .tuple [.str z, .tuple ss]) ∧ Rs p K H' word d2 ∧ (w1 = true → txtD z.cps.toList d2 = false) ∧ (w1 = false → d2 = .str z), ?_, ?_⟩
    · refine ⟨_, rfl, W, _, 1, .bl w1, rfl, rfl, SqL.of hW, atI_nat (j := 1) rfl, w1, rfl, ite2 (fun e => ?_) (fun e => ?_)⟩
      · exact ⟨_, rfl, bad, d, rfl, g1, hW, h1, h1a, h1b, hb, fun _ => rd, fun e' => absurd (e.symm.trans e') (by decide)⟩
      · exact ⟨_, rfl, _, .str z, rfl, g1, hW, h1, h1a, h1b, rs_str z zs, fun e' => absurd e' e, fun _ => rfl⟩
    clear hb rd
    rintro σ H1 ⟨word, d2, rfl, g1, hW, h1, h1a, h1b, h2, h2a, h2b⟩
    refine ⟨fun σ H' => ∃ (S : Addr) (xs : List V), σ = [some (.ref p), some x, some (.str z), some (.str ⟨#[o]⟩), some (.ref W), some (.ref S), some bad, none, none, some one, none, some word, none, none] ∧ Go PT p c (n + 6) H H' ∧ H' W = some (.lst [.bl w0, .bl w1, .bl w2]) ∧ Rs p K H' one d1 ∧ (w0 = true → rulD d1 = false) ∧ (w0 = false → d1 = .tuple [.str z, .tuple ss]) ∧ Rs p K H' word d2 ∧ (w1 = true → txtD z.cps.toList d2 = false) ∧ (w1 = false → d2 = .str z) ∧ S ≠ p ∧ H' S = some (.lst xs) ∧ xs.length = 6 ∧ Bads p K H' (fun d => d ≠ .none ∧ ringD z.cps.toList d = false) xs, ?_, ?_⟩
    · refine ⟨_, rfl, _, rfl, h9 (by simp), fun a1 h1' => ⟨_, rfl, z, 0, zc, rfl, rfl, zs, at0, _, rfl, _, _, rfl, rfl, h9 (by simp [one_len]), _, rfl, z, 0, zc, rfl, rfl, zs, at0, _, _, rfl, rfl, h9 (by simp [app_len, one_len]), h9 (by simp), fun S hS => ?_⟩⟩
      have x1 := same_upd (o := HO.tup [V.str z]) h1'
      have xS := same_upd (o := HO.lst [.str "", .str ⟨#[o]⟩, .int 7, .bl true, .ref a1, .str (⟨#[zc]⟩ ++ ⟨#[o]⟩ ++ ⟨#[zc]⟩)]) hS
      have n1' := new_ne g1.pen h1'
      have bn := butN_same (p := p) (x1.trans xS)
      refine ⟨S, _, rfl, (g1.same x1).same xS, xS _ _ (x1 _ _ hW), h1.go bn, h1a, h1b, h2.go bn, h2a, h2b, new_ne (g1.same x1).pen hS, upd_same, rfl, fun v hv => ?_⟩
      simp only [List.mem_cons, List.not_mem_nil, or_false] at hv
      rcases hv with rfl | rfl | rfl | rfl | rfl | rfl
      · exact ⟨.str _, rs_str _ (by decide), (fun e => nomatch e), (by rw [ringD, show lenD (.str (("" : Str))) = 0 from rfl]; simp)⟩
      · exact ⟨.str _, rs_str _ lo, (fun e => nomatch e), ring_bad (txt_bad i1 no)⟩
      · exact ⟨.int 7, rs_int 7, (fun e => nomatch e), rfl⟩
      · exact ⟨.bool true, rs_bl true, (fun e => nomatch e), rfl⟩
      · exact ⟨.tuple [.str z], rs_tup n1' (xS _ _ upd_same) (.cons (rs_str z zs) rsNil), (fun e => nomatch e), rfl⟩
      · exact ⟨.str _, rs_str _ l3, (fun e => nomatch e), ring_bad (txt_bad i3 no)⟩
    rintro σ H1 ⟨S, xs, rfl, g1, hW, h1, h1a, h1b, h2, h2a, h2b, nS, hS, l6, hB⟩
    refine ⟨fun σ H' => ∃ (bad : V) (d : PyData), σ = [some (.ref p), some x, some (.str z), some (.str ⟨#[o]⟩), some (.ref W), some (.ref S), some bad, none, none, some one, none, some word, none, none] ∧ Go PT p c (n + 7) H H' ∧ H' W = some (.lst [.bl w0, .bl w1, .bl w2]) ∧ Rs p K H' one d1 ∧ (w0 = true → rulD d1 = false) ∧ (w0 = false → d1 = .tuple [.str z, .tuple ss]) ∧ Rs p K H' word d2 ∧ (w1 = true → txtD z.cps.toList d2 = false) ∧ (w1 = false → d2 = .str z) ∧ Rs p K H' bad d ∧ (fun d => d ≠ .none ∧ ringD z.cps.toList d = false) d, ?_, ?_⟩
    · refine ⟨_, rfl, _, rfl, _, rfl, z, 0, zc, rfl, rfl, zs, at0, ⟨#[zc]⟩, 1501, rfl, rfl, (by rw [one_len]; decide), by decide, by decide, h9 (by simp), fun L hL => ⟨S, L, _, _, rfl, rfl, same_upd hL _ _ hS, upd_same, h9 (by rw [l6]; simp), fun r hr' => ?_⟩⟩
      have xL := same_upd (o := HO.lst [V.str (Txt.mul ⟨#[zc]⟩ 1501)]) hL
      have xr := same_upd (o := HO.lst (xs ++ [V.str (Txt.mul ⟨#[zc]⟩ 1501)])) hr'
      have gr := (g1.same xL).same xr
      have bs := butN_same (p := p) (xL.trans xr)
      refine ⟨p, c, r, _, _, rfl, gr.pc, by omega, SqL.of upd_same, new_ne (g1.same xL).pen hr', (by rw [List.length_append, l6]; simp), (by rw [List.length_append, l6]; simp), fun H2 m v b2 hP2 hm => ?_⟩
      have bn := bs.trans (butN_but b2)
      have fin : ∃ d, Rs p K H2 v d ∧ (fun d => d ≠ .none ∧ ringD z.cps.toList d = false) d := by
        rcases List.mem_append.mp (List.mem_of_getElem? hm) with h | h
        · obtain ⟨d, hd, rd⟩ := hB v h
          exact ⟨d, hd.go bn, rd⟩
        · rw [List.mem_singleton.mp h]
          exact ⟨.str _, rs_str _ lm2, (fun e => nomatch e), ring_bad (txt_long (by rw [lm]; decide))⟩
      obtain ⟨d, hd, rd⟩ := fin
      exact ⟨v, d, rfl, gr.but b2 hP2, b2 _ _ nW (xr _ _ (xL _ _ hW)), h1.go bn, h1a, h1b, h2.go bn, h2a, h2b, hd, rd⟩
    clear hB hS l6 nS
    rintro σ H1 ⟨bad, d, rfl, g1, hW, h1, h1a, h1b, h2, h2a, h2b, hb, rd⟩
    refine ⟨fun σ H' => ∃ (loop : V) (d3 : PyData), σ = [some (.ref p), some x, some (.str z), some (.str ⟨#[o]⟩), some (.ref W), some (.ref S), some bad, none, some loop, some one, none, some word, none, none] ∧ Go PT p c (n + 7) H H' ∧ H' W = some (.lst [.bl w0, .bl w1, .bl w2]) ∧ Rs p K H' one d1 ∧ (w0 = true → rulD d1 = false) ∧ (w0 = false → d1 = .tuple [.str z, .tuple ss]) ∧ Rs p K H' word d2 ∧ (w1 = true → txtD z.cps.toList d2 = false) ∧ (w1 = false → d2 = .str z) ∧ Rs p K H' loop d3 ∧ (w2 = true → d3 ≠ .none ∧ ringD z.cps.toList d3 = false) ∧ (w2 = false → d3 = .str z), ?_, ?_⟩
    · refine ⟨_, rfl, W, _, 2, .bl w2, rfl, rfl, SqL.of hW, atI_nat (j := 2) rfl, w2, rfl, ite2 (fun e => ?_) (fun e => ?_)⟩
      · exact ⟨_, rfl, bad, d, rfl, g1, hW, h1, h1a, h1b, h2, h2a, h2b, hb, fun _ => rd, fun e' => absurd (e.symm.trans e') (by decide)⟩
      · exact ⟨_, rfl, _, .str z, rfl, g1, hW, h1, h1a, h1b, h2, h2a, h2b, rs_str z zs, fun e' => absurd e' e, fun _ => rfl⟩
    clear hb rd
    rintro σ H1 ⟨loop, d3, rfl, g1, hW, h1, h1a, h1b, h2, h2a, h2b, h3, h3a, h3b⟩
    refine ⟨fun σ H' => ∃ (D : Str), σ = [some (.ref p), some x, some (.str z), some (.str ⟨#[o]⟩), some (.ref W), some (.ref S), some bad, some (.str D), some loop, some one, none, some word, none, none] ∧ Go PT p c (n + 7) H H' ∧ H' W = some (.lst [.bl w0, .bl w1, .bl w2]) ∧ Rs p K H' one d1 ∧ (w0 = true → rulD d1 = false) ∧ (w0 = false → d1 = .tuple [.str z, .tuple ss]) ∧ Rs p K H' word d2 ∧ (w1 = true → txtD z.cps.toList d2 = false) ∧ (w1 = false → d2 = .str z) ∧ Rs p K H' loop d3 ∧ (w2 = true → d3 ≠ .none ∧ ringD z.cps.toList d3 = false) ∧ (w2 = false → d3 = .str z) ∧ D = (if w0 = true then "rule" else if (w1 || w2) = true then "word" else "fine"), ?_, ?_⟩
    · refine ⟨_, rfl, W, _, 0, .bl w0, rfl, rfl, SqL.of hW, atI_nat (j := 0) rfl, w0, rfl, ite2 (fun e0 => ?_) (fun e0 => ?_)⟩
      · exact ⟨_, rfl, g1, hW, h1, h1a, h1b, h2, h2a, h2b, h3, h3a, h3b, by rw [e0]; rfl⟩
      · refine ⟨_, rfl, W, _, 1, .bl w1, rfl, rfl, SqL.of hW, atI_nat (j := 1) rfl, w1, rfl, ite2 (fun e1 => ?_) (fun e1 => ?_)⟩
        · exact iteT ⟨_, rfl, g1, hW, h1, h1a, h1b, h2, h2a, h2b, h3, h3a, h3b, by rw [eq_false_of_ne_true e0, e1]; rfl⟩
        · refine ⟨_, rfl, W, _, 2, .bl w2, rfl, rfl, SqL.of hW, atI_nat (j := 2) rfl, w2, rfl, ite2 (fun e2 => ?_) (fun e2 => ?_)⟩
          · exact ⟨_, rfl, g1, hW, h1, h1a, h1b, h2, h2a, h2b, h3, h3a, h3b, by rw [eq_false_of_ne_true e0, eq_false_of_ne_true e1, e2]; rfl⟩
          · exact ⟨_, rfl, g1, hW, h1, h1a, h1b, h2, h2a, h2b, h3, h3a, h3b, by rw [eq_false_of_ne_true e0, eq_false_of_ne_true e1, eq_false_of_ne_true e2]; rfl⟩
    rintro σ H1 ⟨D, rfl, g1, hW, h1, h1a, h1b, h2, h2a, h2b, h3, h3a, h3b, hD⟩
    have tself := txt_self lz
    have rself : ringD z.cps.toList (.str z) = true := by
      rw [ringD, tself, show lenD (.str z) = z.length from rfl, decide_eq_false (by omega)]
      rfl
    refine ⟨fun σ H' => σ = [some (.ref p), some x, some (.str z), some (.str ⟨#[o]⟩), some (.ref W), some (.ref S), some bad, some (.str D), some loop, some one, none, some word, none, none] ∧ Go PT p c (n + 7) H H' ∧ H' W = some (.lst [.bl w0, .bl w1, .bl w2]) ∧ Rs p K H' one d1 ∧ (w0 = true → rulD d1 = false) ∧ (w0 = false → d1 = .tuple [.str z, .tuple ss]) ∧ Rs p K H' word d2 ∧ (w1 = true → txtD z.cps.toList d2 = false) ∧ (w1 = false → d2 = .str z) ∧ Rs p K H' loop d3 ∧ (w2 = true → d3 ≠ .none ∧ ringD z.cps.toList d3 = false) ∧ (w2 = false → d3 = .str z), ?_, ?_⟩
    · refine ⟨g1.2.2, fun Ha eA tA => ?_⟩
      have bA := butN_ext (p := p) eA
      have fin : ∀ H2 : Hp, LamX.ExtN H1 H2 → LamX.Tabs [(PT, qRef)] H2 → (fun σ H' => σ = [some (.ref p), some x, some (.str z), some (.str ⟨#[o]⟩), some (.ref W), some (.ref S), some bad, some (.str D), some loop, some one, none, some word, none, none] ∧ Go PT p c (n + 7) H H' ∧ H' W = some (.lst [.bl w0, .bl w1, .bl w2]) ∧ Rs p K H' one d1 ∧ (w0 = true → rulD d1 = false) ∧ (w0 = false → d1 = .tuple [.str z, .tuple ss]) ∧ Rs p K H' word d2 ∧ (w1 = true → txtD z.cps.toList d2 = false) ∧ (w1 = false → d2 = .str z) ∧ Rs p K H' loop d3 ∧ (w2 = true → d3 ≠ .none ∧ ringD z.cps.toList d3 = false) ∧ (w2 = false → d3 = .str z)) [some (.ref p), some x, some (.str z), some (.str ⟨#[o]⟩), some (.ref W), some (.ref S), some bad, some (.str D), some loop, some one, none, some word, none, none] H2 := fun H2 e2 t2 =>
        ⟨rfl, g1.ext e2 t2, e2 _ _ hW (fun _ z => nomatch z), h1.go (butN_ext e2), h1a, h1b, h2.go (butN_ext e2), h2a, h2b, h3.go (butN_ext e2), h3a, h3b⟩
      refine ⟨_, rfl, _, rfl, _, rfl, rfl, rfl, one, word, loop, d1, d2, d3, rfl, (h1.go bA).rp, (h2.go bA).rp, (h3.go bA).rp, ?_⟩
      rcases Bool.eq_false_or_eq_true w0 with hw0 | hw0
      · exact .inl ⟨h1a hw0, fun H2 s2 => ⟨3, by decide, rfl, rfl, fun H3 s3 => ⟨_, rfl, rfl, false, neSE (by rw [word3, hD, hw0]; rfl), iteF (fin _ (eA.trans (LamX.ExtN.of (s2.trans s3))) (tA.ext (s2.trans s3)))⟩⟩⟩
      · have e1 := h1b hw0
        refine .inr ⟨z, ss, e1, by rw [e1]; exact zr, ?_⟩
        rcases Bool.eq_false_or_eq_true w1 with hw1 | hw1
        · exact .inl ⟨.inl (h2a hw1), fun H2 s2 => ⟨5, by decide, rfl, rfl, fun H3 s3 => ⟨_, rfl, rfl, false, neSE (by rw [word5, hD, hw0, hw1]; rfl), iteF (fin _ (eA.trans (LamX.ExtN.of (s2.trans s3))) (tA.ext (s2.trans s3)))⟩⟩⟩
        · have e2 := h2b hw1
          rcases Bool.eq_false_or_eq_true w2 with hw2 | hw2
          · exact .inl ⟨.inr (h3a hw2), fun H2 s2 => ⟨5, by decide, rfl, rfl, fun H3 s3 => ⟨_, rfl, rfl, false, neSE (by rw [word5, hD, hw0, hw1, hw2]; rfl), iteF (fin _ (eA.trans (LamX.ExtN.of (s2.trans s3))) (tA.ext (s2.trans s3)))⟩⟩⟩
          · have e3 := h3b hw2
            exact .inr ⟨z, e2, by rw [e2]; exact tself, .inr ⟨z, e3, by rw [e3]; exact rself, fun H2 s2 H3 s3 => ⟨_, rfl, rfl, false, neSE (by rw [hD, hw0, hw1, hw2]; rfl), iteF (fin _ (eA.trans (LamX.ExtN.of (s2.trans s3))) (tA.ext (s2.trans s3)))⟩⟩⟩
    clear hD
    rintro σ H1 ⟨rfl, g1, hW, h1, h1a, h1b, h2, h2a, h2b, h3, h3a, h3b⟩
    refine ⟨fun σ H' => σ = [some (.ref p), some x, some (.str z), some (.str ⟨#[o]⟩), some (.ref W), some (.ref S), some bad, some (.str D), some loop, some one, none, some word, none, none] ∧ Go PT p c (n + 7) H H', ?_, ?_⟩
    · refine ⟨g1.2.2, fun Ha eA tA => ?_⟩
      have bA := butN_ext (p := p) eA
      have fin : ∀ H2 : Hp, LamX.ExtN H1 H2 → LamX.Tabs [(PT, qRef)] H2 → (fun σ H' => σ = [some (.ref p), some x, some (.str z), some (.str ⟨#[o]⟩), some (.ref W), some (.ref S), some bad, some (.str D), some loop, some one, none, some word, none, none] ∧ Go PT p c (n + 7) H H') [some (.ref p), some x, some (.str z), some (.str ⟨#[o]⟩), some (.ref W), some (.ref S), some bad, some (.str D), some loop, some one, none, some word, none, none] H2 := fun H2 e2 t2 => ⟨rfl, g1.ext e2 t2⟩
      refine ⟨_, rfl, _, rfl, one, word, .non, d1, d2, .none, rfl, (h1.go bA).rp, (h2.go bA).rp, .non, ?_⟩
      rcases Bool.eq_false_or_eq_true w0 with hw0 | hw0
      · refine .inl ⟨h1a hw0, fun H2 s2 => ⟨3, by decide, rfl, rfl, fun H3 s3 => ⟨_, rfl, W, _, 0, .bl w0, rfl, rfl, SqL.of ((s2.trans s3) _ _ (eA _ _ hW (fun _ z => nomatch z))), atI_nat (j := 0) rfl, w0, rfl, ?_⟩⟩⟩
        refine ite2 (fun _ => ?_) (fun e => absurd hw0 e)
        exact ⟨rfl, false, neSE word3, iteF (fin _ (eA.trans (LamX.ExtN.of (s2.trans s3))) (tA.ext (s2.trans s3)))⟩
      · have n0 : ¬ w0 = true := fun e => absurd (e.symm.trans hw0) (by decide)
        have e1 := h1b hw0
        refine .inr ⟨z, ss, e1, by rw [e1]; exact zr, ?_⟩
        rcases Bool.eq_false_or_eq_true w1 with hw1 | hw1
        · refine .inl ⟨.inl (h2a hw1), fun H2 s2 => ⟨5, by decide, rfl, rfl, fun H3 s3 => ⟨_, rfl, W, _, 0, .bl w0, rfl, rfl, SqL.of ((s2.trans s3) _ _ (eA _ _ hW (fun _ z => nomatch z))), atI_nat (j := 0) rfl, w0, rfl, ?_⟩⟩⟩
          refine ite2 (fun e => absurd e n0) (fun _ => ?_)
          refine ⟨_, rfl, W, _, 1, .bl w1, rfl, rfl, SqL.of ((s2.trans s3) _ _ (eA _ _ hW (fun _ z => nomatch z))), atI_nat (j := 1) rfl, w1, rfl, ?_⟩
          refine ite2 (fun _ => ?_) (fun e => absurd hw1 e)
          exact ⟨rfl, false, neSE word5, iteF (fin _ (eA.trans (LamX.ExtN.of (s2.trans s3))) (tA.ext (s2.trans s3)))⟩
        · have n1'' : ¬ w1 = true := fun e => absurd (e.symm.trans hw1) (by decide)
          have e2 := h2b hw1
          refine .inr ⟨z, e2, by rw [e2]; exact tself, .inl ⟨rfl, fun H2 s2 H3 s3 => ⟨_, rfl, W, _, 0, .bl w0, rfl, rfl, SqL.of ((s2.trans s3) _ _ (eA _ _ hW (fun _ z => nomatch z))), atI_nat (j := 0) rfl, w0, rfl, ?_⟩⟩⟩
          refine ite2 (fun e => absurd e n0) (fun _ => ?_)
          refine ⟨_, rfl, W, _, 1, .bl w1, rfl, rfl, SqL.of ((s2.trans s3) _ _ (eA _ _ hW (fun _ z => nomatch z))), atI_nat (j := 1) rfl, w1, rfl, ?_⟩
          refine ite2 (fun e => absurd e n1'') (fun _ => ?_)
          exact ⟨rfl, false, neSE rfl, iteF (fin _ (eA.trans (LamX.ExtN.of (s2.trans s3))) (tA.ext (s2.trans s3)))⟩
    clear h1 h1a h1b h2 h2a h2b h3 h3a h3b hW
    rintro σ H1 ⟨rfl, g1⟩
    refine ⟨fun σ H' => ∃ (S : Addr) (xs : List V), σ = [some (.ref p), some x, some (.str z), some (.str ⟨#[o]⟩), some (.ref W), some (.ref S), some bad, some (.str D), some loop, some one, none, some word, none, none] ∧ Go PT p c (n + 7) H H' ∧ S ≠ p ∧ H' S = some (.lst xs) ∧ xs.length = 16 ∧ Bads p K H' (fun d => ltrD d = false) xs, ?_, ?_⟩
    · refine ⟨h9 (by simp), fun a1 h1' => ⟨(by show 16 ≤ sizeLine; decide), fun S hS => ?_⟩⟩
      have x1 := same_upd (o := HO.tup [V.str "a"]) h1'
      have xS := same_upd (o := HO.lst [.non, .str "", .str "abcd", .str "ba", .str "aa", .str "A", .ref a1, .int 7, .str "a ", .str "1", .str "Ab", .str "1a", .str "-z", .str "a{", .str "ab~", .str "A_a"]) hS
      have n1' := new_ne g1.pen h1'
      refine ⟨S, _, rfl, (g1.same x1).same xS, new_ne (g1.same x1).pen hS, upd_same, rfl, fun v hv => ?_⟩
      simp only [List.mem_cons, List.not_mem_nil, or_false] at hv
      rcases hv with rfl | rfl | rfl | rfl | rfl | rfl | rfl | rfl | rfl | rfl | rfl | rfl | rfl | rfl | rfl | rfl
      · exact ⟨.none, rs_non, rfl⟩
      · exact ⟨.str _, rs_str _ (by decide), by decide +kernel⟩
      · exact ⟨.str _, rs_str _ (by decide), by decide +kernel⟩
      · exact ⟨.str _, rs_str _ (by decide), by decide +kernel⟩
      · exact ⟨.str _, rs_str _ (by decide), by decide +kernel⟩
      · exact ⟨.str _, rs_str _ (by decide), by decide +kernel⟩
      · exact ⟨.tuple [.str "a"], rs_tup n1' (xS _ _ upd_same) (.cons (rs_str _ (by decide)) rsNil), rfl⟩
      · exact ⟨.int 7, rs_int 7, rfl⟩
      · exact ⟨.str _, rs_str _ (by decide), by decide +kernel⟩
      · exact ⟨.str _, rs_str _ (by decide), by decide +kernel⟩
      · exact ⟨.str _, rs_str _ (by decide), by decide +kernel⟩
      · exact ⟨.str _, rs_str _ (by decide), by decide +kernel⟩
      · exact ⟨.str _, rs_str _ (by decide), by decide +kernel⟩
      · exact ⟨.str _, rs_str _ (by decide), by decide +kernel⟩
      · exact ⟨.str _, rs_str _ (by decide), by decide +kernel⟩
      · exact ⟨.str _, rs_str _ (by decide), by decide +kernel⟩
    rintro σ H1 ⟨S, xs, rfl, g1, nS, hS, l6, hB⟩
    refine ⟨fun σ H' => ∃ (what : V) (d4 : PyData), σ = [some (.ref p), some x, some (.str z), some (.str ⟨#[o]⟩), some (.ref W), some (.ref S), some bad, some (.str D), some loop, some one, some what, some word, none, none] ∧ Go PT p c (n + 8) H H' ∧ Rs p K H' what d4 ∧ ltrD d4 = false, ?_, ?_⟩
    · refine ⟨_, rfl, _, rfl, p, c, S, xs, _, rfl, g1.pc, by omega, SqL.of hS, nS, by omega, by omega, fun H2 m v b2 hP2 hm => ?_⟩
      obtain ⟨d, hd, rd⟩ := hB v (List.mem_of_getElem? hm)
      exact ⟨v, d, rfl, g1.but b2 hP2, hd.go (butN_but b2), rd⟩
    rintro σ H1 ⟨what, d4, rfl, g1, h4, l4⟩
    refine ⟨g1.2.2, fun Ha eA tA => ?_⟩
    have bA := butN_ext (p := p) eA
    refine ⟨_, rfl, what, d4, rfl, (h4.go bA).rp, .inr ⟨l4, fun H2 s2 => ⟨2, by decide, rfl, rfl, fun H3 s3 => ⟨rfl, ?_⟩⟩⟩⟩
    have gz := g1.ext (eA.trans (LamX.ExtN.of (s2.trans s3))) (tA.ext (s2.trans s3))
    rw [word2, decide_eq_true rfl]
    exact q H3 gz.1 (gz.2.1.mono (by omega)) gz.2.2
end
end My
/-! ### small data, to be shown -/
namespace My
open PySem PySem.Spec PyProof.Rows L2
mutual
theorem Rp.dp {K : PySem.W.Frag} {H : Hp} : ∀ {v : V} {d : PyData}, Rp K H v d → d.hasDict = false → Dp K H v d
  | _, _, .non, _ => .non
  | _, _, .bl b, _ => .bl b
  | _, _, .int i, _ => .int i
  | _, _, .str x _, _ => .str x
  | _, _, .lst h t, n => .lst h (RpAll.dp t (by simpa only [PyData.hasDict] using n))
  | _, _, .tup h t, n => .tup h (RpAll.dp t (by simpa only [PyData.hasDict] using n))
  | _, _, .dct _, n => by simp [PyData.hasDict] at n
theorem RpAll.dp {K : PySem.W.Frag} {H : Hp} : ∀ {vs : List V} {ds : List PyData}, RpAll K H vs ds → PyData.hasDictAll ds = false → DpAll K H vs ds
  | _, _, .nil, _ => .nil
  | _, _, .cons h t, n => by
    rw [PyData.hasDictAll, Bool.or_eq_false_iff] at n
    exact .cons (Rp.dp h n.1) (RpAll.dp t n.2)
end
/-- data of at most that depth and weight, without dicts -/
structure Sm (D W : Nat) (d : PyData) : Prop where
  sh : d.showable = true
  dp : d.depth ≤ D
  nd : d.hasDict = false
  lv : d.leavesShort 13 = true
  wt : d.weight ≤ W
theorem Sm.mono {D W D' W' : Nat} {d : PyData} (h : Sm D W d) (a : D ≤ D') (b : W ≤ W') : Sm D' W' d := ⟨h.sh, Nat.le_trans h.dp a, h.nd, h.lv, Nat.le_trans h.wt b⟩
theorem sm_non : Sm 0 0 .none := ⟨rfl, Nat.le_refl _, by simp [PyData.hasDict], rfl, by simp [PyData.weight]⟩
theorem sm_bl (b : Bool) : Sm 0 0 (.bool b) := ⟨rfl, Nat.le_refl _, by simp [PyData.hasDict], rfl, by simp [PyData.weight]⟩
theorem sm_int {i : Int} (h : i.natAbs ≤ 1000) : Sm 0 1001 (.int i) := by
  have l := Nat.log2_le_self i.natAbs
  refine ⟨?_, Nat.le_refl _, by simp [PyData.hasDict], ?_, ?_⟩
  · rw [PyData.showable]
    exact decide_eq_true (by omega)
  · rw [PyData.leavesShort]
    exact decide_eq_true (PyData.shown_int_le (by omega))
  · rw [PyData.weight]
    split <;> omega
theorem sm_str {z : Str} {n : Nat} (h : ∀ c ∈ z.cps.toList, c ≤ 1000) (l : z.length ≤ n) : Sm 0 n (.str z) := by
  refine ⟨rfl, Nat.le_refl _, by simp [PyData.hasDict], ?_, ?_⟩
  · rw [PyData.leavesShort, List.all_eq_true]
    exact fun c hc => decide_eq_true (Nat.lt_of_le_of_lt (h c hc) (by decide))
  · rw [PyData.weight]
    exact l
theorem sm_all {D W : Nat} : ∀ {ds : List PyData}, (∀ d ∈ ds, Sm D W d) → PyData.showableAll ds = true ∧ PyData.depthAll ds ≤ D ∧ PyData.hasDictAll ds = false ∧ PyData.leavesShortAll 13 ds = true ∧ PyData.weightAll ds ≤ ds.length * (W + 1)
  | [], _ => by simp [PyData.showableAll, PyData.depthAll, PyData.hasDictAll, PyData.leavesShortAll, PyData.weightAll]
  | d :: ds, h => by
    obtain ⟨a1, a2, a3, a4, a5⟩ := h d (.head _)
    obtain ⟨b1, b2, b3, b4, b5⟩ := @sm_all D W ds fun e he => h e (.tail _ he)
    refine ⟨?_, ?_, ?_, ?_, ?_⟩
    · rw [PyData.showableAll, a1, b1]
      rfl
    · rw [PyData.depthAll]
      exact Nat.max_le.mpr ⟨a2, b2⟩
    · rw [PyData.hasDictAll, a3, b3]
      rfl
    · rw [PyData.leavesShortAll, a4, b4]
      rfl
    · rw [PyData.weightAll, List.length_cons, Nat.succ_mul]
      omega
theorem sm_tup {D W n : Nat} {ds : List PyData} (h : ∀ d ∈ ds, Sm D W d) (l : ds.length ≤ n) : Sm (D + 1) (n * (W + 1)) (.tuple ds) := by
  obtain ⟨b1, b2, b3, b4, b5⟩ := sm_all h
  have m := Nat.mul_le_mul_right (W + 1) l
  exact ⟨by rw [PyData.showable]; exact b1, by rw [PyData.depth]; omega, by rw [PyData.hasDict]; exact b3, by rw [PyData.leavesShort]; exact b4, by rw [PyData.weight]; omega⟩
theorem sm_lst {D W n : Nat} {ds : List PyData} (h : ∀ d ∈ ds, Sm D W d) (l : ds.length ≤ n) : Sm (D + 1) (n * (W + 1)) (.list ds) := by
  obtain ⟨b1, b2, b3, b4, b5⟩ := sm_all h
  have m := Nat.mul_le_mul_right (W + 1) l
  exact ⟨by rw [PyData.showable]; exact b1, by rw [PyData.depth]; omega, by rw [PyData.hasDict]; exact b3, by rw [PyData.leavesShort]; exact b4, by rw [PyData.weight]; omega⟩
theorem Sm.fits {D W : Nat} {d : PyData} (h : Sm D W d) (w : W ≤ 1000000) : d.shown.length ≤ sizeLine := PyData.shown_fits (B := 13) (by decide) (by decide) h.lv (Nat.le_trans h.wt (Nat.le_trans w (by decide)))
/-- repr of small data -/
theorem repr_sm {K : PySem.W.Frag} {H : Hp} {x : V} {d : PyData} {D W : Nat} {Q : VK} (h : Rp K H x d) (s : Sm D W d) (hD : D ≤ 60) (hW : W ≤ 1000000) (q : Q (.str d.shown) H) : rRepr K [x] H Q := ⟨x, d, rfl, h.dp s.nd, s.sh, Nat.le_trans s.dp hD, s.fits hW, q⟩
theorem letters_small {l : List Nat} (h : lettersL l = true) : ∀ c ∈ l, c ≤ 1000 := by
  unfold lettersL at h
  split at h
  · intro c hc
    simp at h hc
    omega
  · intro c hc
    simp at h hc
    omega
  · intro c hc
    simp at h hc
    omega
  · cases h
theorem sm_rule {z : Str} {ss : List PyData} (h : rulD (.tuple [.str z, .tuple ss]) = true) : Sm 3 100000 (.tuple [.str z, .tuple ss]) := by
  obtain ⟨hl, r1, r4, hes⟩ := rul_of (L := z.cps.toList) h
  have z3 : z.length ≤ 3 := z_len hl
  have a : ∀ e ∈ ss, Sm 1 (3 * 1002) e := fun e he => by
    obtain ⟨es, rfl, el, ed⟩ := hes e he
    refine sm_tup (D := 0) (W := 1001) (n := 3) (fun d hd => ?_) (by omega)
    rcases ed d hd with rfl | ⟨i, rfl, i0, i1⟩
    · exact sm_non.mono (Nat.le_refl _) (by decide)
    · exact sm_int (by omega)
  have b := sm_tup a r4
  refine (sm_tup (D := 2) (W := 4 * (3 * 1002 + 1)) (n := 2) (fun d hd => ?_) (by simp)).mono (by decide) (by decide)
  simp only [List.mem_cons, List.not_mem_nil, or_false] at hd
  rcases hd with rfl | rfl
  · exact (sm_str (letters_small hl) z3).mono (by decide) (by decide)
  · exact b
end My
/-! ### the end of a law that shows data and whose helper holds lambdas -/
namespace My
open PySem PySem.Spec PyProof.Rows L2
/-- the law's call at the head: the script and one table of code objects are tracked -/
theorem law_callTG {P : Program} {w : World} {K : PySem.W.Frag} {mg mb : Str → Option Value} {CX : CXT} {k : Nat} {fa a cL PT : Addr} {fd : FuncData} {x : Str} {sp : Sp} {st : Shared} {vs : List Value} {ns : List Int}
    (KX : K.In st.heap) (hns : st.heap.Ns mainGlobals mg) (hb : st.heap.Ns builtinsNs mb) (hbb : ∀ x : Str, x ≠ "__name__" → mb x = bootBuiltins x) (hlim : st.heap.NoLimit) (hg : st.gens = #[])
    (tP : st.heap.get? PT = some { cls := .none, data := .fields #[] }) (kP : K.lookup PT = none) (cP : PySem.W.CodeHd st.heap cL PT)
    (bP : ∃ (bm : Addr) (ob : Obj), mg "__builtins__" = some (.ref bm) ∧ bm ≠ builtinsNs ∧ st.heap.get? bm = some ob ∧ ob.cls = .type "module" ∧ ob.dict = some builtinsNs ∧ ob.data = .plain)
    (ha : st.heap.get? a = some { cls := .type "list", data := .seq vs.toArray }) (hi : IntsAre vs ns) (hl : ns.length ≤ sizeLine) (hr : Room k callerA)
    (F : ∀ base : Heap, K.In base → base.Ns mainGlobals mg → LamX.TabB base mg cL PT → FnG P w K mg base CX k fa fd [x] sp)
    (hbind : ∀ (s : Shared) (u : Value), BindsTo s fd ⟨[u], []⟩ [(x, u)])
    (hsp : ∀ H : Hp, H PT = some (.tbl #[]) → SqL K H a (ns.map V.int) → sp [.ref a] H (fun v _ => v = .bl true) fun _ _ _ => False)
    (hCX : ∀ H e s', CX [] H st (fun _ _ _ => False) e s' → False) :
    codeAny (model P w) callerA (.call (.ref fa) ⟨[.ref a], []⟩) (fun r s' => r = .ok (.ret (.bool true)) ∧ OldK st.heap s'.heap ∧ s'.os = st.os ∧ AllBare s'.gens) st := by
  have vints := vals_ints hi
  have vlen := hi.length
  have naP : a ≠ PT := fun z => by
    rw [z, tP] at ha
    cases ha
  have main : ∀ H : Hp, H PT = some (.tbl #[]) → SqL K H a (ns.map V.int) → HOk P w H st.heap → (∀ b, b ≠ a → b ≠ PT → H b = none) → (H a = none ∨ ∃ o xs, H a = some (.frz o (.lst xs))) → (K.lookup a = none ∨ H a = none) →
      codeAny (model P w) callerA (.call (.ref fa) ⟨[.ref a], []⟩) (fun r s' => r = .ok (.ret (.bool true)) ∧ OldK st.heap s'.heap ∧ s'.os = st.os ∧ AllBare s'.gens) st := by
    intro H hP scr hok off atA onK
    have untracked : ∀ b o, st.heap.get? b = some o → (∀ us n, o.data ≠ .seq us n) → o.data ≠ .fields #[] → H b = none := fun b o e n1 n2 => by
      by_cases z : b = a
      · rw [z, ha] at e
        cases e
        exact absurd rfl (n1 _ _)
      · by_cases y : b = PT
        · rw [y, tP] at e
          cases e
          exact absurd rfl n2
        · exact off b z y
    have dictFree : ∀ {b : Addr} {m : Str → Option Value}, st.heap.Ns b m → (hidT st.heap H).Ns b m := by
      rintro b m ⟨o, es, ep, e, d, r⟩
      refine ⟨o, es, ep, hidT_get e (untracked b o e (fun us n q => ?_) fun q => ?_), d, r⟩ <;> rw [d] at q <;> cases q
    have kIn : K.In (hidT st.heap H) := by
      intro b o e
      by_cases z : b = a
      · rcases onK with q | q
        · rw [z, q] at e
          cases e
        · exact hidT_get (KX b o e) (by rw [z]; exact q)
      · by_cases y : b = PT
        · rw [y, kP] at e
          cases e
        · exact hidT_get (KX b o e) (off b z y)
    obtain ⟨mc, lim1, lim2⟩ := hlim
    have md : Mod K mg (hidT st.heap H) := ⟨kIn, dictFree hns, ⟨mb, dictFree hb, hbb⟩, ⟨mc, dictFree lim1, lim2⟩⟩
    have tb : LamX.TabB (hidT st.heap H) mg cL PT := by
      refine ⟨?_, ?_, fun z => ?_⟩
      · obtain ⟨c1, c2, c3, c4, c5, c6, c7, c8, c9, q1, q2, q3, q4, q5, q6, q7, q8, q9, q10⟩ := cP
        refine ⟨c1, c2, c3, c4, c5, c6, c7, c8, c9, hidT_get q1 (untracked cL c1 q1 (fun us n q => ?_) fun q => ?_), q2, q3, q4, q5, q6, q7, q8, q9, q10⟩
        · rw [q3] at q
          cases q
        · rw [q3] at q
          cases q
          simp at q4
      · obtain ⟨m1, m2, q1, q2, q3, q4, q5, q6⟩ := bP
        have free : H m1 = none := untracked m1 m2 q3 (fun us n q => by rw [q6] at q; cases q) fun q => by rw [q6] at q; cases q
        refine ⟨m1, m2, q1, q2, fun z => ?_, fun z => ?_, hidT_get q3 free, q4, q5, q6⟩
        · obtain ⟨o, es, ep, e, d, _⟩ := hns
          rw [z, e] at q3
          cases q3
          rw [d] at q6
          cases q6
        · rw [z, hP] at free
          cases free
      · obtain ⟨o, es, ep, e, d, _⟩ := hns
        rw [z, tP] at e
        cases e
        cases d
    have e0 : Env0 P w K mg (hidT st.heap H) callerA [] st H :=
      { frames := rfl, mod := md, bs := fun b o e => of_hidT e, bsz := Nat.le_of_eq (hidT_size _ _), funs := trivial, frf := fun b z => (nomatch z), hok := hok, bare := .of_eq hg }
    have run := (F _ kIn (dictFree hns) tb).run callerA rfl hr [] st H ⟨[.ref a], []⟩ [.ref a] [.ref a] _ _ e0 (hbind st (.ref a)) (.cons rfl .nil) (hsp H hP scr)
    refine codeAny_mono run fun r s' h => ?_
    match r, h with
    | .error e, h => exact (hCX H e s' h).elim
    | .ok .next, h => exact h.elim
    | .ok .brk, h => exact h.elim
    | .ok .cont, h => exact h.elim
    | .ok (.ret u), h =>
      obtain ⟨v, H', os, bare, un, hok', rv, q⟩ := h
      obtain rfl : v = .bl true := q
      obtain rfl : u = Value.bool true := rv
      have stays : ∀ b o, b ≠ PT → st.heap.get? b = some o → s'.heap.get? b = some o := fun b o nb e => by
        by_cases z : b = a
        · rcases atA with y | ⟨ob, ys, y⟩
          · rw [z] at e ⊢
            exact un.keep a o e y (fun z => nomatch z) (fun z => nomatch z)
          · have old := (hok a _ y).1
            rw [z] at e ⊢
            rw [e] at old
            cases old
            exact (hok' a _ (un.frzs a _ _ y)).1
        · exact un.keep b o e (off b z nb) (fun z => nomatch z) (fun z => nomatch z)
      obtain ⟨more, grown⟩ := un.tbls PT #[] hP
      have now : s'.heap.get? PT = some { cls := .none, data := .fields (#[] ++ more) } := hok' PT _ grown
      rw [Array.empty_append] at now
      refine ⟨rfl, ⟨fun b o e => ?_, fun b o e => ?_⟩, os, bare⟩
      · by_cases z : b = PT
        · subst z
          rw [tP] at e
          cases e
          exact .inr (.inl ⟨(cP.tab tP).isCodeTable, rfl, #[], more, rfl, by rw [Array.empty_append]; exact now⟩)
        · exact .inl (stays b o z e)
      · by_cases z : b = PT
        · rw [z]
          exact ⟨_, now⟩
        · exact ⟨o, stays b o z e⟩
  cases hk : K.lookup a with
  | some o =>
    have e := KX a o hk
    rw [ha] at e
    cases e
    have nn : (fun b => if b = PT then some (HO.tbl #[]) else none : Hp) a = none := if_neg naP
    refine main (fun b => if b = PT then some (.tbl #[]) else none) (if_pos rfl) (.inr ⟨_, vs.toArray, _, hk, rfl, rfl, rfl, by rw [List.size_toArray, vlen]; exact hl, by simpa using vints⟩) (fun b u z => ?_) (fun b _ z => if_neg z) (.inl nn) (.inr nn)
    by_cases y : b = PT
    · have q := (if_pos y).symm.trans z
      cases q
      rw [y]
      exact tP
    · have q := (if_neg y).symm.trans z
      cases q
  | none =>
    have atP : (fun b => if b = a then some (HO.frz { cls := .type "list", data := .seq vs.toArray } (.lst (ns.map V.int))) else if b = PT then some (.tbl #[]) else none : Hp) PT = some (.tbl #[]) := (if_neg naP.symm).trans (if_pos rfl)
    refine main (fun b => if b = a then some (.frz { cls := .type "list", data := .seq vs.toArray } (.lst (ns.map V.int))) else if b = PT then some (.tbl #[]) else none) atP (.inl (.inr ⟨_, if_pos rfl⟩)) (fun b u z => ?_) (fun b z y => (if_neg z).trans (if_neg y)) (.inr ⟨_, _, if_pos rfl⟩) (.inl hk)
    by_cases y : b = a
    · have q := (if_pos y).symm.trans z
      cases q
      rw [y]
      exact ⟨ha, by rw [List.length_map]; exact hl, vs, _, vints, ha⟩
    · have q1 := (if_neg y).symm.trans z
      by_cases y2 : b = PT
      · have q := (if_pos y2).symm.trans q1
        cases q
        rw [y2]
        exact tP
      · have q := (if_neg y2).symm.trans q1
        cases q
/-- what is known at the head's heap h of a law with one table -/
def LawTG (l : PySem.W.OpenLaw) (w : World) (K : PySem.W.Frag) (CX : CXT) (k n : Nat) (x : Str) (mg : Str → Option Value) (fa : Addr) (h : Heap) : Prop :=
  ∃ (fd : FuncData) (cL PT : Addr) (sp : Sp), h.get? PT = some { cls := .none, data := .fields #[] } ∧ K.lookup PT = none ∧ PySem.W.CodeHd h cL PT ∧ (∀ (s : Shared) (u : Value), BindsTo s fd ⟨[u], []⟩ [(x, u)]) ∧
    (∀ (H : Hp) (a : Addr) (ns : List Int), ns.length ≤ n → H PT = some (.tbl #[]) → SqL K H a (ns.map V.int) → sp [.ref a] H (fun v _ => v = .bl true) fun _ _ _ => False) ∧
    ∀ base : Heap, K.In base → base.Ns mainGlobals mg → LamX.TabB base mg cL PT → FnG l.prog w K mg base CX k fa fd [x] sp
/-- what k_head leaves; the table of the def y is told as empty -/
theorem walk_ofTG {l : PySem.W.OpenLaw} {n k : Nat} {q : Program} {loose : List Str} {XP : (Str → Option Value) → Heap → Prop} {YP : World → Heap → Prop} {d : DefRec} {K : Params → PySem.W.Frag} {CX : World → CXT} {x y : Str}
    (hn : l.most = some n) (hn2 : n ≤ sizeLine) (hdf : d.params.defaults = []) (hr : Room k callerA) (hrec : ((recsOf q).any fun e => e.name == y) = true) (hY : ∀ (w : World) (h : Heap), YP w h → (K w.params).In h)
    (F : ∀ (w : World) (mg : Str → Option Value) (fa : Addr) (h : Heap), (K w.params).In h → h.Ns mainGlobals mg → mg d.name = some (.ref fa) →
      (∀ fy : Addr, mg y = some (.ref fy) → LamX.OwnTab (K w.params) fy h) → LawTG l w (K w.params) (CX w) k n x mg fa h)
    (hCX : ∀ (w : World) (H : Hp) (s : Shared) (e : Value) (s' : Shared), CX w [] H s (fun _ _ _ => False) e s' → False) :
    PySem.W.WalkO q loose XP YP l.row.toRowW d [] (fun f vs => PySem.call f vs) := by
  refine Att.attach_callB hn hdf ?_
  intro w s₀ st mg mb fa o pm cd doc a vs ns G Y ho hd hcd hmg hobj hints hlen hbits hg
  have KX := hY w _ Y
  have tabs : ∀ fy : Addr, mg y = some (.ref fy) → LamX.OwnTab (K w.params) fy st.heap := by
    intro fy my c1 P1 o1 g1 e1 e2 us sl k1 k2 k3 k4 k5
    obtain ⟨dL, mem, same⟩ := List.any_eq_true.mp hrec
    have same2 : dL.name = y := beq_iff_eq.mp same
    obtain ⟨b1, b2, b3, b4, b5, j1, j2, j3, j4, j0, ⟨⟨u1, u2, j5, _, j6, j7⟩, j8⟩⟩ := G.T.tab dL mem
    rw [same2, my] at j1
    cases j1
    have z1 := KX _ _ k1
    rw [z1] at j2
    cases j2
    rw [k2] at j3
    cases j3
    rw [k3] at j4
    cases j4
    have z2 := KX _ _ k4
    rw [z2] at j5
    cases j5
    cases j6
    rw [k5] at j7
    cases j7
    exact j8
  obtain ⟨fd, cL, PT, sp, tP, kP, cP, hb, hsp, hF⟩ := F w mg fa _ KX G.T.g hmg tabs
  exact law_callTG KX G.T.g G.T.b G.T.builtins G.T.nolimit hg tP kP cP G.T.bmain hobj hints (Nat.le_trans hlen hn2) hr hF hb (fun H hH hS => hsp H a ns hlen hH hS) fun H => hCX w H st
end My
/-! ### the law -/
namespace My
open PySem PySem.Spec PyProof.Rows L2
abbrev sLaw : Stmt := topS 45
theorem scLaw : FnScope ["script", "pen", "turn", "letters", "rule", "word", "loop", "kept", "due", "circle", "found"] ["script"] (defScope sLaw) := ⟨rfl, rfl, rfl, by decide +kernel, rfl, by decide +kernel, by decide +kernel⟩
structure LawTxt (K : PySem.W.Frag) (mg : Str → Option Value) : Prop where
  range : mg "range" = none
  repr : mg "repr" = none
def spLaw (K : PySem.W.Frag) (PT : Addr) : Sp := fun vs H Q _ => ∃ (a : Addr) (ns : List Int), vs = [.ref a] ∧ SqL K H a (ns.map V.int) ∧ ns.length ≤ 63 ∧ H PT = some (.tbl #[]) ∧ ∀ H', Q (.bl true) H'
theorem txt_ok {L : List Nat} {y : Str} (h : ∀ c ∈ y.cps.toList, c ∈ L) (l : y.length ≤ 1500) : txtD L (.str y) = true := by
  rw [txtD, decide_eq_true (by omega), Bool.true_and, List.all_eq_true]
  exact fun c hc => decide_eq_true (h c hc)
theorem str_nil {z : Str} (h : z.length = 0) : z = "" := by
  obtain ⟨c⟩ := z
  have h2 : c.size = 0 := h
  rw [Array.size_eq_zero_iff] at h2
  rw [h2]
  rfl
section
variable {P : Program} {w : World} {K : PySem.W.Frag} {mg : Str → Option Value} {base : Heap} {f1 f2 f3 f4 : Addr} {d1 d2 d3 d4 : FuncData} {m1 m2 m3 m4 m6 m7 m12 : Addr} {n1 n2 n3 n4 n6 n7 n12 : FuncData} {t1 t2 t6 : Tok} {r1 r2 r3 r4 : Addr} {v1 v2 v3 v4 : FuncData} {C0 C1 C2 C3 C4 C5 C6 C7 C8 C9 C10 C11 CL : Addr} {fW x1 x2 x3 x4 x5 x6 x7 x8 x9 : Addr} {dW y1 y2 y3 y4 y5 y6 y7 y8 y9 : FuncData} {cL PT : Addr}
theorem ok_law {f : Addr} {fd : FuncData} (F : Fun K "law" "law" sLaw f fd) (hcd : y9.code = .ref cL) (TP : PenTxt K mg f1 f2 f3 f4 d1 d2 d3 d4) (TI : IsOfTxt K mg m1 m2 m3 m4 m6 m7 m12 n1 n2 n3 n4 n6 n7 n12 t1 t2 r2 v2 t6 r3 v3 C3 C5 r4 v4) (TE0 : FreeTxt K mg m1 m2 m3 m4 m6 m7 m12 n1 n2 n3 n4 n6 n7 n12 t1 t2 C2 r1 v1) (TE : WordTxt K mg C0 C1 C2 C3 C4 C5 C6 C7 C8 C9 C10 C11 CL) (TW : WT K mg fW dW)
    (TL : LetTxt K mg x1 y1) (TU : RulTxt K mg x2 y2) (TH : PathTxt K mg x3 y3) (TR : RowTxt K mg x4 y4) (TX : TexTxt K mg x5 x6 y5 y6) (TB : BehTxt K mg x7 x8 y7 y8) (TF : RefTxt K mg x9 y9) (T : LawTxt K mg) (hTB : LamX.TabB base mg cL PT) : FnG P w K mg base CX0 9 f fd ["script"] (spLaw K PT) := by
  have GO : FnOk P w K mg base CX0 8 f2 d2 ["script"] (spOpen K) := ok_open TP (k := 7)
  have GT : FnOk P w K mg base CX0 8 f3 d3 ["pen", "many"] spTake := ok_take TP (k := 6)
  have GL : FnOk P w K mg base CX0 8 x1 y1 ["pen"] spXLetters := ok_xLetters TP TL (k := 4)
  have GU : FnOk P w K mg base CX0 8 x2 y2 ["pen", "letters", "most"] (spXRule K) := ok_xRule TP TU (k := 4)
  have GX : FnOk P w K mg base CX0 8 x5 y5 ["pen", "letters", "most"] spXText := ok_xText TP TX (k := 4)
  have GG : FnOk P w K mg base CX0 8 x6 y6 ["pen", "rule"] (spXLong K) := ok_xLong TP TH TR TX (k := 2)
  have GR : FnOk P w K mg base CX0 8 x4 y4 ["pen", "rule", "state", "most"] (spXRow K) := ok_xRow TP TH TR (k := 3)
  have GB : FnOk P w K mg base CX0 8 x7 y7 ["rule", "state", "word"] (spAfter K) := ok_xBehind TB (k := 7)
  have GS : FnOk P w K mg base CX0 8 x8 y8 ["rule", "row"] (spXIsOf K) := ok_xIsOf TB (k := 6)
  have GI : FnOk P w K mg base (L2.CX P w) 8 r4 v4 ["rule", "word", "ring"] (spIsOf K C3 C5) := ok_isOf TI (k := 3)
  have GF : FnOk P w K mg base CX0 8 x9 y9 ["pen", "rule"] (spRef K PT) := ok_ref hcd TP TI TE0 TE TW TF hTB
  obtain ⟨ds, vIs', bIs'⟩ := isof_binds TI.FIsOf
  have bIs := bIs'
  have vIs := vIs'
  refine Fun.okG F scLaw (fun vs H Q E h => ?_) (fun cdv A outer s H vs Q E hgd hr h => ?_)
  · obtain ⟨a, ns, rfl, _⟩ := h
    rfl
  · obtain ⟨a, ns, rfl, hS, hl63, hT, q⟩ := h
    have hu : (A.deeper (envOfC "law" (defScope sLaw) s.heap.objs.size f cdv)).units + 64 < cLine := by have := hr.un; omega
    refine ⟨_, PSs.nox (pss_cons (ps_set (i := 1) scLaw.nd rfl (.inl rfl) (pe_call GO hr (by rfl) TP.gOpen TP.FOpen.kp TP.bOpen .nil pass0 (pa_cons (pv 0) pa_nil)))
 (pss_cons (ps_for PassesOwn.never rfl (pi_range1 (by rfl) T.range (pa_cons pe_int pa_nil)) (pg_name (i := 2) scLaw.nd rfl (.inl rfl))
 (Evl.pss_cut (ps_set (i := 3) scLaw.nd rfl (.inl rfl) (pe_call GL hr (by rfl) TL.gXLetters TL.FXLetters.kp TL.bXLetters .nil pass0 (pa_cons (pv 1) pa_nil)))
 (Evl.pss_cut (ps_set (i := 4) scLaw.nd rfl (.inl rfl) (pe_call GU hr (by rfl) TU.gXRule TU.FXRule.kp TU.bXRule .nil pass0 (pa_cons (pv 1) (pa_cons (pv 3) (pa_cons pe_int pa_nil)))))
 (Evl.pss_cut (ps_par (i := 5) (j := 6) (by rfl) scLaw.nd rfl rfl (by decide) rfl rfl (pa_cons (pe_call GX hr (by rfl) TX.gXText TX.FXText.kp TX.bXText .nil pass0 (pa_cons (pv 1) (pa_cons (pv 3) (pa_cons pe_int pa_nil)))) (pa_cons (pe_call GX hr (by rfl) TX.gXText TX.FXText.kp TX.bXText .nil pass0 (pa_cons (pv 1) (pa_cons (pv 3) (pa_cons pe_int pa_nil)))) pa_nil)) (by rfl))
 (Evl.pss_cut (ps_if (pt_cmpR op_eq (pe_call GT hr (by rfl) TP.gTake TP.FTake.kp TP.bTake .nil pass0 (pa_cons (pv 1) (pa_cons pe_int pa_nil))) pe_int (nomark _)) (pss_one (ps_asg (pe_call GR hr (by rfl) TR.gXRow TR.FXRow.kp TR.bXRow .nil pass0 (pa_cons (pv 1) (pa_cons (pv 4) (pa_cons pe_int (pa_cons pe_int pa_nil))))) (pg_tup rfl (pgs_cons (pg_name (i := 5) scLaw.nd rfl (.inl rfl)) (pgs_cons (pg_name (i := 6) scLaw.nd rfl (.inl rfl)) pgs_nil))))) pss_nil)
 (Evl.pss_cut (ps_if (pt_cmpR op_eq (pe_call GT hr (by rfl) TP.gTake TP.FTake.kp TP.bTake .nil pass0 (pa_cons (pv 1) (pa_cons pe_int pa_nil))) pe_int (nomark _)) (pss_one (ps_asg (pe_call GG hr (by rfl) TX.gXLong TX.FXLong.kp TX.bXLong .nil pass0 (pa_cons (pv 1) (pa_cons (pv 4) pa_nil))) (pg_tup rfl (pgs_cons (pg_name (i := 5) scLaw.nd rfl (.inl rfl)) (pgs_cons (pg_name (i := 6) scLaw.nd rfl (.inl rfl)) pgs_nil))))) pss_nil)
 (Evl.pss_cut (ps_set (i := 7) scLaw.nd rfl (.inl rfl) (pe_callB (call_reprD hgd hu) (by rfl) T.repr (by decide +kernel) (pa_cons (pe_tup (pa_cons (pv 4) (pa_cons (pv 5) (pa_cons (pv 6) pa_nil)))) pa_nil)))
 (Evl.pss_cut (ps_set (i := 8) scLaw.nd rfl (.inl rfl) (pe_cmpR op_notN (pe_call GB hr (by rfl) TB.gXBehind TB.FXBehind.kp TB.bXBehind .nil pass0 (pa_cons (pv 4) (pa_cons pe_int (pa_cons (pv 5) pa_nil)))) pe_non (nomark _)))
 (Evl.pss_cut (ps_if (pt_cmpR op_ne (pe_callB (call_reprD hgd hu) (by rfl) T.repr (by decide +kernel) (pa_cons (pe_lst (pa_cons (pe_call GI hr (by rfl) TI.gIsOf TI.FIsOf.kp bIs vIs passL (pa_cons (pv 4) (pa_cons (pv 5) pa_nil))) (pa_cons (pe_callN GI hr (by rfl) TI.gIsOf TI.FIsOf.kp (isof_kbinds TI.FIsOf) passL (pa_cons (pv 4) (pa_cons (pv 5) pa_nil)) (pk_cons pe_non pk_nil)) pa_nil))) pa_nil)) (pe_callB (call_reprD hgd hu) (by rfl) T.repr (by decide +kernel) (pa_cons (pe_lst (pa_cons (pv 8) (pa_cons (pv 8) pa_nil))) pa_nil)) (nomark _)) (pss_one (ps_ret pe_bl)) pss_nil)
 (Evl.pss_cut (ps_set (i := 9) scLaw.nd rfl (.inl rfl) (pe_ifExp (pt_cmpR op_eq (pv 6) pe_str (nomark _)) (pv 3) (pv 6)))
 (Evl.pss_cut (ps_set (i := 10) scLaw.nd rfl (.inl rfl) (pe_callN GI hr (by rfl) TI.gIsOf TI.FIsOf.kp (isof_kbinds TI.FIsOf) passL (pa_cons (pv 4) (pa_cons (pv 5) pa_nil)) (pk_cons (pv 9) pk_nil)))
 (Evl.pss_cut (ps_if (pt_cmpR op_ne (pe_callB (call_reprD hgd hu) (by rfl) T.repr (by decide +kernel) (pa_cons (pv 10) pa_nil)) (pe_callB (call_reprD hgd hu) (by rfl) T.repr (by decide +kernel) (pa_cons (pe_call GS hr (by rfl) TB.gXIsOf TB.FXIsOf.kp TB.bXIsOf .nil pass0 (pa_cons (pv 4) (pa_cons (pe_tup (pa_cons (pv 5) (pa_cons (pv 9) pa_nil))) pa_nil))) pa_nil)) (nomark _)) (pss_one (ps_ret pe_bl)) pss_nil)
 (Evl.pss_cut (ps_if (pt_cmpR op_ne (pe_callB (call_reprD hgd hu) (by rfl) T.repr (by decide +kernel) (pa_cons (pe_callN GI hr (by rfl) TI.gIsOf TI.FIsOf.kp (isof_kbinds TI.FIsOf) passL (pa_cons (pv 4) (pa_cons (pv 5) pa_nil)) (pk_cons (pv 3) pk_nil)) pa_nil)) (pe_callB (call_reprD hgd hu) (by rfl) T.repr (by decide +kernel) (pa_cons (pe_call GS hr (by rfl) TB.gXIsOf TB.FXIsOf.kp TB.bXIsOf .nil pass0 (pa_cons (pv 4) (pa_cons (pe_tup (pa_cons (pv 5) (pa_cons (pv 3) pa_nil))) pa_nil))) pa_nil)) (nomark _)) (pss_one (ps_ret pe_bl)) pss_nil)
 (pss_one (ps_if (PW.pt (pw_or (pt_cmpR op_ne (pe_callB (call_reprD hgd hu) (by rfl) T.repr (by decide +kernel) (pa_cons (pe_tup (pa_cons (pv 4) (pa_cons (pv 5) (pa_cons (pv 6) pa_nil)))) pa_nil)) (pv 7) (nomark _)) (pw_or1 (pt_not (pt_val (pe_call GF hr (by rfl) TF.gRef TF.FRef.kp TF.bRef .nil pass0 (pa_cons (pv 1) (pa_cons (pv 4) pa_nil)))))))) (pss_one (ps_ret pe_bl)) pss_nil)))))))))))))))
 (pss_one (ps_ret pe_bl)))), ?_⟩
    refine ⟨_, rfl, a, ns, rfl, hS, hl63, fun H0 p s0 np hP0 => ?_⟩
    have hT0 : LamX.Tabs [(PT, qRef)] H0 := fun x hx => by
      rw [List.mem_singleton.mp hx]
      exact LamX.TabS.nil (s0 _ _ hT)
    refine ⟨6, rfl, by decide, by decide, for_range (lo := 0) (n := 6) (fun i σ H' => ∃ v_letters v_rule v_word v_loop v_kept v_due v_circle v_found : Option V, ∃ v2 : Option V, σ = [some (.ref a), some (.ref p), v2, v_letters, v_rule, v_word, v_loop, v_kept, v_due, v_circle, v_found] ∧ Pen H' p (145 * i) ∧ LamX.Tabs [(PT, qRef)] H')
      ⟨none, none, none, none, none, none, none, none, none, rfl, hP0, hT0⟩ ?_ ?_⟩
    · rintro i σ H hi ⟨v_letters, v_rule, v_word, v_loop, v_kept, v_due, v_circle, v_found, v2, rfl, hP, hT⟩
      refine ⟨fun σ H' => ∃ z : Str, σ = [some (.ref a), some (.ref p), some (.int (0 + (i : Int))), some (.str z), v_rule, v_word, v_loop, v_kept, v_due, v_circle, v_found] ∧ Pen H' p (145 * i + 4) ∧ LamX.Tabs [(PT, qRef)] H' ∧ lettersL z.cps.toList = true, ?_, ?_⟩
      · exact ⟨_, rfl, p, _, rfl, hP, by omega, fun H1 z b1 hP1 hl => ⟨z, rfl, hP1, tabs_pen hT hP b1, hl⟩⟩
      rintro σ H ⟨z, rfl, hP, hT, hl⟩
      refine ⟨fun σ H' => ∃ (t : Addr) (ss : List PyData), σ = [some (.ref a), some (.ref p), some (.int (0 + (i : Int))), some (.str z), some (.ref t), v_word, v_loop, v_kept, v_due, v_circle, v_found] ∧ Pen H' p (145 * i + 49) ∧ LamX.Tabs [(PT, qRef)] H' ∧ Rs p K H' (.ref t) (.tuple [.str z, .tuple ss]) ∧ rulD (.tuple [.str z, .tuple ss]) = true, ?_, ?_⟩
      · exact ⟨_, rfl, _, rfl, p, _, z, 4, rfl, hP, by omega, hl, by decide, by decide, fun H1 t ss b1 hP1 hR hrl => ⟨t, ss, rfl, hP1, tabs_pen hT hP b1, hR, hrl⟩⟩
      rintro σ H ⟨t, ss, rfl, hP, hT, hR, hrl⟩
      have z3 : z.length ≤ 3 := z_len hl
      have zp := letters_pos hl
      refine ⟨fun σ H' => ∃ (wd lp : Str), σ = [some (.ref a), some (.ref p), some (.int (0 + (i : Int))), some (.str z), some (.ref t), some (.str wd), some (.str lp), v_kept, v_due, v_circle, v_found] ∧ Pen H' p (145 * i + 61) ∧ LamX.Tabs [(PT, qRef)] H' ∧ Rs p K H' (.ref t) (.tuple [.str z, .tuple ss]) ∧ wd.length ≤ 1500 ∧ lp.length ≤ 1500 ∧ (∀ c ∈ wd.cps.toList, c ∈ z.cps.toList) ∧ (∀ c ∈ lp.cps.toList, c ∈ z.cps.toList), ?_, ?_⟩
      · obtain ⟨c, hPc⟩ := hP.at
        refine ⟨_, rfl, _, rfl, p, c, _, z, 6, rfl, hPc, by omega, hl, by decide, by decide, fun H1 y1' b1 hP1 l1 m1' => ?_⟩
        refine ⟨_, rfl, _, rfl, p, c, _, z, 4, rfl, hP1, by omega, hl, by decide, by decide, fun H2 y2' b2 hP2 l2 m2' => ?_⟩
        exact ⟨_, _, rfl, y1', y2', rfl, hP2.pen, tabs_pen (tabs_pen hT hP b1) hP1.pen b2, hR.go (butN_but (b1.trans b2)), by omega, by omega, m1', m2'⟩
      rintro σ H ⟨wd, lp, rfl, hP, hT, hR, lw, ll, mw, ml⟩
      refine ⟨fun σ H' => ∃ (wd lp : Str), σ = [some (.ref a), some (.ref p), some (.int (0 + (i : Int))), some (.str z), some (.ref t), some (.str wd), some (.str lp), v_kept, v_due, v_circle, v_found] ∧ Pen H' p (145 * i + 92) ∧ LamX.Tabs [(PT, qRef)] H' ∧ Rs p K H' (.ref t) (.tuple [.str z, .tuple ss]) ∧ wd.length ≤ 1500 ∧ lp.length ≤ 1500 ∧ (∀ c ∈ wd.cps.toList, c ∈ z.cps.toList) ∧ (∀ c ∈ lp.cps.toList, c ∈ z.cps.toList), ?_, ?_⟩
      · refine ⟨_, rfl, p, 2, _, rfl, hP, by omega, by decide, by decide, fun H1 k1 b1 hP1 k10 k11 => ⟨rfl, _, rfl, ite2 (fun _ => ?_) (fun _ => ?_)⟩⟩
        · obtain ⟨c, hPc⟩ := hP1.at
          refine ⟨_, rfl, _, rfl, p, c, _, .ref t, z, ss, 0, 6, rfl, hPc, by omega, hR.go (butN_but b1), hrl, by decide, by have := (rul_of (L := z.cps.toList) hrl).2.1; omega, by decide, by decide, fun H2 tt b r b2 hP2 ht nt l1 l2 mb mr => ?_⟩
          exact ⟨tt, _, rfl, SqT.of ht, rfl, _, _, rfl, _, _, rfl, rfl, b, r, rfl, hP2.pen, tabs_pen (tabs_pen hT hP b1) hP1 b2, hR.go (butN_but (b1.trans b2)), by omega, by omega, mb, mr⟩
        · exact ⟨wd, lp, rfl, hP1.mono (by omega), tabs_pen hT hP b1, hR.go (butN_but b1), lw, ll, mw, ml⟩
      clear lw ll mw ml
      rintro σ H ⟨wd, lp, rfl, hP, hT, hR, lw, ll, mw, ml⟩
      refine ⟨fun σ H' => ∃ (wd lp : Str), σ = [some (.ref a), some (.ref p), some (.int (0 + (i : Int))), some (.str z), some (.ref t), some (.str wd), some (.str lp), v_kept, v_due, v_circle, v_found] ∧ Pen H' p (145 * i + 133) ∧ LamX.Tabs [(PT, qRef)] H' ∧ Rs p K H' (.ref t) (.tuple [.str z, .tuple ss]) ∧ wd.length ≤ 1500 ∧ lp.length ≤ 1500 ∧ (∀ c ∈ wd.cps.toList, c ∈ z.cps.toList) ∧ (∀ c ∈ lp.cps.toList, c ∈ z.cps.toList), ?_, ?_⟩
      · refine ⟨_, rfl, p, 5, _, rfl, hP, by omega, by decide, by decide, fun H1 k1 b1 hP1 k10 k11 => ⟨rfl, _, rfl, ite2 (fun _ => ?_) (fun _ => ?_)⟩⟩
        · obtain ⟨c, hPc⟩ := hP1.at
          refine ⟨_, rfl, _, rfl, p, c, _, .ref t, z, ss, rfl, hPc, by omega, hR.go (butN_but b1), hrl, fun H2 tt b r b2 hP2 ht nt l1 l2 l3 mb mr => ?_⟩
          exact ⟨tt, _, rfl, SqT.of ht, rfl, _, _, rfl, _, _, rfl, rfl, b, r, rfl, hP2.pen, tabs_pen (tabs_pen hT hP b1) hP1 b2, hR.go (butN_but (b1.trans b2)), l1, l3, mb, mr⟩
        · exact ⟨wd, lp, rfl, hP1.mono (by omega), tabs_pen hT hP b1, hR.go (butN_but b1), lw, ll, mw, ml⟩
      clear lw ll mw ml
      rintro σ H ⟨wd, lp, rfl, hP, hT, hR, lw, ll, mw, ml⟩
      have f0 : Fit ss (some 0) := fun i hi => by
        cases hi
        exact ⟨by decide, by have := (rul_of (L := z.cps.toList) hrl).2.1; omega⟩
      have big : ∀ {m : Nat}, m ≤ 1500 → m ≤ sizeLine := fun h => Nat.le_trans h (by decide)
      have hls := letters_small hl
      have smR := sm_rule hrl
      have smD : Sm 4 (3 * (100000 + 1)) (.tuple [.tuple [.str z, .tuple ss], .str wd, .str lp]) := sm_tup (D := 3) (W := 100000) (n := 3) (fun d hd => by
        simp only [List.mem_cons, List.not_mem_nil, or_false] at hd
        rcases hd with rfl | rfl | rfl
        · exact smR
        · exact (sm_str (fun c hc => hls c (mw c hc)) lw).mono (by decide) (by decide)
        · exact (sm_str (fun c hc => hls c (ml c hc)) ll).mono (by decide) (by decide)) (by simp)
      have txw := txt_ok mw lw
      have smB : ∀ b1 b2 : Bool, Sm 1 (2 * (0 + 1)) (.list [.bool b1, .bool b2]) := fun b1 b2 => sm_lst (D := 0) (W := 0) (n := 2) (fun d hd => by
        simp only [List.mem_cons, List.not_mem_nil, or_false] at hd
        rcases hd with rfl | rfl <;> exact sm_bl _) (by simp)
      obtain ⟨KEPT, hK⟩ : ∃ k : Str, k = PyData.shown (.tuple [.tuple [.str z, .tuple ss], .str wd, .str lp]) := ⟨_, rfl⟩
      refine ⟨fun σ H' => σ = [some (.ref a), some (.ref p), some (.int (0 + (i : Int))), some (.str z), some (.ref t), some (.str wd), some (.str lp), some (.str KEPT), v_due, v_circle, v_found] ∧ Pen H' p (145 * i + 133) ∧ LamX.Tabs [(PT, qRef)] H' ∧ Rs p K H' (.ref t) (.tuple [.str z, .tuple ss]), ?_, ?_⟩
      · refine ⟨_, rfl, _, rfl, _, rfl, (by show 3 ≤ sizeLine; decide), fun t3 h3 => ?_⟩
        have x3 := same_upd (o := HO.tup [V.ref t, .str wd, .str lp]) h3
        have rp3 : Rp K (upd H t3 (.tup [V.ref t, .str wd, .str lp])) (.ref t3) (.tuple [.tuple [.str z, .tuple ss], .str wd, .str lp]) := .tup (SqT.of upd_same) (.cons ((hR.go (butN_same x3)).rp) (.cons (.str _ (big lw)) (.cons (.str _ (big ll)) .nil)))
        refine ⟨_, _, rfl, rp3.dp smD.nd, smD.sh, Nat.le_trans smD.dp (by decide), smD.fits (by decide), ?_⟩
        exact ⟨by rw [hK]; rfl, hP.same x3, tabs_same hT x3, hR.go (butN_same x3)⟩
      rintro σ H ⟨rfl, hP, hT, hR⟩
      refine ⟨fun σ H' => σ = [some (.ref a), some (.ref p), some (.int (0 + (i : Int))), some (.str z), some (.ref t), some (.str wd), some (.str lp), some (.str KEPT), some (.bl (behind z.cps.toList ss (some 0) wd.cps.toList).isSome), v_circle, v_found] ∧ Pen H' p (145 * i + 133) ∧ LamX.Tabs [(PT, qRef)] H' ∧ Rs p K H' (.ref t) (.tuple [.str z, .tuple ss]), ?_, ?_⟩
      · refine ⟨_, rfl, _, rfl, .ref t, z, wd, ss, some 0, rfl, hR.rp, hrl, f0, mw, rfl, ?_⟩
        exact ⟨by rw [← stV_some]; rfl, hP, hT, hR⟩
      rintro σ H ⟨rfl, hP, hT, hR⟩
      have isr : ∀ {H' : Hp}, Same H H' → Rp K H' (.ref t) (.tuple [.str z, .tuple ss]) := fun s => (hR.go (butN_same s)).rp
      refine ⟨fun σ H' => σ = [some (.ref a), some (.ref p), some (.int (0 + (i : Int))), some (.str z), some (.ref t), some (.str wd), some (.str lp), some (.str KEPT), some (.bl (behind z.cps.toList ss (some 0) wd.cps.toList).isSome), v_circle, v_found] ∧ Pen H' p (145 * i + 133) ∧ LamX.Tabs [(PT, qRef)] H' ∧ Rs p K H' (.ref t) (.tuple [.str z, .tuple ss]), ?_, ?_⟩
      · refine ⟨_, rfl, _, rfl, .ref t, .str wd, .non, _, .str wd, .none, rfl, isr (Same.refl H), .str _ (big lw), .non, .inr ⟨z, ss, rfl, hrl, .inr ⟨wd, rfl, txw, .inl ⟨rfl, fun H1 s1 => ?_⟩⟩⟩⟩
        refine ⟨_, rfl, _, rfl, rfl, rfl, .ref t, .str wd, .non, _, .str wd, .none, rfl, isr s1, .str _ (big lw), .non, .inr ⟨z, ss, rfl, hrl, .inr ⟨wd, rfl, txw, .inl ⟨rfl, fun H2 s2 => ?_⟩⟩⟩⟩
        refine ⟨(by show 2 ≤ sizeLine; decide), fun l1 hl1 => ⟨_, _, rfl, (Rp.lst (SqL.of upd_same) (.cons (.bl _) (.cons (.bl _) .nil))).dp (smB _ _).nd, (smB _ _).sh, Nat.le_trans (smB _ _).dp (by decide), (smB _ _).fits (by decide), ?_⟩⟩
        refine ⟨_, rfl, _, rfl, (by show 2 ≤ sizeLine; decide), fun l2 hl2 => ⟨_, _, rfl, (Rp.lst (SqL.of upd_same) (.cons (.bl _) (.cons (.bl _) .nil))).dp (smB _ _).nd, (smB _ _).sh, Nat.le_trans (smB _ _).dp (by decide), (smB _ _).fits (by decide), ?_⟩⟩
        have sm := ((s1.trans s2).trans (same_upd hl1)).trans (same_upd (o := HO.lst [.bl (behind z.cps.toList ss (some 0) wd.cps.toList).isSome, .bl (behind z.cps.toList ss (some 0) wd.cps.toList).isSome]) hl2)
        exact ⟨rfl, false, neSE rfl, iteF ⟨rfl, hP.same sm, tabs_same hT sm, hR.go (butN_same sm)⟩⟩
      rintro σ H ⟨rfl, hP, hT, hR⟩
      have isr : ∀ {H' : Hp}, Same H H' → Rp K H' (.ref t) (.tuple [.str z, .tuple ss]) := fun s => (hR.go (butN_same s)).rp
      refine ⟨fun σ H' => ∃ (cz : Str), σ = [some (.ref a), some (.ref p), some (.int (0 + (i : Int))), some (.str z), some (.ref t), some (.str wd), some (.str lp), some (.str KEPT), some (.bl (behind z.cps.toList ss (some 0) wd.cps.toList).isSome), some (.str cz), v_found] ∧ Pen H' p (145 * i + 133) ∧ LamX.Tabs [(PT, qRef)] H' ∧ Rs p K H' (.ref t) (.tuple [.str z, .tuple ss]) ∧ 0 < cz.length ∧ cz.length ≤ 1500 ∧ (∀ c ∈ cz.cps.toList, c ∈ z.cps.toList), ?_, ?_⟩
      · refine ⟨_, rfl, rfl, _, rfl, ite2 (fun _ => ?_) (fun e => ?_)⟩
        · exact ⟨_, rfl, z, rfl, hP, hT, hR, zp, by omega, fun c hc => hc⟩
        · refine ⟨_, rfl, lp, rfl, hP, hT, hR, ?_, ll, ml⟩
          rcases Nat.eq_zero_or_pos lp.length with h0 | h0
          · exact absurd (decide_eq_true (congrArg V.str (str_nil h0))) e
          · exact h0
      rintro σ H ⟨cz, rfl, hP, hT, hR, c0, c1, mc⟩
      have isr : ∀ {H' : Hp}, Same H H' → Rp K H' (.ref t) (.tuple [.str z, .tuple ss]) := fun s => (hR.go (butN_same s)).rp
      have fb := fit_behind (L := z.cps.toList) hrl wd.cps.toList f0
      have ringOk : ∀ {y : Str}, (∀ c ∈ y.cps.toList, c ∈ z.cps.toList) → y.length ≤ 1500 → 0 < y.length → ringD z.cps.toList (.str y) = true := fun {y} h1 h2 h3 => by
        rw [ringD, txt_ok h1 h2, show lenD (.str y) = y.length from rfl, decide_eq_false (by omega)]
        rfl
      refine ⟨fun σ H' => σ = [some (.ref a), some (.ref p), some (.int (0 + (i : Int))), some (.str z), some (.ref t), some (.str wd), some (.str lp), some (.str KEPT), some (.bl (behind z.cps.toList ss (some 0) wd.cps.toList).isSome), some (.str cz), some (.bl (turns z.cps.toList ss cz.cps.toList ss.length (behind z.cps.toList ss (some 0) wd.cps.toList)).isSome)] ∧ Pen H' p (145 * i + 133) ∧ LamX.Tabs [(PT, qRef)] H' ∧ Rs p K H' (.ref t) (.tuple [.str z, .tuple ss]), ?_, ?_⟩
      · refine ⟨_, rfl, _, rfl, _, rfl, rfl, rfl, .ref t, .str wd, .str cz, _, .str wd, .str cz, rfl, isr (Same.refl H), .str _ (big lw), .str _ (big c1), .inr ⟨z, ss, rfl, hrl, .inr ⟨wd, rfl, txw, .inr ⟨cz, rfl, ringOk mc c1 c0, fun H1 s1 => ?_⟩⟩⟩⟩
        exact ⟨rfl, hP.same s1, tabs_same hT s1, hR.go (butN_same s1)⟩
      rintro σ H ⟨rfl, hP, hT, hR⟩
      have isr : ∀ {H' : Hp}, Same H H' → Rp K H' (.ref t) (.tuple [.str z, .tuple ss]) := fun s => (hR.go (butN_same s)).rp
      refine ⟨fun σ H' => σ = [some (.ref a), some (.ref p), some (.int (0 + (i : Int))), some (.str z), some (.ref t), some (.str wd), some (.str lp), some (.str KEPT), some (.bl (behind z.cps.toList ss (some 0) wd.cps.toList).isSome), some (.str cz), some (.bl (turns z.cps.toList ss cz.cps.toList ss.length (behind z.cps.toList ss (some 0) wd.cps.toList)).isSome)] ∧ Pen H' p (145 * i + 133) ∧ LamX.Tabs [(PT, qRef)] H' ∧ Rs p K H' (.ref t) (.tuple [.str z, .tuple ss]), ?_, ?_⟩
      · refine ⟨_, rfl, _, _, rfl, .bl _, (sm_bl _).sh, Nat.le_trans (sm_bl _).dp (by decide), (sm_bl _).fits (by decide), _, rfl, _, rfl, _, rfl, (by show 2 ≤ sizeLine; decide), fun tt htt => ?_⟩
        have xt := same_upd (o := HO.tup [V.str wd, .str cz]) htt
        refine ⟨.ref t, .ref tt, z, wd, cz, ss, rfl, isr xt, hrl, .tup (SqT.of upd_same) (.cons (.str _ (big lw)) (.cons (.str _ (big c1)) .nil)), mw, mc, _, _, rfl, .bl _, (sm_bl _).sh, Nat.le_trans (sm_bl _).dp (by decide), (sm_bl _).fits (by decide), ?_⟩
        exact ⟨rfl, false, neSE (by rw [turns_five hrl cz.cps.toList fb]), iteF ⟨rfl, hP.same xt, tabs_same hT xt, hR.go (butN_same xt)⟩⟩
      rintro σ H ⟨rfl, hP, hT, hR⟩
      have isr : ∀ {H' : Hp}, Same H H' → Rp K H' (.ref t) (.tuple [.str z, .tuple ss]) := fun s => (hR.go (butN_same s)).rp
      refine ⟨fun σ H' => σ = [some (.ref a), some (.ref p), some (.int (0 + (i : Int))), some (.str z), some (.ref t), some (.str wd), some (.str lp), some (.str KEPT), some (.bl (behind z.cps.toList ss (some 0) wd.cps.toList).isSome), some (.str cz), some (.bl (turns z.cps.toList ss cz.cps.toList ss.length (behind z.cps.toList ss (some 0) wd.cps.toList)).isSome)] ∧ Pen H' p (145 * i + 133) ∧ LamX.Tabs [(PT, qRef)] H' ∧ Rs p K H' (.ref t) (.tuple [.str z, .tuple ss]), ?_, ?_⟩
      · refine ⟨_, rfl, _, rfl, _, rfl, rfl, rfl, .ref t, .str wd, .str z, _, .str wd, .str z, rfl, isr (Same.refl H), .str _ (big lw), .str _ (big (by omega)), .inr ⟨z, ss, rfl, hrl, .inr ⟨wd, rfl, txw, .inr ⟨z, rfl, ringOk (fun c hc => hc) (by omega) zp, fun H1 s1 => ?_⟩⟩⟩⟩
        refine ⟨_, _, rfl, .bl _, (sm_bl _).sh, Nat.le_trans (sm_bl _).dp (by decide), (sm_bl _).fits (by decide), _, rfl, _, rfl, _, rfl, (by show 2 ≤ sizeLine; decide), fun tt htt => ?_⟩
        have xt := s1.trans (same_upd (o := HO.tup [V.str wd, .str z]) htt)
        refine ⟨.ref t, .ref tt, z, wd, z, ss, rfl, isr xt, hrl, .tup (SqT.of upd_same) (.cons (.str _ (big lw)) (.cons (.str _ (big (by omega))) .nil)), mw, fun c hc => hc, _, _, rfl, .bl _, (sm_bl _).sh, Nat.le_trans (sm_bl _).dp (by decide), (sm_bl _).fits (by decide), ?_⟩
        exact ⟨rfl, false, neSE (by rw [turns_five hrl z.cps.toList fb]), iteF ⟨rfl, hP.same xt, tabs_same hT xt, hR.go (butN_same xt)⟩⟩
      rintro σ H ⟨rfl, hP, hT, hR⟩
      refine ⟨_, rfl, _, rfl, _, rfl, (by show 3 ≤ sizeLine; decide), fun t3 h3 => ?_⟩
      have x3 := same_upd (o := HO.tup [V.ref t, .str wd, .str lp]) h3
      have rp3 : Rp K (upd H t3 (.tup [V.ref t, .str wd, .str lp])) (.ref t3) (.tuple [.tuple [.str z, .tuple ss], .str wd, .str lp]) := .tup (SqT.of upd_same) (.cons ((hR.go (butN_same x3)).rp) (.cons (.str _ (big lw)) (.cons (.str _ (big ll)) .nil)))
      refine ⟨_, _, rfl, rp3.dp smD.nd, smD.sh, Nat.le_trans smD.dp (by decide), smD.fits (by decide), ?_⟩
      refine ⟨_, rfl, rfl, false, neSE hK.symm, iteF ?_⟩
      obtain ⟨c, hPc⟩ := (hP.same x3).at
      refine ⟨_, rfl, _, rfl, p, c, _, .ref t, z, ss, rfl, hPc, by omega, hR.go (butN_same x3), hrl, tabs_same hT x3, fun H1 b1 hP1 hT1 => ⟨true, rfl, iteF ?_⟩⟩
      exact ⟨_, _, _, _, _, _, _, _, _, rfl, hP1.pen.mono (by omega), hT1⟩
    · rintro σ H ⟨v_letters, v_rule, v_word, v_loop, v_kept, v_due, v_circle, v_found, v2, rfl, hP, hT⟩
      exact q H
end
end My
/-! ### what the top has written, the head -/
namespace My
open PySem PySem.Spec PyProof.Rows L2
theorem excF_of {K : PySem.W.Frag} {mg : Str → Option Value} {x : Str} {D : Addr} (g : mg x = some (.ref D)) (h : mkFacts K D = true) : ExcF K mg x D := by
  unfold mkFacts at h
  simp only [Bool.and_eq_true, beq_iff_eq] at h
  exact ⟨g, h.1, h.2.1, h.2.2.1, h.2.2.2.1⟩
theorem all_mk {l : PySem.W.OpenLaw} {w : World} {K : PySem.W.Frag} {h : Heap} {mg : Str → Option Value} {fa C0 C1 C2 C3 C4 C5 C6 C7 C8 C9 C10 C11 CL cL PT DK : Addr} {eC : Value} {ddC : Option Addr} {vsC : Array Value} {slC : Array (Option Value)} {t1 t2 t6 : Tok} {f1 f2 f3 f4 f5 f6 f7 f8 f9 f10 f11 f12 f13 f14 f15 f16 f17 f18 f19 f20 f21 f22 f23 f24 f25 f26 : Addr} {od1 od2 od3 od4 od5 od6 od7 od8 od9 od10 od11 od12 od13 od14 od15 od16 od17 od18 od19 od20 od21 od22 od23 od24 od25 od26 an1 an2 an3 an4 an5 an6 an7 an8 an9 an10 an11 an12 an13 an14 an15 an16 an17 an18 an19 an20 an21 an22 an23 an24 an25 an26 : Option Addr} {sl1 sl2 sl3 sl4 sl5 sl6 sl7 sl8 sl9 sl10 sl11 sl12 sl13 sl14 sl15 sl16 sl17 sl18 sl19 sl20 sl21 sl22 sl23 sl24 sl25 sl26 : Array (Option Value)} {oc1 oc2 oc3 oc4 oc5 oc6 oc7 oc8 oc9 oc10 oc11 oc12 oc13 oc14 oc15 oc16 oc17 oc18 oc19 oc20 oc21 oc22 oc23 oc24 oc25 oc26 kV1 kV2 kV3 kV4 kV5 kV6 kV7 kV8 kV9 kV10 kV11 kV12 kV13 kV14 kV15 kV16 kV17 kV18 kV19 kV20 kV21 kV22 kV23 kV24 kV25 kV26 dc1 dc2 dc3 dc4 dc5 dc6 dc7 dc8 dc9 dc10 dc11 dc12 dc13 dc14 dc15 dc16 dc17 dc18 dc19 dc20 dc21 dc22 dc23 dc24 dc25 dc26 pm1 pm2 pm3 pm4 pm5 pm6 pm7 pm8 pm9 pm10 pm11 pm12 pm13 pm14 pm15 pm16 pm17 pm18 pm19 pm20 pm21 pm22 pm23 pm24 pm25 pm26 cd1 cd2 cd3 cd4 cd5 cd6 cd7 cd8 cd9 cd10 cd11 cd12 cd13 cd14 cd15 cd16 cd17 cd18 cd19 cd20 cd21 cd22 cd23 cd24 cd25 cd26 ct1 ct2 ct3 ct4 ct5 ct6 ct7 ct8 ct9 ct10 ct11 ct12 ct13 ct14 ct15 ct16 ct17 ct18 ct19 ct20 ct21 ct22 ct23 ct24 ct25 ct26 : Value}
    (X : K.In h) (G : h.Ns mainGlobals mg) (hfa : mg "law" = some (.ref fa)) (own : ∀ fy : Addr, mg "_law_x_refused_right" = some (.ref fy) → LamX.OwnTab K fy h)
    (a1 : PySem.W.nsIn K mainGlobals "_law_spread" = some (some (.ref f1)))
    (l1 : K.lookup f1 = some ⟨oc1, od1, .func (PySem.W.fnOf "_law_spread" "_law_spread" (defArgs sSpread) (defBody sSpread) (defScope sSpread) .none kV1 dc1 pm1 an1 cd1 ct1), sl1⟩)
    (c1 : PySem.W.codeIn K cd1 "_law_spread" = true) (k1 : PySem.W.keepIn K (.ref f1) = true)
    (a2 : PySem.W.nsIn K mainGlobals "_law_open" = some (some (.ref f2)))
    (l2 : K.lookup f2 = some ⟨oc2, od2, .func (PySem.W.fnOf "_law_open" "_law_open" (defArgs sOpen) (defBody sOpen) (defScope sOpen) .none kV2 dc2 pm2 an2 cd2 ct2), sl2⟩)
    (c2 : PySem.W.codeIn K cd2 "_law_open" = true) (k2 : PySem.W.keepIn K (.ref f2) = true)
    (a3 : PySem.W.nsIn K mainGlobals "_law_take" = some (some (.ref f3)))
    (l3 : K.lookup f3 = some ⟨oc3, od3, .func (PySem.W.fnOf "_law_take" "_law_take" (defArgs sTake) (defBody sTake) (defScope sTake) .none kV3 dc3 pm3 an3 cd3 ct3), sl3⟩)
    (c3 : PySem.W.codeIn K cd3 "_law_take" = true) (k3 : PySem.W.keepIn K (.ref f3) = true)
    (a4 : PySem.W.nsIn K mainGlobals "_law_x_pick" = some (some (.ref f4)))
    (l4 : K.lookup f4 = some ⟨oc4, od4, .func (PySem.W.fnOf "_law_x_pick" "_law_x_pick" (defArgs sPick) (defBody sPick) (defScope sPick) .none kV4 dc4 pm4 an4 cd4 ct4), sl4⟩)
    (c4 : PySem.W.codeIn K cd4 "_law_x_pick" = true) (k4 : PySem.W.keepIn K (.ref f4) = true)
    (a5 : PySem.W.nsIn K mainGlobals "is_whole" = some (some (.ref f5)))
    (l5 : K.lookup f5 = some ⟨oc5, od5, .func (PySem.W.fnOf "is_whole" "is_whole" (defArgs sWhole) (defBody sWhole) (defScope sWhole) .none kV5 dc5 pm5 an5 cd5 ct5), sl5⟩)
    (c5 : PySem.W.codeIn K cd5 "is_whole" = true) (k5 : PySem.W.keepIn K (.ref f5) = true)
    (a6 : PySem.W.nsIn K mainGlobals "is_between" = some (some (.ref f6)))
    (l6 : K.lookup f6 = some ⟨oc6, od6, .func (PySem.W.fnOf "is_between" "is_between" (defArgs sBetween) (defBody sBetween) (defScope sBetween) .none kV6 dc6 pm6 an6 cd6 ct6), sl6⟩)
    (c6 : PySem.W.codeIn K cd6 "is_between" = true) (k6 : PySem.W.keepIn K (.ref f6) = true)
    (a7 : PySem.W.nsIn K mainGlobals "is_tuple" = some (some (.ref f7)))
    (l7 : K.lookup f7 = some ⟨oc7, od7, .func (PySem.W.fnOf "is_tuple" "is_tuple" (defArgs sTuple) (defBody sTuple) (defScope sTuple) .none kV7 dc7 pm7 an7 cd7 ct7), sl7⟩)
    (c7 : PySem.W.codeIn K cd7 "is_tuple" = true) (k7 : PySem.W.keepIn K (.ref f7) = true)
    (a8 : PySem.W.nsIn K mainGlobals "is_letters" = some (some (.ref f8)))
    (l8 : K.lookup f8 = some ⟨oc8, od8, .func (PySem.W.fnOf "is_letters" "is_letters" (defArgs sLetters) (defBody sLetters) (defScope sLetters) .none kV8 dc8 pm8 an8 cd8 ct8), sl8⟩)
    (c8 : PySem.W.codeIn K cd8 "is_letters" = true) (k8 : PySem.W.keepIn K (.ref f8) = true)
    (a9 : PySem.W.nsIn K mainGlobals "is_way_on" = some (some (.ref f9)))
    (l9 : K.lookup f9 = some ⟨oc9, od9, .func (PySem.W.fnOf "is_way_on" "is_way_on" (defArgs sWayOn) (defBody sWayOn) (defScope sWayOn) .none kV9 dc9 pm9 an9 cd9 ct9), sl9⟩)
    (c9 : PySem.W.codeIn K cd9 "is_way_on" = true) (k9 : PySem.W.keepIn K (.ref f9) = true)
    (a10 : PySem.W.nsIn K mainGlobals "is_table" = some (some (.ref f10)))
    (l10 : K.lookup f10 = some ⟨oc10, od10, .func (PySem.W.fnOf "is_table" "is_table" (defArgs sTable) (defBody sTable) (defScope sTable) .none kV10 dc10 pm10 an10 cd10 ct10), sl10⟩)
    (c10 : PySem.W.codeIn K cd10 "is_table" = true) (k10 : PySem.W.keepIn K (.ref f10) = true)
    (a11 : PySem.W.nsIn K mainGlobals "is_rule" = some (some (.ref f11)))
    (l11 : K.lookup f11 = some ⟨oc11, od11, .func (PySem.W.fnOf "is_rule" "is_rule" (defArgs sRule) (defBody sRule) (defScope sRule) .none kV11 dc11 pm11 an11 cd11 ct11), sl11⟩)
    (c11 : PySem.W.codeIn K cd11 "is_rule" = true) (k11 : PySem.W.keepIn K (.ref f11) = true)
    (a12 : PySem.W.nsIn K mainGlobals "free_rule" = some (some (.ref f12)))
    (l12 : K.lookup f12 = some ⟨oc12, od12, .func (PySem.W.fnOf "free_rule" "free_rule" (defArgs sFreeRule) (defBody sFreeRule) (defScope sFreeRule) .none kV12 dc12 pm12 an12 cd12 ct12), sl12⟩)
    (c12 : PySem.W.codeIn K cd12 "free_rule" = true) (k12 : PySem.W.keepIn K (.ref f12) = true)
    (a13 : PySem.W.nsIn K mainGlobals "is_text" = some (some (.ref f13)))
    (l13 : K.lookup f13 = some ⟨oc13, od13, .func (PySem.W.fnOf "is_text" "is_text" (defArgs sText) (defBody sText) (defScope sText) .none kV13 dc13 pm13 an13 cd13 ct13), sl13⟩)
    (c13 : PySem.W.codeIn K cd13 "is_text" = true) (k13 : PySem.W.keepIn K (.ref f13) = true)
    (a14 : PySem.W.nsIn K mainGlobals "state_after" = some (some (.ref f14)))
    (l14 : K.lookup f14 = some ⟨oc14, od14, .func (PySem.W.fnOf "state_after" "state_after" (defArgs sAfter) (defBody sAfter) (defScope sAfter) .none kV14 dc14 pm14 an14 cd14 ct14), sl14⟩)
    (c14 : PySem.W.codeIn K cd14 "state_after" = true) (k14 : PySem.W.keepIn K (.ref f14) = true)
    (a15 : PySem.W.nsIn K mainGlobals "_law_x_letters" = some (some (.ref f15)))
    (l15 : K.lookup f15 = some ⟨oc15, od15, .func (PySem.W.fnOf "_law_x_letters" "_law_x_letters" (defArgs sXLetters) (defBody sXLetters) (defScope sXLetters) .none kV15 dc15 pm15 an15 cd15 ct15), sl15⟩)
    (c15 : PySem.W.codeIn K cd15 "_law_x_letters" = true) (k15 : PySem.W.keepIn K (.ref f15) = true)
    (a16 : PySem.W.nsIn K mainGlobals "_law_x_rule" = some (some (.ref f16)))
    (l16 : K.lookup f16 = some ⟨oc16, od16, .func (PySem.W.fnOf "_law_x_rule" "_law_x_rule" (defArgs sXRule) (defBody sXRule) (defScope sXRule) .none kV16 dc16 pm16 an16 cd16 ct16), sl16⟩)
    (c16 : PySem.W.codeIn K cd16 "_law_x_rule" = true) (k16 : PySem.W.keepIn K (.ref f16) = true)
    (a17 : PySem.W.nsIn K mainGlobals "_law_x_path" = some (some (.ref f17)))
    (l17 : K.lookup f17 = some ⟨oc17, od17, .func (PySem.W.fnOf "_law_x_path" "_law_x_path" (defArgs sXPath) (defBody sXPath) (defScope sXPath) .none kV17 dc17 pm17 an17 cd17 ct17), sl17⟩)
    (c17 : PySem.W.codeIn K cd17 "_law_x_path" = true) (k17 : PySem.W.keepIn K (.ref f17) = true)
    (a18 : PySem.W.nsIn K mainGlobals "_law_x_row" = some (some (.ref f18)))
    (l18 : K.lookup f18 = some ⟨oc18, od18, .func (PySem.W.fnOf "_law_x_row" "_law_x_row" (defArgs sXRow) (defBody sXRow) (defScope sXRow) .none kV18 dc18 pm18 an18 cd18 ct18), sl18⟩)
    (c18 : PySem.W.codeIn K cd18 "_law_x_row" = true) (k18 : PySem.W.keepIn K (.ref f18) = true)
    (a19 : PySem.W.nsIn K mainGlobals "_law_x_text" = some (some (.ref f19)))
    (l19 : K.lookup f19 = some ⟨oc19, od19, .func (PySem.W.fnOf "_law_x_text" "_law_x_text" (defArgs sXText) (defBody sXText) (defScope sXText) .none kV19 dc19 pm19 an19 cd19 ct19), sl19⟩)
    (c19 : PySem.W.codeIn K cd19 "_law_x_text" = true) (k19 : PySem.W.keepIn K (.ref f19) = true)
    (a20 : PySem.W.nsIn K mainGlobals "_law_x_long" = some (some (.ref f20)))
    (l20 : K.lookup f20 = some ⟨oc20, od20, .func (PySem.W.fnOf "_law_x_long" "_law_x_long" (defArgs sXLong) (defBody sXLong) (defScope sXLong) .none kV20 dc20 pm20 an20 cd20 ct20), sl20⟩)
    (c20 : PySem.W.codeIn K cd20 "_law_x_long" = true) (k20 : PySem.W.keepIn K (.ref f20) = true)
    (a21 : PySem.W.nsIn K mainGlobals "_law_x_behind" = some (some (.ref f21)))
    (l21 : K.lookup f21 = some ⟨oc21, od21, .func (PySem.W.fnOf "_law_x_behind" "_law_x_behind" (defArgs sXBehind) (defBody sXBehind) (defScope sXBehind) .none kV21 dc21 pm21 an21 cd21 ct21), sl21⟩)
    (c21 : PySem.W.codeIn K cd21 "_law_x_behind" = true) (k21 : PySem.W.keepIn K (.ref f21) = true)
    (a22 : PySem.W.nsIn K mainGlobals "_law_x_is_of" = some (some (.ref f22)))
    (l22 : K.lookup f22 = some ⟨oc22, od22, .func (PySem.W.fnOf "_law_x_is_of" "_law_x_is_of" (defArgs sXIsOf) (defBody sXIsOf) (defScope sXIsOf) .none kV22 dc22 pm22 an22 cd22 ct22), sl22⟩)
    (c22 : PySem.W.codeIn K cd22 "_law_x_is_of" = true) (k22 : PySem.W.keepIn K (.ref f22) = true)
    (a23 : PySem.W.nsIn K mainGlobals "_law_x_word" = some (some (.ref f23)))
    (l23 : K.lookup f23 = some ⟨oc23, od23, .func (PySem.W.fnOf "_law_x_word" "_law_x_word" (defArgs sWord) (defBody sWord) (defScope sWord) .none kV23 dc23 pm23 an23 cd23 ct23), sl23⟩)
    (c23 : PySem.W.codeIn K cd23 "_law_x_word" = true) (k23 : PySem.W.keepIn K (.ref f23) = true)
    (a24 : PySem.W.nsIn K mainGlobals "_law_x_refused_right" = some (some (.ref f24)))
    (l24 : K.lookup f24 = some ⟨oc24, od24, .func (PySem.W.fnOf "_law_x_refused_right" "_law_x_refused_right" (defArgs sRef) (defBody sRef) (defScope sRef) .none kV24 dc24 pm24 an24 cd24 ct24), sl24⟩)
    (c24 : PySem.W.codeIn K cd24 "_law_x_refused_right" = true) (k24 : PySem.W.keepIn K (.ref f24) = true)
    (a25 : PySem.W.nsIn K mainGlobals "law" = some (some (.ref f25)))
    (l25 : K.lookup f25 = some ⟨oc25, od25, .func (PySem.W.fnOf "law" "law" (defArgs sLaw) (defBody sLaw) (defScope sLaw) .none kV25 dc25 pm25 an25 cd25 ct25), sl25⟩)
    (c25 : PySem.W.codeIn K cd25 "law" = true) (k25 : PySem.W.keepIn K (.ref f25) = true)
    (a26 : PySem.W.nsIn K mainGlobals "is_of" = some (some (.ref f26)))
    (l26 : K.lookup f26 = some ⟨oc26, od26, .func (PySem.W.fnOf "is_of" "is_of" (defArgs sIsOf) (defBody sIsOf) (defScope sIsOf) .none kV26 dc26 pm26 an26 cd26 ct26), sl26⟩)
    (c26 : PySem.W.codeIn K cd26 "is_of" = true) (k26 : PySem.W.keepIn K (.ref f26) = true)
    (e0 : PySem.W.nsIn K mainGlobals "NoMachine" = some (some (.ref C0)))
    (e1 : PySem.W.nsIn K mainGlobals "NoPlain" = some (some (.ref C1)))
    (e2 : PySem.W.nsIn K mainGlobals "NoLetters" = some (some (.ref C2)))
    (e3 : PySem.W.nsIn K mainGlobals "NoRule" = some (some (.ref C3)))
    (e4 : PySem.W.nsIn K mainGlobals "NoRow" = some (some (.ref C4)))
    (e5 : PySem.W.nsIn K mainGlobals "NoWord" = some (some (.ref C5)))
    (e6 : PySem.W.nsIn K mainGlobals "NoNumber" = some (some (.ref C6)))
    (e7 : PySem.W.nsIn K mainGlobals "NoDivisor" = some (some (.ref C7)))
    (e8 : PySem.W.nsIn K mainGlobals "NoMatch" = some (some (.ref C8)))
    (e9 : PySem.W.nsIn K mainGlobals "TooGreat" = some (some (.ref C9)))
    (e10 : PySem.W.nsIn K mainGlobals "NoLimit" = some (some (.ref C10)))
    (e11 : PySem.W.nsIn K mainGlobals "HasRow" = some (some (.ref C11)))
    (eL : PySem.W.nsIn K mainGlobals "LaterError" = some (some (.ref CL)))
    (kall : kitW K [C0, C1, C2, C3, C4, C5, C6, C7, C8, C9, C10, C11] = true) (kup : upW K [C0, C1, C2, C3, C4, C5, C6, C7, C8, C9, C10, C11] CL = true)
    (hkV : kV26 = .ref DK) (hDK : PySem.W.nsIn K DK "ring" = some (some .none))
    (hm1 : PySem.W.nsIn K mainGlobals "MOST_LETTERS" = some (some (.int 3 t1))) (hm2 : PySem.W.nsIn K mainGlobals "MOST_STATES" = some (some (.int 4 t2))) (hm6 : PySem.W.nsIn K mainGlobals "LONGEST" = some (some (.int 1500 t6)))
    (hcd : cd24 = .ref cL) (hcL : K.lookup cL = some ⟨eC, ddC, .fields vsC, slC⟩) (hvs : vsC[11]? = some (.ref PT)) (hhd : PySem.W.codeHdIn K cL PT = true) (hPT : K.lookup PT = none)
    (z0 : PySem.W.nsIn K mainGlobals "int" = some none)
    (z1 : PySem.W.nsIn K mainGlobals "list" = some none)
    (z2 : PySem.W.nsIn K mainGlobals "len" = some none)
    (z3 : PySem.W.nsIn K mainGlobals "enumerate" = some none)
    (z4 : PySem.W.nsIn K mainGlobals "type" = some none)
    (z5 : PySem.W.nsIn K mainGlobals "tuple" = some none)
    (z6 : PySem.W.nsIn K mainGlobals "str" = some none)
    (z7 : PySem.W.nsIn K mainGlobals "all" = some none)
    (z8 : PySem.W.nsIn K mainGlobals "range" = some none)
    (z9 : PySem.W.nsIn K mainGlobals "isinstance" = some none)
    (z10 : PySem.W.nsIn K mainGlobals "ValueError" = some none)
    (z11 : PySem.W.nsIn K mainGlobals "repr" = some none) :
    LawTG l w K CX0 9 63 "script" mg fa h := by
  cases hfa.symm.trans (PySem.W.mg_of X G a25)
  have F1 := fun_mk (st := sSpread) l1 c1 k1
  have b1 := F1.binds (ps := ["cell", "at"]) fun _ _ _ _ _ _ us hl => match us, hl with | [_, _], _ => rfl
  have F2 := fun_mk (st := sOpen) l2 c2 k2
  have b2 := F2.binds (ps := ["script"]) fun _ _ _ _ _ _ us hl => match us, hl with | [_], _ => rfl
  have F3 := fun_mk (st := sTake) l3 c3 k3
  have b3 := F3.binds (ps := ["pen", "many"]) fun _ _ _ _ _ _ us hl => match us, hl with | [_, _], _ => rfl
  have F4 := fun_mk (st := sPick) l4 c4 k4
  have b4 := F4.binds (ps := ["pen", "some"]) fun _ _ _ _ _ _ us hl => match us, hl with | [_, _], _ => rfl
  have F5 := fun_mk (st := sWhole) l5 c5 k5
  have b5 := F5.binds (ps := ["thing"]) fun _ _ _ _ _ _ us hl => match us, hl with | [_], _ => rfl
  have F6 := fun_mk (st := sBetween) l6 c6 k6
  have b6 := F6.binds (ps := ["thing", "low", "high"]) fun _ _ _ _ _ _ us hl => match us, hl with | [_, _, _], _ => rfl
  have F7 := fun_mk (st := sTuple) l7 c7 k7
  have b7 := F7.binds (ps := ["thing", "least", "most"]) fun _ _ _ _ _ _ us hl => match us, hl with | [_, _, _], _ => rfl
  have F8 := fun_mk (st := sLetters) l8 c8 k8
  have b8 := F8.binds (ps := ["thing"]) fun _ _ _ _ _ _ us hl => match us, hl with | [_], _ => rfl
  have F9 := fun_mk (st := sWayOn) l9 c9 k9
  have b9 := F9.binds (ps := ["state", "many"]) fun _ _ _ _ _ _ us hl => match us, hl with | [_, _], _ => rfl
  have F10 := fun_mk (st := sTable) l10 c10 k10
  have b10 := F10.binds (ps := ["thing", "letters", "most"]) fun _ _ _ _ _ _ us hl => match us, hl with | [_, _, _], _ => rfl
  have F11 := fun_mk (st := sRule) l11 c11 k11
  have b11 := F11.binds (ps := ["thing"]) fun _ _ _ _ _ _ us hl => match us, hl with | [_], _ => rfl
  have F12 := fun_mk (st := sFreeRule) l12 c12 k12
  have b12 := F12.binds (ps := ["letters"]) fun _ _ _ _ _ _ us hl => match us, hl with | [_], _ => rfl
  have F13 := fun_mk (st := sText) l13 c13 k13
  have b13 := F13.binds (ps := ["thing", "letters"]) fun _ _ _ _ _ _ us hl => match us, hl with | [_, _], _ => rfl
  have F14 := fun_mk (st := sAfter) l14 c14 k14
  have b14 := F14.binds (ps := ["rule", "state", "word"]) fun _ _ _ _ _ _ us hl => match us, hl with | [_, _, _], _ => rfl
  have F15 := fun_mk (st := sXLetters) l15 c15 k15
  have b15 := F15.binds (ps := ["pen"]) fun _ _ _ _ _ _ us hl => match us, hl with | [_], _ => rfl
  have F16 := fun_mk (st := sXRule) l16 c16 k16
  have b16 := F16.binds (ps := ["pen", "letters", "most"]) fun _ _ _ _ _ _ us hl => match us, hl with | [_, _, _], _ => rfl
  have F17 := fun_mk (st := sXPath) l17 c17 k17
  have b17 := F17.binds (ps := ["pen", "rule", "state", "many"]) fun _ _ _ _ _ _ us hl => match us, hl with | [_, _, _, _], _ => rfl
  have F18 := fun_mk (st := sXRow) l18 c18 k18
  have b18 := F18.binds (ps := ["pen", "rule", "state", "most"]) fun _ _ _ _ _ _ us hl => match us, hl with | [_, _, _, _], _ => rfl
  have F19 := fun_mk (st := sXText) l19 c19 k19
  have b19 := F19.binds (ps := ["pen", "letters", "most"]) fun _ _ _ _ _ _ us hl => match us, hl with | [_, _, _], _ => rfl
  have F20 := fun_mk (st := sXLong) l20 c20 k20
  have b20 := F20.binds (ps := ["pen", "rule"]) fun _ _ _ _ _ _ us hl => match us, hl with | [_, _], _ => rfl
  have F21 := fun_mk (st := sXBehind) l21 c21 k21
  have b21 := F21.binds (ps := ["rule", "state", "word"]) fun _ _ _ _ _ _ us hl => match us, hl with | [_, _, _], _ => rfl
  have F22 := fun_mk (st := sXIsOf) l22 c22 k22
  have b22 := F22.binds (ps := ["rule", "row"]) fun _ _ _ _ _ _ us hl => match us, hl with | [_, _], _ => rfl
  have F23 := fun_mk (st := sWord) l23 c23 k23
  have b23 := F23.binds (ps := ["act"]) fun _ _ _ _ _ _ us hl => match us, hl with | [_], _ => rfl
  have F24 := fun_mk (st := sRef) l24 c24 k24
  have b24 := F24.binds (ps := ["pen", "rule"]) fun _ _ _ _ _ _ us hl => match us, hl with | [_, _], _ => rfl
  have F25 := fun_mk (st := sLaw) l25 c25 k25
  have b25 := F25.binds (ps := ["script"]) fun _ _ _ _ _ _ us hl => match us, hl with | [_], _ => rfl
  have mk : ∀ i, i < 12 → mkFacts K ([C0, C1, C2, C3, C4, C5, C6, C7, C8, C9, C10, C11].getD i 0) = true := fun i hi => (upW_of kup hi).1
  have TP : PenTxt K mg f1 f2 f3 f4 _ _ _ _ := { int := PySem.W.mg_none_of X G z0, list := PySem.W.mg_none_of X G z1, len := PySem.W.mg_none_of X G z2, enumerate := PySem.W.mg_none_of X G z3, FSpread := F1, bSpread := b1, gSpread := PySem.W.mg_of X G a1, FOpen := F2, bOpen := b2, gOpen := PySem.W.mg_of X G a2, FTake := F3, bTake := b3, gTake := PySem.W.mg_of X G a3, FPick := F4, bPick := b4, gPick := PySem.W.mg_of X G a4 }
  have TK : LookTxt K mg f5 f6 f7 f8 f9 f10 f11 _ _ _ _ _ _ _ t1 t2 := { type := PySem.W.mg_none_of X G z4, int := PySem.W.mg_none_of X G z0, tuple := PySem.W.mg_none_of X G z5, str := PySem.W.mg_none_of X G z6, len := PySem.W.mg_none_of X G z2, all := PySem.W.mg_none_of X G z7, range := PySem.W.mg_none_of X G z8, mLetters := PySem.W.mg_of X G hm1, mStates := PySem.W.mg_of X G hm2, FWhole := F5, bWhole := b5, gWhole := PySem.W.mg_of X G a5, FBetween := F6, bBetween := b6, gBetween := PySem.W.mg_of X G a6, FTuple := F7, bTuple := b7, gTuple := PySem.W.mg_of X G a7, FLetters := F8, bLetters := b8, gLetters := PySem.W.mg_of X G a8, FWayOn := F9, bWayOn := b9, gWayOn := PySem.W.mg_of X G a9, FTable := F10, bTable := b10, gTable := PySem.W.mg_of X G a10, FRule := F11, bRule := b11, gRule := PySem.W.mg_of X G a11 }
  have TF : FreeTxt K mg f5 f6 f7 f8 f9 f10 f11 _ _ _ _ _ _ _ t1 t2 C2 f12 _ := { look := TK, noLetters := excF_of (PySem.W.mg_of X G e2) (mk 2 (by decide)), FFreeRule := F12, bFreeRule := b12, gFreeRule := PySem.W.mg_of X G a12 }
  have TT : TextTxt K mg f5 f6 f7 f8 f9 f10 f11 _ _ _ _ _ _ _ t1 t2 f13 _ t6 := { look := TK, mLong := PySem.W.mg_of X G hm6, FText := F13, bText := b13, gText := PySem.W.mg_of X G a13 }
  have TA : AfterTxt K mg f14 _ := { FAfter := F14, bAfter := b14, gAfter := PySem.W.mg_of X G a14 }
  subst hkV
  have FI : FunD K "is_of" "is_of" (defArgs sIsOf) (defBody sIsOf) (defScope sIsOf) [] [("ring", .non)] f26 _ := ⟨⟨_, _, _, _, _, _, _, _, _, _, rfl, l26, c26, .inl ⟨rfl, rfl⟩, .inr ⟨DK, rfl, fun q hq => by
    rw [List.mem_singleton.mp hq]
    exact ⟨.none, hDK, rfl⟩⟩⟩, k26⟩
  have TI : IsOfTxt K mg f5 f6 f7 f8 f9 f10 f11 _ _ _ _ _ _ _ t1 t2 f13 _ t6 f14 _ C3 C5 f26 _ := { text := TT, after := TA, noRule := excF_of (PySem.W.mg_of X G e3) (mk 3 (by decide)), noWord := excF_of (PySem.W.mg_of X G e5) (mk 5 (by decide)), FIsOf := FI, gIsOf := PySem.W.mg_of X G a26 }
  have TL : LetTxt K mg f15 _ := { FXLetters := F15, bXLetters := b15, gXLetters := PySem.W.mg_of X G a15 }
  have TU : RulTxt K mg f16 _ := { range := PySem.W.mg_none_of X G z8, len := PySem.W.mg_none_of X G z2, tuple := PySem.W.mg_none_of X G z5, FXRule := F16, bXRule := b16, gXRule := PySem.W.mg_of X G a16 }
  have TH : PathTxt K mg f17 _ := { range := PySem.W.mg_none_of X G z8, len := PySem.W.mg_none_of X G z2, FXPath := F17, bXPath := b17, gXPath := PySem.W.mg_of X G a17 }
  have TR : RowTxt K mg f18 _ := { len := PySem.W.mg_none_of X G z2, FXRow := F18, bXRow := b18, gXRow := PySem.W.mg_of X G a18 }
  have TX : TexTxt K mg f19 f20 _ _ := { range := PySem.W.mg_none_of X G z8, list := PySem.W.mg_none_of X G z1, len := PySem.W.mg_none_of X G z2, FXText := F19, bXText := b19, gXText := PySem.W.mg_of X G a19, FXLong := F20, bXLong := b20, gXLong := PySem.W.mg_of X G a20 }
  have TB : BehTxt K mg f21 f22 _ _ := { range := PySem.W.mg_none_of X G z8, FXBehind := F21, bXBehind := b21, gXBehind := PySem.W.mg_of X G a21, FXIsOf := F22, bXIsOf := b22, gXIsOf := PySem.W.mg_of X G a22 }
  have TE : WordTxt K mg C0 C1 C2 C3 C4 C5 C6 C7 C8 C9 C10 C11 CL := { isi := PySem.W.mg_none_of X G z9, ve := PySem.W.mg_none_of X G z10, later := PySem.W.mg_of X G eL, c0 := PySem.W.mg_of X G e0, c1 := PySem.W.mg_of X G e1, c2 := PySem.W.mg_of X G e2, c3 := PySem.W.mg_of X G e3, c4 := PySem.W.mg_of X G e4, c5 := PySem.W.mg_of X G e5, c6 := PySem.W.mg_of X G e6, c7 := PySem.W.mg_of X G e7, c8 := PySem.W.mg_of X G e8, c9 := PySem.W.mg_of X G e9, c10 := PySem.W.mg_of X G e10, c11 := PySem.W.mg_of X G e11, all := kall, up := kup }
  have TW : WT K mg f23 _ := { FWord := F23, bWord := b23, gWord := PySem.W.mg_of X G a23 }
  have T9 : RefTxt K mg f24 _ := { range := PySem.W.mg_none_of X G z8, len := PySem.W.mg_none_of X G z2, FRef := F24, bRef := b24, gRef := PySem.W.mg_of X G a24 }
  have T0 : LawTxt K mg := { range := PySem.W.mg_none_of X G z8, repr := PySem.W.mg_none_of X G z11 }
  have hP := own f24 (PySem.W.mg_of X G a24) cL PT _ _ eC ddC vsC slC l24 rfl hcd hcL hvs
  refine ⟨_, cL, PT, spLaw K PT, hP, hPT, PySem.W.codeHd_of_K X hhd, fun s v => .of_eq rfl, fun H a ns hl hT hS => ⟨a, ns, rfl, hS, hl, hT, fun _ => rfl⟩, fun base _ _ TAB => ok_law F25 hcd TP TI TF TE TW TL TU TH TR TX TB T9 T0 TAB⟩
end My
open PySem PySem.W PyProof.Rows
set_option maxHeartbeats 0 in
theorem PySem.Challenge.cw_laterless_k35_words_of_rules_holds : PySem.Challenge.rw_laterless_k35_words_of_rules.Holds := by
  w_on; o_law; k_head; (case hw => w_witness2)
  k_fill
  refine My.walk_ofTG (l := PySem.Challenge.rw_laterless_k35_words_of_rules) (n := 63) (k := 9) (x := "script") (y := "_law_x_refused_right") (CX := fun _ => L2.CX0) rfl (by decide) rfl ⟨rfl, by decide, by decide⟩ ?hrec (fun w h Y => PySem.W.km_in_of Y) ?F (fun _ _ _ _ _ h => h)
  case hrec => kernel_rfl
  case F =>
    intro w mg fa h KX G hmg own
    refine' My.all_mk KX G hmg own ?a1 ?l1 ?c1 ?k1 ?a2 ?l2 ?c2 ?k2 ?a3 ?l3 ?c3 ?k3 ?a4 ?l4 ?c4 ?k4 ?a5 ?l5 ?c5 ?k5 ?a6 ?l6 ?c6 ?k6 ?a7 ?l7 ?c7 ?k7 ?a8 ?l8 ?c8 ?k8 ?a9 ?l9 ?c9 ?k9 ?a10 ?l10 ?c10 ?k10 ?a11 ?l11 ?c11 ?k11 ?a12 ?l12 ?c12 ?k12 ?a13 ?l13 ?c13 ?k13 ?a14 ?l14 ?c14 ?k14 ?a15 ?l15 ?c15 ?k15 ?a16 ?l16 ?c16 ?k16 ?a17 ?l17 ?c17 ?k17 ?a18 ?l18 ?c18 ?k18 ?a19 ?l19 ?c19 ?k19 ?a20 ?l20 ?c20 ?k20 ?a21 ?l21 ?c21 ?k21 ?a22 ?l22 ?c22 ?k22 ?a23 ?l23 ?c23 ?k23 ?a24 ?l24 ?c24 ?k24 ?a25 ?l25 ?c25 ?k25 ?a26 ?l26 ?c26 ?k26 ?e0 ?e1 ?e2 ?e3 ?e4 ?e5 ?e6 ?e7 ?e8 ?e9 ?e10 ?e11 ?eL ?kall ?kup ?hkV ?hDK ?hm1 ?hm2 ?hm6 ?hcd ?hcL ?hvs ?hhd ?hPT ?z0 ?z1 ?z2 ?z3 ?z4 ?z5 ?z6 ?z7 ?z8 ?z9 ?z10 ?z11
    (case a1 => k_is); (case l1 => k_is); (case c1 => k_is); (case k1 => k_is)
    (case a2 => k_is); (case l2 => k_is); (case c2 => k_is); (case k2 => k_is)
    (case a3 => k_is); (case l3 => k_is); (case c3 => k_is); (case k3 => k_is)
    (case a4 => k_is); (case l4 => k_is); (case c4 => k_is); (case k4 => k_is)
    (case a5 => k_is); (case l5 => k_is); (case c5 => k_is); (case k5 => k_is)
    (case a6 => k_is); (case l6 => k_is); (case c6 => k_is); (case k6 => k_is)
    (case a7 => k_is); (case l7 => k_is); (case c7 => k_is); (case k7 => k_is)
    (case a8 => k_is); (case l8 => k_is); (case c8 => k_is); (case k8 => k_is)
    (case a9 => k_is); (case l9 => k_is); (case c9 => k_is); (case k9 => k_is)
    (case a10 => k_is); (case l10 => k_is); (case c10 => k_is); (case k10 => k_is)
    (case a11 => k_is); (case l11 => k_is); (case c11 => k_is); (case k11 => k_is)
    (case a12 => k_is); (case l12 => k_is); (case c12 => k_is); (case k12 => k_is)
    (case a13 => k_is); (case l13 => k_is); (case c13 => k_is); (case k13 => k_is)
    (case a14 => k_is); (case l14 => k_is); (case c14 => k_is); (case k14 => k_is)
    (case a15 => k_is); (case l15 => k_is); (case c15 => k_is); (case k15 => k_is)
    (case a16 => k_is); (case l16 => k_is); (case c16 => k_is); (case k16 => k_is)
    (case a17 => k_is); (case l17 => k_is); (case c17 => k_is); (case k17 => k_is)
    (case a18 => k_is); (case l18 => k_is); (case c18 => k_is); (case k18 => k_is)
    (case a19 => k_is); (case l19 => k_is); (case c19 => k_is); (case k19 => k_is)
    (case a20 => k_is); (case l20 => k_is); (case c20 => k_is); (case k20 => k_is)
    (case a21 => k_is); (case l21 => k_is); (case c21 => k_is); (case k21 => k_is)
    (case a22 => k_is); (case l22 => k_is); (case c22 => k_is); (case k22 => k_is)
    (case a23 => k_is); (case l23 => k_is); (case c23 => k_is); (case k23 => k_is)
    (case a24 => k_is); (case l24 => k_is); (case c24 => k_is); (case k24 => k_is)
    (case a25 => k_is); (case l25 => k_is); (case c25 => k_is); (case k25 => k_is)
    (case a26 => k_is); (case l26 => k_is); (case c26 => k_is); (case k26 => k_is)
    (case e0 => k_is); (case e1 => k_is); (case e2 => k_is); (case e3 => k_is); (case e4 => k_is); (case e5 => k_is); (case e6 => k_is); (case e7 => k_is); (case e8 => k_is); (case e9 => k_is); (case e10 => k_is); (case e11 => k_is)
    (case eL => k_is)
    (case kall => kernel_rfl); (case kup => kernel_rfl)
    (case hkV => rfl)
    (case hDK => k_is)
    (case hm1 => k_is); (case hm2 => k_is); (case hm6 => k_is)
    (case hcd => rfl)
    (case hcL => k_is)
    (case hvs => rfl)
    (case hhd => kernel_rfl)
    (case hPT => kernel_rfl)
    (case z0 => k_is); (case z1 => k_is); (case z2 => k_is); (case z3 => k_is); (case z4 => k_is); (case z5 => k_is); (case z6 => k_is); (case z7 => k_is); (case z8 => k_is); (case z9 => k_is); (case z10 => k_is); (case z11 => k_is)
