import PyProof.Rows.All
import Wide.All
import OpenK.AllK
import Wide.FinOn
import HandS.ForMost
import HandS.ForExc
import HandS.Wide
import HandS.Gcd
import HandS.Evl
import HandS.Walk
import HandS.More
import HandS.FStr
import HandS.IsInst
import HandS.RaiseMore
import HandS.Style
import HandS.ExcValue
import HandS.ExcIs
import HandS.Lambda
import HandS.EndTab
import HandS.EndOwn
import PyProof.TypeEq
import PyProof.ReprLen
import HandS.TupSets
import HandS.Replace
import HandS.Defaults
import PyProof.ListStr
import KE.GoesEnum
import HandS.TupMul
import HandS.TupAny
import HandS.Deep
import HandS.Zip
import HandS.MakeKwOnly
import PySem.Challenge.RW_laterless_k34_machines_recognized
set_option Elab.async false
set_option linter.all false
set_option maxRecDepth 100000
set_option maxHeartbeats 4000000
namespace My
open PySem PySem.Spec PyProof.Rows L2
/-! ### the text by places -/
def topS (i : Nat) : Stmt := PySem.Challenge.pw_laterless_k34_machines_recognized.main.body.getD i (.Pass ⟨0, 0, 0, 0⟩)
abbrev sSpread : Stmt := topS 25
abbrev sOpen : Stmt := topS 26
abbrev sTake : Stmt := topS 27
abbrev sPick : Stmt := topS 28
theorem scSpread : FnScope ["cell", "at", "primes", "one", "two", "three"] ["cell", "at"] (defScope sSpread) := ⟨rfl, rfl, rfl, by decide +kernel, rfl, by decide +kernel, by decide +kernel⟩
theorem scOpen : FnScope ["script", "cells", "nth", "cell"] ["script"] (defScope sOpen) := ⟨rfl, rfl, rfl, by decide +kernel, rfl, by decide +kernel, by decide +kernel⟩
theorem scTake : FnScope ["pen", "many", "at", "cell", "found"] ["pen", "many"] (defScope sTake) := ⟨rfl, rfl, rfl, by decide +kernel, rfl, by decide +kernel, by decide +kernel⟩
theorem scPick : FnScope ["pen", "some"] ["pen", "some"] (defScope sPick) := ⟨rfl, rfl, rfl, by decide +kernel, rfl, by decide +kernel, by decide +kernel⟩
/-! ### heaps -/
theorem same_upd {H : Hp} {p : Addr} {o : HO} (h : H p = none) : Same H (upd H p o) := fun b x e => by
  rw [upd_ne (ne_of_none e h)]
  exact e
/-- all tracked things but the one at p stand as they stood -/
def But (p : Addr) (H H' : Hp) : Prop := ∀ b o, b ≠ p → H b = some o → H' b = some o
theorem But.of {p : Addr} {H H' : Hp} (s : Same H H') : But p H H' := fun b o _ e => s b o e
theorem But.trans {p : Addr} {H H1 H2 : Hp} (a : But p H H1) (b : But p H1 H2) : But p H H2 := fun c o n e => b c o n (a c o n e)
theorem but_upd {H : Hp} {p : Addr} {o : HO} : But p H (upd H p o) := fun b x n e => by
  rw [upd_ne n]
  exact e
/-- a pen stands at p: a list of the list of cells (at c), the number of cells read so far, at most n, and what is left of the last one -/
structure Pen (H : Hp) (p : Addr) (n : Nat) : Prop where
  ex : ∃ (c : Addr) (cs : List Int) (a r : Int), H p = some (.lst [.ref c, .int a, .int r]) ∧ H c = some (.lst (cs.map V.int)) ∧ c ≠ p ∧ cs.length ≤ 12 ∧ 0 ≤ a ∧ a ≤ (n : Int) ∧ 0 ≤ r
theorem Pen.same {H H' : Hp} {p : Addr} {n : Nat} (h : Pen H p n) (s : Same H H') : Pen H' p n := by
  obtain ⟨c, cs, a, r, h1, h2, h3⟩ := h.ex
  exact ⟨c, cs, a, r, s _ _ h1, s _ _ h2, h3⟩
theorem Pen.mono {H : Hp} {p : Addr} {n m : Nat} (h : Pen H p n) (l : n ≤ m) : Pen H p m := by
  obtain ⟨c, cs, a, r, h1, h2, h3, h4, h5, h6, h7⟩ := h.ex
  exact ⟨c, cs, a, r, h1, h2, h3, h4, h5, by omega, h7⟩
theorem Pen.ls {H : Hp} {p : Addr} {n : Nat} (h : Pen H p n) : ∃ xs, H p = some (.lst xs) := by
  obtain ⟨c, cs, a, r, h1, _⟩ := h.ex
  exact ⟨_, h1⟩
/-! ### the promises -/
def spSpread : Sp := fun vs H Q _ => ∃ (c a : Int), vs = [.int c, .int a] ∧ 0 ≤ a ∧ a < 1048576 ∧ ∀ H' r, Same H H' → 0 ≤ r → Q (.int r) H'
def spOpen (K : PySem.W.Frag) : Sp := fun vs H Q _ => ∃ (a : Addr) (ns : List Int), vs = [.ref a] ∧ SqL K H a (ns.map V.int) ∧ ns.length ≤ 63 ∧ ∀ H' p, Same H H' → H p = none → Pen H' p 0 → Q (.ref p) H'
def spTake : Sp := fun vs H Q _ => ∃ (p : Addr) (many : Int) (n : Nat), vs = [.ref p, .int many] ∧ Pen H p n ∧ n < 1048000 ∧ 0 < many ∧ many.natAbs.log2 < 9000 ∧ ∀ H' k, But p H H' → Pen H' p (n + 1) → 0 ≤ k → k < many → Q (.int k) H'
def spPick (K : PySem.W.Frag) : Sp := fun vs H Q _ => ∃ (p s : Addr) (xs : List V) (n : Nat), vs = [.ref p, .ref s] ∧ Pen H p n ∧ n < 1048000 ∧ SqL K H s xs ∧ s ≠ p ∧ 0 < xs.length ∧ xs.length ≤ 1000 ∧ ∀ (H' : Hp) (k : Nat) (v : V), But p H H' → Pen H' p (n + 1) → xs[(k : Nat)]? = some (v : V) → Q v H'
def primesV : List V := ([.int 2147483629, .int 2147483587, .int 2147483579, .int 2147483563, .int 2147483549, .int 2147483543, .int 2147483497, .int 2147483489] : List V) ++ [.int 2147483477, .int 2147483423, .int 2147483399, .int 2147483353, .int 2147483323]
theorem prime_at {k : Int} (h0 : 0 ≤ k) (h1 : k < 13) : ∃ m : Int, atI primesV k = some (.int m) ∧ 0 < m ∧ m < 2147483648 := by
  have h : k = 0 ∨ k = 1 ∨ k = 2 ∨ k = 3 ∨ k = 4 ∨ k = 5 ∨ k = 6 ∨ k = 7 ∨ k = 8 ∨ k = 9 ∨ k = 10 ∨ k = 11 ∨ k = 12 := by omega
  rcases h with rfl | rfl | rfl | rfl | rfl | rfl | rfl | rfl | rfl | rfl | rfl | rfl | rfl <;> exact ⟨_, rfl, by decide, by decide⟩
theorem ixN_of {n : Nat} {i : Int} (h0 : 0 ≤ i) (h1 : i < (n : Int)) : ixN n i = some i.toNat := by
  unfold ixN
  rw [if_pos h0, if_pos h1]
theorem atI_int {cs : List Int} {i : Int} (h0 : 0 ≤ i) (h1 : i < (cs.length : Int)) : ∃ z : Int, atI (cs.map V.int) i = some (.int z) := by
  have h2 : i.toNat < cs.length := by omega
  refine ⟨cs[i.toNat], ?_⟩
  unfold atI
  rw [List.length_map, ixN_of h0 h1]
  show (cs.map V.int)[i.toNat]? = _
  rw [List.getElem?_map, List.getElem?_eq_getElem h2]
  rfl
theorem cut_ints (ns : List Int) (lo hi : Option Int) : cutV (ns.map V.int) lo hi = ((ns.drop (HT.sIx ns.length 0 lo)).take (HT.sIx ns.length ns.length hi - HT.sIx ns.length 0 lo)).map V.int := by
  unfold cutV
  rw [List.length_map, List.map_take, List.map_drop]
theorem cut_len (ns : List Int) (lo hi : Option Int) : ((ns.drop (HT.sIx ns.length 0 lo)).take (HT.sIx ns.length ns.length hi - HT.sIx ns.length 0 lo)).length = min (HT.sIx ns.length ns.length hi - HT.sIx ns.length 0 lo) (ns.length - HT.sIx ns.length 0 lo) := by
  rw [List.length_take, List.length_drop]
theorem int_of {ds : List Int} {i : Nat} {y : V} (h : (ds.map V.int)[i]? = some y) : i < ds.length ∧ ∃ d : Int, y = .int d := by
  rw [List.getElem?_map] at h
  cases e : ds[i]? with
  | none =>
    rw [e] at h
    cases h
  | some d =>
    rw [e] at h
    exact ⟨(List.getElem?_eq_some_iff.mp e).1, d, (Option.some.inj h).symm⟩
theorem mul_bd {x y m : Int} (h0 : 0 ≤ x) (h1 : x ≤ m) (h2 : 0 ≤ y) : 0 ≤ x * y ∧ x * y ≤ m * y := ⟨Int.mul_nonneg h0 h2, Int.mul_le_mul_of_nonneg_right h1 h2⟩
/-- what the top has left of the pen's defs and the built-ins that they call -/
structure PenTxt (K : PySem.W.Frag) (mg : Str → Option Value) (f1 f2 f3 f4 : Addr) (d1 d2 d3 d4 : FuncData) : Prop where
  int : mg "int" = none
  list : mg "list" = none
  len : mg "len" = none
  enumerate : mg "enumerate" = none
  FSpread : Fun K "_law_spread" "_law_spread" sSpread f1 d1
  bSpread : Binds K d1 ["cell", "at"] []
  gSpread : mg "_law_spread" = some (.ref f1)
  FOpen : Fun K "_law_open" "_law_open" sOpen f2 d2
  bOpen : Binds K d2 ["script"] []
  gOpen : mg "_law_open" = some (.ref f2)
  FTake : Fun K "_law_take" "_law_take" sTake f3 d3
  bTake : Binds K d3 ["pen", "many"] []
  gTake : mg "_law_take" = some (.ref f3)
  FPick : Fun K "_law_x_pick" "_law_x_pick" sPick f4 d4
  bPick : Binds K d4 ["pen", "some"] []
  gPick : mg "_law_x_pick" = some (.ref f4)
section
variable {P : Program} {w : World} {K : PySem.W.Frag} {mg : Str → Option Value} {base : Heap} {f1 f2 f3 f4 : Addr} {d1 d2 d3 d4 : FuncData}
theorem ok_spread (T : PenTxt K mg f1 f2 f3 f4 d1 d2 d3 d4) {k : Nat} : FnOk P w K mg base CX0 (k + 1) f1 d1 ["cell", "at"] spSpread := by
  have F := T.FSpread
  refine F.ok scSpread (fun vs H Q E h => ?_) (fun cdv A outer s H vs Q E hr h => ?_)
  · obtain ⟨c, a, rfl, _⟩ := h
    rfl
  · obtain ⟨c, a, rfl, a0, a1, q⟩ := h
    refine ⟨_, (pss_cons (ps_if (pt_cmpR op_ge (pv 0) (pe_op op_pow pe_int pe_int) (nomark _)) (pss_one (ps_ret (pv 0))) pss_nil)
 (pss_cons (ps_set (i := 2) scSpread.nd rfl (.inl rfl) (pe_lst (pa_cons pe_int (pa_cons pe_int (pa_cons pe_int (pa_cons pe_int (pa_cons pe_int (pa_cons pe_int (pa_cons pe_int (pa_cons pe_int pa_nil))))))))))
 (Evl.pss_cut (ps_set (i := 2) scSpread.nd rfl (.inl rfl) (pe_op op_cat (pv 2) (pe_lst (pa_cons pe_int (pa_cons pe_int (pa_cons pe_int (pa_cons pe_int (pa_cons pe_int pa_nil))))))))
 (Evl.pss_cut (ps_set (i := 3) scSpread.nd rfl (.inl rfl) (pe_op op_mul (pe_op op_mod (pe_callTy call_int1 (by rfl) T.int (by decide +kernel) (pa_cons (pv 0) pa_nil)) pe_int) (pe_op op_add (pe_op op_mul pe_int (pv 1)) pe_int)))
 (Evl.pss_cut (ps_set (i := 3) scSpread.nd rfl (.inl rfl) (pe_op op_mod (pe_callTy call_int1 (by rfl) T.int (by decide +kernel) (pa_cons (pe_op op_pow (pe_op op_add (pe_op op_add (pv 3) (pe_op op_mul (pv 1) pe_int)) pe_int) pe_int) pa_nil)) (pe_ix ix_list (pv 2) (pe_op op_mod (pe_callTy call_int1 (by rfl) T.int (by decide +kernel) (pa_cons (pv 1) pa_nil)) pe_int) (fun _ _ => rfl))))
 (Evl.pss_cut (ps_set (i := 4) scSpread.nd rfl (.inl rfl) (pe_op op_mod (pe_callTy call_int1 (by rfl) T.int (by decide +kernel) (pa_cons (pe_op op_pow (pe_op op_add (pe_op op_add (pe_op op_mul (pv 3) (pe_op op_add (pv 1) pe_int)) (pe_op op_mod (pe_callTy call_int1 (by rfl) T.int (by decide +kernel) (pa_cons (pv 0) pa_nil)) pe_int)) pe_int) pe_int) pa_nil)) (pe_ix ix_list (pv 2) (pe_op op_mod (pe_callTy call_int1 (by rfl) T.int (by decide +kernel) (pa_cons (pe_op op_add (pv 1) pe_int) pa_nil)) pe_int) (fun _ _ => rfl))))
 (Evl.pss_cut (ps_set (i := 5) scSpread.nd rfl (.inl rfl) (pe_op op_mod (pe_callTy call_int1 (by rfl) T.int (by decide +kernel) (pa_cons (pe_op op_pow (pe_op op_add (pe_op op_add (pv 4) (pe_op op_mod (pe_callTy call_int1 (by rfl) T.int (by decide +kernel) (pa_cons (pv 3) pa_nil)) pe_int)) (pv 1)) pe_int) pa_nil)) (pe_ix ix_list (pv 2) (pe_op op_mod (pe_callTy call_int1 (by rfl) T.int (by decide +kernel) (pa_cons (pe_op op_add (pv 1) pe_int) pa_nil)) pe_int) (fun _ _ => rfl))))
 (pss_one (ps_ret (pe_op op_add (pe_op op_mul (pe_op op_add (pe_op op_mul (pv 3) pe_int) (pv 4)) pe_int) (pv 5))))))))))), ?_⟩
    refine ⟨.int c, rfl, 10, 18, rfl, rfl, ⟨by decide, by decide, by decide⟩, c, _, rfl, rfl, _, rfl, ite2 (fun e => ?_) (fun e => ?_)⟩
    · have e' := of_decide_eq_true e
      exact ⟨_, rfl, q H c (Same.refl H) (Int.le_trans (by decide) e')⟩
    · refine ⟨(by show 8 ≤ sizeLine; decide), fun p hp => ?_⟩
      refine ⟨fun σ H' => ∃ l, σ = [some (.int c), some (.int a), some (.ref l), none, none, none] ∧ Same H H' ∧ SqL K H' l primesV, ?_, ?_⟩
      · refine ⟨_, rfl, (by show 5 ≤ sizeLine; decide), fun p2 hp2 => ?_⟩
        have n12 : p ≠ p2 := ne_of_none upd_same hp2
        exact ⟨p, p2, _, _, rfl, rfl, (by rw [upd_ne n12]; exact upd_same), upd_same, (by show 13 ≤ sizeLine; decide), fun l hl => ⟨l, rfl, ((same_upd hp).trans (same_upd hp2)).trans (same_upd hl), SqL.of upd_same⟩⟩
      rintro σ H3 ⟨l, rfl, s3, hS⟩
      -- one
      refine ⟨fun σ H' => ∃ one : Int, σ = [some (.int c), some (.int a), some (.ref l), some (.int one), none, none] ∧ H' = H3 ∧ 0 ≤ one ∧ one ≤ 1000000006 * (2 * a + 69069), ?_, ?_⟩
      · have c1 := Int.emod_nonneg c (show (1000000007 : Int) ≠ 0 by decide)
        have c2 := Int.emod_lt_of_pos c (show (0 : Int) < 1000000007 by decide)
        obtain ⟨o1, o2⟩ := mul_bd c1 (show c % 1000000007 ≤ 1000000006 by omega) (show 0 ≤ 2 * a + 69069 by omega)
        exact ⟨_, rfl, .inl ⟨_, rfl, _, _, rfl, rfl, (by show (0 : Int) < 1000000007; decide), _, rfl, _, _, rfl, rfl, .inl ⟨by decide, by decide⟩, _, _, rfl, rfl, _, _, rfl, rfl, .inl ⟨(by omega), (by omega)⟩, _, rfl, rfl, o1, o2⟩⟩
      rintro σ H3 ⟨one, rfl, rfl, o1, o2⟩
      refine ⟨fun σ H' => ∃ one : Int, σ = [some (.int c), some (.int a), some (.ref l), some (.int one), none, none] ∧ H' = H3 ∧ 0 ≤ one ∧ one < 2147483648, ?_, ?_⟩
      · obtain ⟨m, hm, m0, m1⟩ := prime_at (Int.emod_nonneg a (show (13 : Int) ≠ 0 by decide)) (Int.emod_lt_of_pos a (show (0 : Int) < 13 by decide))
        have u1 := Int.emod_nonneg ((one + a * 40503 + 977) ^ (3 : Int).toNat) (show m ≠ 0 by omega)
        have u2 := Int.emod_lt_of_pos ((one + a * 40503 + 977) ^ (3 : Int).toNat) m0
        refine ⟨_, rfl, _, rfl, _, _, rfl, rfl, .inl ⟨(by omega), (by omega)⟩, _, _, rfl, rfl, _, _, rfl, rfl, _, _, rfl, rfl, ⟨by decide, by decide, (by omega)⟩, .inl ⟨_, rfl, ?_⟩⟩
        exact ⟨_, rfl, _, rfl, .inl ⟨_, rfl, _, _, rfl, rfl, (by show (0 : Int) < 13; decide), l, _, _, _, rfl, rfl, hS, hm, _, _, rfl, rfl, m0, _, rfl, rfl, u1, Int.lt_trans u2 m1⟩⟩
      rintro σ H3 ⟨one, rfl, rfl, p1, p2⟩
      -- two
      refine ⟨fun σ H' => ∃ two : Int, σ = [some (.int c), some (.int a), some (.ref l), some (.int one), some (.int two), none] ∧ H' = H3 ∧ 0 ≤ two ∧ two < 2147483648, ?_, ?_⟩
      · have d1 := Int.emod_nonneg c (show (65537 : Int) ≠ 0 by decide)
        have d2 := Int.emod_lt_of_pos c (show (0 : Int) < 65537 by decide)
        obtain ⟨o1, o2⟩ := mul_bd p1 (show one ≤ 2147483647 by omega) (show 0 ≤ a + 3 by omega)
        obtain ⟨m, hm, m0, m1⟩ := prime_at (Int.emod_nonneg (a + 5) (show (13 : Int) ≠ 0 by decide)) (Int.emod_lt_of_pos (a + 5) (show (0 : Int) < 13 by decide))
        have u1 := Int.emod_nonneg ((one * (a + 3) + c % 65537 + 5) ^ (5 : Int).toNat) (show m ≠ 0 by omega)
        have u2 := Int.emod_lt_of_pos ((one * (a + 3) + c % 65537 + 5) ^ (5 : Int).toNat) m0
        refine ⟨_, rfl, _, rfl, _, _, rfl, rfl, _, _, rfl, rfl, .inl ⟨(by omega), (by omega)⟩, _, rfl, .inl ⟨_, rfl, _, _, rfl, rfl, (by show (0 : Int) < 65537; decide), _, _, rfl, rfl, _, _, rfl, rfl, _, _, rfl, rfl, ⟨by decide, by decide, (by omega)⟩, .inl ⟨_, rfl, ?_⟩⟩⟩
        exact ⟨_, rfl, _, rfl, _, _, rfl, rfl, .inl ⟨_, rfl, _, _, rfl, rfl, (by show (0 : Int) < 13; decide), l, _, _, _, rfl, rfl, hS, hm, _, _, rfl, rfl, m0, _, rfl, rfl, u1, Int.lt_trans u2 m1⟩⟩
      rintro σ H3 ⟨two, rfl, rfl, q1, q2⟩
      -- three
      refine ⟨fun σ H' => ∃ three : Int, σ = [some (.int c), some (.int a), some (.ref l), some (.int one), some (.int two), some (.int three)] ∧ H' = H3 ∧ 0 ≤ three, ?_, ?_⟩
      · have e1 := Int.emod_nonneg one (show (1009 : Int) ≠ 0 by decide)
        have e2 := Int.emod_lt_of_pos one (show (0 : Int) < 1009 by decide)
        obtain ⟨m, hm, m0, m1⟩ := prime_at (Int.emod_nonneg (a + 7) (show (13 : Int) ≠ 0 by decide)) (Int.emod_lt_of_pos (a + 7) (show (0 : Int) < 13 by decide))
        have u1 := Int.emod_nonneg ((two + one % 1009 + a) ^ (3 : Int).toNat) (show m ≠ 0 by omega)
        refine ⟨_, rfl, _, rfl, .inl ⟨_, rfl, _, _, rfl, rfl, (by show (0 : Int) < 1009; decide), _, _, rfl, rfl, _, rfl, _, _, rfl, rfl, _, _, rfl, rfl, ⟨by decide, by decide, (by omega)⟩, .inl ⟨_, rfl, ?_⟩⟩⟩
        exact ⟨_, rfl, _, rfl, _, _, rfl, rfl, .inl ⟨_, rfl, _, _, rfl, rfl, (by show (0 : Int) < 13; decide), l, _, _, _, rfl, rfl, hS, hm, _, _, rfl, rfl, m0, _, rfl, rfl, u1⟩⟩
      rintro σ H3 ⟨three, rfl, rfl, r1⟩
      exact ⟨_, rfl, _, _, rfl, rfl, .inr ⟨by decide, by decide⟩, _, rfl, _, _, rfl, rfl, _, _, rfl, rfl, .inr ⟨by decide, by decide⟩, _, rfl, _, _, rfl, rfl, q H3 _ s3 (by omega)⟩
theorem ok_open (T : PenTxt K mg f1 f2 f3 f4 d1 d2 d3 d4) {k : Nat} : FnOk P w K mg base CX0 (k + 1) f2 d2 ["script"] (spOpen K) := by
  have F := T.FOpen
  refine F.ok scOpen (fun vs H Q E h => ?_) (fun cdv A outer s H vs Q E hr h => ?_)
  · obtain ⟨c, a, rfl, _⟩ := h
    rfl
  · obtain ⟨a, ns, rfl, hS, hl, q⟩ := h
    refine ⟨_, (Evl.pss_cut (ps_set (i := 1) scOpen.nd rfl (.inl rfl) (pe_callTy call_list_of (by rfl) T.list (by decide +kernel) (pa_cons (pe_slice sl_list (pv 0) po_none (po_some pe_int)) pa_nil)))
 (pss_cons (ps_for PassesOwn.never rfl (pi_enum (by rfl) T.enumerate (pa_cons (pe_slice sl_list (pv 0) (po_some pe_int) (po_some pe_int)) pa_nil)) (pg_tup rfl (pgs_cons (pg_name (i := 2) scOpen.nd rfl (.inl rfl)) (pgs_cons (pg_name (i := 3) scOpen.nd rfl (.inl rfl)) pgs_nil)))
 (pss_one (ps_asg (pe_op op_add (pe_ix ix_list (pv 1) (pe_op op_mod (pe_callTy call_int1 (by rfl) T.int (by decide +kernel) (pa_cons (pv 2) pa_nil)) pe_int) (fun _ _ => rfl)) (pv 3)) (pg_sub (pv 1) (pe_op op_mod (pe_callTy call_int1 (by rfl) T.int (by decide +kernel) (pa_cons (pv 2) pa_nil)) pe_int) set_list))))
 (pss_one (ps_ret (pe_lst (pa_cons (pv 1) (pa_cons pe_int (pa_cons pe_int pa_nil)))))))), ?_⟩
    -- cells
    refine ⟨fun σ H' => ∃ (c : Addr) (cs : List Int), σ = [some (.ref a), some (.ref c), none, none] ∧ Same H H' ∧ H c = none ∧ H' c = some (.lst (cs.map V.int)) ∧ cs.length = min 12 ns.length, ?_, ?_⟩
    · refine ⟨.ref a, rfl, 12, rfl, a, ns.map V.int, rfl, hS, fun c nc => ⟨c, _, rfl, .inl (SqL.of upd_same), fun l hl => ⟨l, (ns.drop (HT.sIx ns.length 0 none)).take (HT.sIx ns.length ns.length (some 12) - HT.sIx ns.length 0 none), rfl, (same_upd nc).trans (same_upd hl), (same_upd nc).free hl, ?_, ?_⟩⟩⟩
      · rw [upd_same, cut_ints]
      · rw [cut_len]
        rw [HT.sIx_none, show HT.sIx ns.length ns.length (some 12) = min 12 ns.length from HT.sIx_nat ns.length ns.length 12]
        omega
    rintro σ H1 ⟨c, cs, rfl, s1, nc, hC, lC⟩
    have hS1 : SqL K H1 a (ns.map V.int) := s1.seq hS
    refine ⟨.ref a, rfl, 12, rfl, 63, rfl, a, ns.map V.int, rfl, hS1, fun d nd => ⟨d, _, rfl, SqL.of upd_same, ?_⟩⟩
    have s2 : Same H1 (upd H1 d (.lst (cutV (ns.map V.int) (some 12) (some 63)))) := same_upd nd
    rw [cut_ints] at s2 ⊢
    have l2 := cut_len ns (some 12) (some 63)
    rw [show HT.sIx ns.length 0 (some 12) = min 12 ns.length from HT.sIx_nat ns.length 0 12] at l2 s2 ⊢
    have hd : (upd H1 d (.lst ((List.take (HT.sIx ns.length ns.length (some 63) - min 12 ns.length) (List.drop (min 12 ns.length) ns)).map V.int))) d = some (.lst ((List.take (HT.sIx ns.length ns.length (some 63) - min 12 ns.length) (List.drop (min 12 ns.length) ns)).map V.int)) := upd_same
    generalize (List.take (HT.sIx ns.length ns.length (some 63) - min 12 ns.length) (List.drop (min 12 ns.length) ns)) = ds at s2 l2 hd ⊢
    have ncd : c ≠ d := ne_of_none hC nd
    refine for_it (walk_enum (K := K) (a := d) (xs := ds.map V.int)) (fun i σ H' => ∃ (v2 v3 : Option V) (cs : List Int), σ = [some (.ref a), some (.ref c), v2, v3] ∧ Same H H' ∧ H' c = some (.lst (cs.map V.int)) ∧ cs.length = min 12 ns.length ∧ H' d = some (.lst (ds.map V.int)))
      ⟨none, none, cs, rfl, s1.trans s2, s2 _ _ hC, lC, hd⟩ ?_ ?_ ?_
    · rintro i σ H' _ ⟨_, _, _, _, _, _, _, h⟩
      exact SqL.of h
    · rintro i x σ H' H'' hi ⟨v2, v3, cs, rfl, s3, hC, lC, hD⟩ ⟨T, x1, y, rfl, nT, rfl, ex, ey⟩
      obtain rfl : V.int (i : Nat) = x1 := Option.some.inj ex
      obtain ⟨hi2, z, rfl⟩ := int_of ey
      have c12 : cs.length = 12 := by omega
      have sT : Same H' (upd H' T (.tup [.int (i : Nat), .int z])) := same_upd nT
      have hC' := sT _ _ hC
      have m0 := Int.emod_nonneg ((i : Nat) : Int) (show (12 : Int) ≠ 0 by decide)
      have m1 := Int.emod_lt_of_pos ((i : Nat) : Int) (show (0 : Int) < 12 by decide)
      obtain ⟨u, hu⟩ := atI_int (cs := cs) m0 (by omega)
      refine ⟨T, _, rfl, SqT.of upd_same, rfl, _, _, rfl, _, _, rfl, rfl, ?_⟩
      refine ⟨_, rfl, _, rfl, .inl ⟨_, rfl, _, _, rfl, rfl, (by show (0 : Int) < 12; decide), c, _, _, _, rfl, rfl, SqL.of hC', hu, _, rfl, _, _, rfl, rfl, _, rfl, _, rfl, .inl ⟨_, rfl, _, _, rfl, rfl, (by show (0 : Int) < 12; decide), c, _, _, _, rfl, rfl, hC', ixN_of m0 (by rw [List.length_map]; omega), ?_⟩⟩⟩
      refine ⟨_, _, cs.set ((i : Int) % 12).toNat (u + z), rfl, fun b o e => ?_, ?_, by rw [List.length_set]; exact lC, ?_⟩
      · have nb : b ≠ c := fun q => by
          rw [q, nc] at e
          cases e
        rw [upd_ne nb]
        exact sT _ _ (s3 _ _ e)
      · rw [upd_same, List.map_set]
      · rw [upd_ne ncd.symm]
        exact sT _ _ hD
    · rintro σ H' ⟨v2, v3, cs, rfl, s3, hC, lC, hD⟩
      refine ⟨_, rfl, (by show 3 ≤ sizeLine; decide), fun p hp => q _ p (s3.trans (same_upd hp)) (s3.free hp) ⟨c, cs, 0, 0, upd_same, ?_, ne_of_none hC hp, by omega, by decide, by decide, by decide⟩⟩
      exact same_upd hp _ _ hC
theorem ok_take (T : PenTxt K mg f1 f2 f3 f4 d1 d2 d3 d4) {k : Nat} : FnOk P w K mg base CX0 (k + 2) f3 d3 ["pen", "many"] spTake := by
  have F := T.FTake
  have GS : FnOk P w K mg base CX0 (k + 1) f1 d1 ["cell", "at"] spSpread := ok_spread T
  refine F.ok scTake (fun vs H Q E h => ?_) (fun cdv A outer s H vs Q E hr h => ?_)
  · obtain ⟨c, a, n, rfl, _⟩ := h
    rfl
  · obtain ⟨p, many, n, rfl, hP, hn, m0, m1, q⟩ := h
    refine ⟨_, (Evl.pss_cut (ps_if (pt_cmpR op_lt (pe_ix ix_list (pv 0) pe_int (fun _ _ => rfl)) (pv 1) (nomark _)) (pss_cons (ps_set (i := 2) scTake.nd rfl (.inl rfl) (pe_ix ix_list (pv 0) pe_int (fun _ _ => rfl)))
 (pss_cons (ps_set (i := 3) scTake.nd rfl (.inl rfl) pe_int)
 (Evl.pss_cut (ps_if (pt_cmpR op_lt (pv 2) (pe_callB call_len_seq (by rfl) T.len PySem.boot_len (pa_cons (pe_ix ix_list (pv 0) pe_int (fun _ _ => rfl)) pa_nil)) (nomark _)) (pss_one (ps_set (i := 3) scTake.nd rfl (.inl rfl) (pe_ix ix_list (pe_ix ix_list (pv 0) pe_int (fun _ _ => rfl)) (pv 2) (fun _ _ => rfl)))) (pss_one (ps_if (pt_cmpR op_gt (pe_callB call_len_seq (by rfl) T.len PySem.boot_len (pa_cons (pe_ix ix_list (pv 0) pe_int (fun _ _ => rfl)) pa_nil)) pe_int (nomark _)) (pss_one (ps_set (i := 3) scTake.nd rfl (.inl rfl) (pe_op op_mod (pe_callTy call_int1 (by rfl) T.int (by decide +kernel) (pa_cons (pe_ix ix_list (pe_ix ix_list (pv 0) pe_int (fun _ _ => rfl)) (pe_op op_mod (pe_callTy call_int1 (by rfl) T.int (by decide +kernel) (pa_cons (pe_op op_add (pe_op op_mul (pv 2) pe_int) pe_int) pa_nil)) (pe_callB call_len_seq (by rfl) T.len PySem.boot_len (pa_cons (pe_ix ix_list (pv 0) pe_int (fun _ _ => rfl)) pa_nil))) (fun _ _ => rfl)) pa_nil)) (pe_op op_add (pe_op op_pow pe_int pe_int) (pv 2))))) pss_nil)))
 (pss_cons (ps_asg (pe_op op_add (pv 2) pe_int) (pg_sub (pv 0) pe_int set_list))
 (pss_one (ps_asg (pe_call GS hr (by rfl) T.gSpread T.FSpread.kp T.bSpread .nil pass0 (pa_cons (pv 3) (pa_cons (pv 2) pa_nil))) (pg_sub (pv 0) pe_int set_list))))))) pss_nil)
 (pss_cons (ps_set (i := 4) scTake.nd rfl (.inl rfl) (pe_op op_mod (pe_callTy call_int1 (by rfl) T.int (by decide +kernel) (pa_cons (pe_ix ix_list (pv 0) pe_int (fun _ _ => rfl)) pa_nil)) (pv 1)))
 (pss_cons (ps_asg (pe_op op_fdivW (pe_ix ix_list (pv 0) pe_int (fun _ _ => rfl)) (pv 1)) (pg_sub (pv 0) pe_int set_list))
 (pss_one (ps_ret (pv 4)))))), ?_⟩
    obtain ⟨c, cs, a, r, hp, hc, ncp, lc, a0, a1, r0⟩ := hP.ex
    refine ⟨fun σ H' => ∃ v2 v3, σ = [some (.ref p), some (.int many), v2, v3, none] ∧ But p H H' ∧ Pen H' p (n + 1), ?_, ?_⟩
    · refine ⟨_, rfl, p, _, 2, .int r, rfl, rfl, SqL.of hp, atI_nat (j := 2) rfl, _, rfl, _, _, rfl, rfl, _, rfl, ite2 (fun _ => ?_) (fun _ => ?_)⟩
      · refine ⟨_, rfl, p, _, 1, .int a, rfl, rfl, SqL.of hp, atI_nat (j := 1) rfl, ?_⟩
        refine ⟨fun σ H' => ∃ z : Int, σ = [some (.ref p), some (.int many), some (.int a), some (.int z), none] ∧ H' = H, ?_, ?_⟩
        · refine ⟨_, rfl, _, rfl, p, _, 0, .ref c, rfl, rfl, SqL.of hp, atI_nat (j := 0) rfl, c, _, rfl, .inl (SqL.of hc), _, _, rfl, rfl, _, rfl, ite2 (fun e => ?_) (fun e => ?_)⟩
          · have e' := of_decide_eq_true e
            rw [List.length_map] at e'
            obtain ⟨z, hz⟩ := atI_int (cs := cs) a0 e'
            exact ⟨_, rfl, p, _, 0, .ref c, rfl, rfl, SqL.of hp, atI_nat (j := 0) rfl, _, rfl, c, _, _, _, rfl, rfl, SqL.of hc, hz, z, rfl, rfl⟩
          · refine ⟨_, rfl, p, _, 0, .ref c, rfl, rfl, SqL.of hp, atI_nat (j := 0) rfl, c, _, rfl, .inl (SqL.of hc), _, _, rfl, rfl, _, rfl, ite2 (fun e => ?_) (fun e => ?_)⟩
            · have e' := of_decide_eq_true e
              rw [List.length_map] at e'
              have k0 := Int.emod_nonneg (a * 5 + 3) (show (cs.length : Int) ≠ 0 by omega)
              have k1 := Int.emod_lt_of_pos (a * 5 + 3) e'
              obtain ⟨z, hz⟩ := atI_int (cs := cs) k0 k1
              have el : (List.map V.int cs).length = cs.length := List.length_map ..
              refine ⟨_, rfl, p, _, 0, .ref c, rfl, rfl, SqL.of hp, atI_nat (j := 0) rfl, _, rfl, _, _, rfl, rfl, .inr ⟨by decide, by decide⟩, _, _, rfl, rfl, .inl ⟨_, rfl, _, rfl, p, _, 0, .ref c, rfl, rfl, SqL.of hp, atI_nat (j := 0) rfl, c, _, rfl, .inl (SqL.of hc), _, _, rfl, rfl, (by rw [el]; exact e'), c, _, _, _, rfl, rfl, SqL.of hc, (by rw [el]; exact hz), .inl ⟨_, rfl, _, _, rfl, rfl, ⟨by decide, by decide, by decide⟩, _, rfl, _, _, rfl, rfl, _, _, rfl, rfl, ?_, _, rfl, rfl⟩⟩⟩
              have : (10 : Int) ^ (17 : Int).toNat = 100000000000000000 := by decide
              show 0 < (10 : Int) ^ (17 : Int).toNat + a
              omega
            · exact ⟨0, rfl, rfl⟩
        rintro σ H ⟨z, rfl, rfl⟩
        refine ⟨_, rfl, _, _, rfl, rfl, _, rfl, p, _, 1, 1, rfl, rfl, hp, rfl, ?_⟩
        refine ⟨_, rfl, _, rfl, z, a, rfl, a0, by omega, fun H2 r2 s2 r20 => ?_⟩
        have hp2 := s2 _ _ upd_same
        refine ⟨_, rfl, p, _, 2, 2, rfl, rfl, hp2, rfl, _, _, rfl, ?_, ⟨c, cs, a + 1, r2, upd_same, ?_, ncp, lc, by omega, by omega, r20⟩⟩
        · exact (but_upd.trans (But.of s2)).trans but_upd
        · rw [upd_ne ncp]
          exact s2 _ _ (by rw [upd_ne ncp]; exact hc)
      · exact ⟨_, _, rfl, fun _ _ _ e => e, hP.mono (Nat.le_succ n)⟩
    rintro σ H1 ⟨v2, v3, rfl, b1, hP1⟩
    obtain ⟨c, cs, a, r, hp, hc, ncp, lc, a0, a1, r0⟩ := hP1.ex
    refine ⟨_, rfl, p, _, 2, .int r, rfl, rfl, SqL.of hp, atI_nat (j := 2) rfl, .inl ⟨_, rfl, _, rfl, _, _, rfl, rfl, m0, ?_⟩⟩
    refine ⟨_, rfl, p, _, 2, .int r, rfl, rfl, SqL.of hp, atI_nat (j := 2) rfl, _, rfl, _, _, rfl, rfl, ⟨m0, m1⟩, _, rfl, p, _, 2, 2, rfl, rfl, hp, rfl, ?_⟩
    refine ⟨_, rfl, q _ _ (b1.trans but_upd) ⟨c, cs, a, r / many, upd_same, ?_, ncp, lc, a0, a1, Int.ediv_nonneg r0 (Int.le_of_lt m0)⟩ (Int.emod_nonneg _ (by omega)) (Int.emod_lt_of_pos _ m0)⟩
    rw [upd_ne ncp]
    exact hc
theorem ok_pick (T : PenTxt K mg f1 f2 f3 f4 d1 d2 d3 d4) {k : Nat} : FnOk P w K mg base CX0 (k + 3) f4 d4 ["pen", "some"] (spPick K) := by
  have F := T.FPick
  have GT : FnOk P w K mg base CX0 (k + 2) f3 d3 ["pen", "many"] spTake := ok_take T
  refine F.ok scPick (fun vs H Q E h => ?_) (fun cdv A outer s H vs Q E hr h => ?_)
  · obtain ⟨c, a, xs, n, rfl, _⟩ := h
    rfl
  · obtain ⟨p, l, xs, n, rfl, hP, hn, hS, nlp, l0, l1, q⟩ := h
    refine ⟨_, (pss_one (ps_ret (pe_ix ix_list (pv 1) (pe_call GT hr (by rfl) T.gTake T.FTake.kp T.bTake .nil pass0 (pa_cons (pv 0) (pa_cons (pe_callB call_len_seq (by rfl) T.len PySem.boot_len (pa_cons (pv 1) pa_nil)) pa_nil))) (fun _ _ => rfl)))), ?_⟩
    refine ⟨_, rfl, _, rfl, _, rfl, l, xs, rfl, .inl hS, p, _, n, rfl, hP, hn, by omega, ?_, fun H1 k b1 hP1 k0 k1 => ?_⟩
    · have h2 : ((xs.length : Int)).natAbs ≤ 1000 := by omega
      have h3 : ((xs.length : Int)).natAbs.log2 ≤ ((xs.length : Int)).natAbs := Nat.log2_le_self _
      omega
    · have hk : k.toNat < xs.length := by omega
      have e : xs[k.toNat]? = some xs[k.toNat] := List.getElem?_eq_getElem hk
      have hS1 : SqL K H1 l xs := by
        rcases hS with (h | ⟨o, h⟩) | h
        · exact .inl (.inl (b1 _ _ nlp h))
        · exact .inl (.inr ⟨o, b1 _ _ nlp h⟩)
        · exact .inr h
      exact ⟨l, xs, k, _, rfl, rfl, hS1, at_of (by omega) e, q H1 k.toNat _ b1 hP1 e⟩
end
end My
/-! ### the pen with its cells at c -/
namespace My
open PySem PySem.Spec PyProof.Rows L2
structure PenC (H : Hp) (p c : Addr) (n : Nat) : Prop where
  ex : ∃ (cs : List Int) (a r : Int), H p = some (.lst [.ref c, .int a, .int r]) ∧ H c = some (.lst (cs.map V.int)) ∧ c ≠ p ∧ cs.length ≤ 12 ∧ 0 ≤ a ∧ a ≤ (n : Int) ∧ 0 ≤ r
theorem PenC.pen {H : Hp} {p c : Addr} {n : Nat} (h : PenC H p c n) : Pen H p n := by
  obtain ⟨cs, a, r, h1⟩ := h.ex
  exact ⟨c, cs, a, r, h1⟩
theorem Pen.at {H : Hp} {p : Addr} {n : Nat} (h : Pen H p n) : ∃ c, PenC H p c n := by
  obtain ⟨c, cs, a, r, h1⟩ := h.ex
  exact ⟨c, cs, a, r, h1⟩
theorem PenC.mono {H : Hp} {p c : Addr} {n m : Nat} (h : PenC H p c n) (l : n ≤ m) : PenC H p c m := by
  obtain ⟨cs, a, r, h1, h2, h3, h4, h5, h6, h7⟩ := h.ex
  exact ⟨cs, a, r, h1, h2, h3, h4, h5, by omega, h7⟩
theorem PenC.keep {H H' : Hp} {p c : Addr} {n : Nat} (h : PenC H p c n) (hp : ∀ o, H p = some o → H' p = some o) (hc : ∀ o, H c = some o → H' c = some o) : PenC H' p c n := by
  obtain ⟨cs, a, r, h1, h2, h3⟩ := h.ex
  exact ⟨cs, a, r, hp _ h1, hc _ h2, h3⟩
def spTakeC : Sp := fun vs H Q _ => ∃ (p c : Addr) (many : Int) (n : Nat), vs = [.ref p, .int many] ∧ PenC H p c n ∧ n < 1048000 ∧ 0 < many ∧ many.natAbs.log2 < 9000 ∧ ∀ H' k, But p H H' → PenC H' p c (n + 1) → 0 ≤ k → k < many → Q (.int k) H'
section
variable {P : Program} {w : World} {K : PySem.W.Frag} {mg : Str → Option Value} {base : Heap} {f1 f2 f3 f4 : Addr} {d1 d2 d3 d4 : FuncData}
theorem ok_takeC (T : PenTxt K mg f1 f2 f3 f4 d1 d2 d3 d4) {k : Nat} : FnOk P w K mg base CX0 (k + 2) f3 d3 ["pen", "many"] spTakeC := by
  have F := T.FTake
  have GS : FnOk P w K mg base CX0 (k + 1) f1 d1 ["cell", "at"] spSpread := ok_spread T
  refine F.ok scTake (fun vs H Q E h => ?_) (fun cdv A outer s H vs Q E hr h => ?_)
  · obtain ⟨p, c, many, n, rfl, _⟩ := h
    rfl
  · obtain ⟨p, c, many, n, rfl, hP, hn, m0, m1, q⟩ := h
    refine ⟨_, (Evl.pss_cut (ps_if (pt_cmpR op_lt (pe_ix ix_list (pv 0) pe_int (fun _ _ => rfl)) (pv 1) (nomark _)) (pss_cons (ps_set (i := 2) scTake.nd rfl (.inl rfl) (pe_ix ix_list (pv 0) pe_int (fun _ _ => rfl)))
 (pss_cons (ps_set (i := 3) scTake.nd rfl (.inl rfl) pe_int)
 (Evl.pss_cut (ps_if (pt_cmpR op_lt (pv 2) (pe_callB call_len_seq (by rfl) T.len PySem.boot_len (pa_cons (pe_ix ix_list (pv 0) pe_int (fun _ _ => rfl)) pa_nil)) (nomark _)) (pss_one (ps_set (i := 3) scTake.nd rfl (.inl rfl) (pe_ix ix_list (pe_ix ix_list (pv 0) pe_int (fun _ _ => rfl)) (pv 2) (fun _ _ => rfl)))) (pss_one (ps_if (pt_cmpR op_gt (pe_callB call_len_seq (by rfl) T.len PySem.boot_len (pa_cons (pe_ix ix_list (pv 0) pe_int (fun _ _ => rfl)) pa_nil)) pe_int (nomark _)) (pss_one (ps_set (i := 3) scTake.nd rfl (.inl rfl) (pe_op op_mod (pe_callTy call_int1 (by rfl) T.int (by decide +kernel) (pa_cons (pe_ix ix_list (pe_ix ix_list (pv 0) pe_int (fun _ _ => rfl)) (pe_op op_mod (pe_callTy call_int1 (by rfl) T.int (by decide +kernel) (pa_cons (pe_op op_add (pe_op op_mul (pv 2) pe_int) pe_int) pa_nil)) (pe_callB call_len_seq (by rfl) T.len PySem.boot_len (pa_cons (pe_ix ix_list (pv 0) pe_int (fun _ _ => rfl)) pa_nil))) (fun _ _ => rfl)) pa_nil)) (pe_op op_add (pe_op op_pow pe_int pe_int) (pv 2))))) pss_nil)))
 (pss_cons (ps_asg (pe_op op_add (pv 2) pe_int) (pg_sub (pv 0) pe_int set_list))
 (pss_one (ps_asg (pe_call GS hr (by rfl) T.gSpread T.FSpread.kp T.bSpread .nil pass0 (pa_cons (pv 3) (pa_cons (pv 2) pa_nil))) (pg_sub (pv 0) pe_int set_list))))))) pss_nil)
 (pss_cons (ps_set (i := 4) scTake.nd rfl (.inl rfl) (pe_op op_mod (pe_callTy call_int1 (by rfl) T.int (by decide +kernel) (pa_cons (pe_ix ix_list (pv 0) pe_int (fun _ _ => rfl)) pa_nil)) (pv 1)))
 (pss_cons (ps_asg (pe_op op_fdivW (pe_ix ix_list (pv 0) pe_int (fun _ _ => rfl)) (pv 1)) (pg_sub (pv 0) pe_int set_list))
 (pss_one (ps_ret (pv 4)))))), ?_⟩
    obtain ⟨cs, a, r, hp, hc, ncp, lc, a0, a1, r0⟩ := hP.ex
    refine ⟨fun σ H' => ∃ v2 v3, σ = [some (.ref p), some (.int many), v2, v3, none] ∧ But p H H' ∧ PenC H' p c (n + 1), ?_, ?_⟩
    · refine ⟨_, rfl, p, _, 2, .int r, rfl, rfl, SqL.of hp, atI_nat (j := 2) rfl, _, rfl, _, _, rfl, rfl, _, rfl, ite2 (fun _ => ?_) (fun _ => ?_)⟩
      · refine ⟨_, rfl, p, _, 1, .int a, rfl, rfl, SqL.of hp, atI_nat (j := 1) rfl, ?_⟩
        refine ⟨fun σ H' => ∃ z : Int, σ = [some (.ref p), some (.int many), some (.int a), some (.int z), none] ∧ H' = H, ?_, ?_⟩
        · refine ⟨_, rfl, _, rfl, p, _, 0, .ref c, rfl, rfl, SqL.of hp, atI_nat (j := 0) rfl, c, _, rfl, .inl (SqL.of hc), _, _, rfl, rfl, _, rfl, ite2 (fun e => ?_) (fun e => ?_)⟩
          · have e' := of_decide_eq_true e
            rw [List.length_map] at e'
            obtain ⟨z, hz⟩ := atI_int (cs := cs) a0 e'
            exact ⟨_, rfl, p, _, 0, .ref c, rfl, rfl, SqL.of hp, atI_nat (j := 0) rfl, _, rfl, c, _, _, _, rfl, rfl, SqL.of hc, hz, z, rfl, rfl⟩
          · refine ⟨_, rfl, p, _, 0, .ref c, rfl, rfl, SqL.of hp, atI_nat (j := 0) rfl, c, _, rfl, .inl (SqL.of hc), _, _, rfl, rfl, _, rfl, ite2 (fun e => ?_) (fun e => ?_)⟩
            · have e' := of_decide_eq_true e
              rw [List.length_map] at e'
              have k0 := Int.emod_nonneg (a * 5 + 3) (show (cs.length : Int) ≠ 0 by omega)
              have k1 := Int.emod_lt_of_pos (a * 5 + 3) e'
              obtain ⟨z, hz⟩ := atI_int (cs := cs) k0 k1
              have el : (List.map V.int cs).length = cs.length := List.length_map ..
              refine ⟨_, rfl, p, _, 0, .ref c, rfl, rfl, SqL.of hp, atI_nat (j := 0) rfl, _, rfl, _, _, rfl, rfl, .inr ⟨by decide, by decide⟩, _, _, rfl, rfl, .inl ⟨_, rfl, _, rfl, p, _, 0, .ref c, rfl, rfl, SqL.of hp, atI_nat (j := 0) rfl, c, _, rfl, .inl (SqL.of hc), _, _, rfl, rfl, (by rw [el]; exact e'), c, _, _, _, rfl, rfl, SqL.of hc, (by rw [el]; exact hz), .inl ⟨_, rfl, _, _, rfl, rfl, ⟨by decide, by decide, by decide⟩, _, rfl, _, _, rfl, rfl, _, _, rfl, rfl, ?_, _, rfl, rfl⟩⟩⟩
              have : (10 : Int) ^ (17 : Int).toNat = 100000000000000000 := by decide
              show 0 < (10 : Int) ^ (17 : Int).toNat + a
              omega
            · exact ⟨0, rfl, rfl⟩
        rintro σ H ⟨z, rfl, rfl⟩
        refine ⟨_, rfl, _, _, rfl, rfl, _, rfl, p, _, 1, 1, rfl, rfl, hp, rfl, ?_⟩
        refine ⟨_, rfl, _, rfl, z, a, rfl, a0, by omega, fun H2 r2 s2 r20 => ?_⟩
        have hp2 := s2 _ _ upd_same
        refine ⟨_, rfl, p, _, 2, 2, rfl, rfl, hp2, rfl, _, _, rfl, ?_, ⟨cs, a + 1, r2, upd_same, ?_, ncp, lc, by omega, by omega, r20⟩⟩
        · exact (but_upd.trans (But.of s2)).trans but_upd
        · rw [upd_ne ncp]
          exact s2 _ _ (by rw [upd_ne ncp]; exact hc)
      · exact ⟨_, _, rfl, fun _ _ _ e => e, hP.mono (Nat.le_succ n)⟩
    rintro σ H1 ⟨v2, v3, rfl, b1, hP1⟩
    obtain ⟨cs, a, r, hp, hc, ncp, lc, a0, a1, r0⟩ := hP1.ex
    refine ⟨_, rfl, p, _, 2, .int r, rfl, rfl, SqL.of hp, atI_nat (j := 2) rfl, .inl ⟨_, rfl, _, rfl, _, _, rfl, rfl, m0, ?_⟩⟩
    refine ⟨_, rfl, p, _, 2, .int r, rfl, rfl, SqL.of hp, atI_nat (j := 2) rfl, _, rfl, _, _, rfl, rfl, ⟨m0, m1⟩, _, rfl, p, _, 2, 2, rfl, rfl, hp, rfl, ?_⟩
    refine ⟨_, rfl, q _ _ (b1.trans but_upd) ⟨cs, a, r / many, upd_same, ?_, ncp, lc, a0, a1, Int.ediv_nonneg r0 (Int.le_of_lt m0)⟩ (Int.emod_nonneg _ (by omega)) (Int.emod_lt_of_pos _ m0)⟩
    rw [upd_ne ncp]
    exact hc
end
end My
/-! ### promises of defs that show data: they are called where nothing is being shown -/
namespace My
open PySem PySem.Spec PyProof.Rows L2
/-- a def's promise, at the surroundings A alone -/
def RunAt (P : Program) (w : World) (K : PySem.W.Frag) (mg : Str → Option Value) (base : Heap) (CX : CXT) (f : Addr) (fd : FuncData) (ps : List Str) (sp : Sp) (A : Around) : Prop :=
  ∀ (out : List Env) (st : Shared) (G : Hp) (ar : Args) (uu : List Value) (vv : List V) (R : VK) (W : XK), Env0 P w K mg base A out st G →
    BindsTo st fd ar (ps.zip uu) → Vals vv uu → sp vv G R W → codeAny (model P w) A (.call (.ref f) ar) (CR CX out P w G st R W) st
/-- .. wherever nothing is being shown -/
structure FnG (P : Program) (w : World) (K : PySem.W.Frag) (mg : Str → Option Value) (base : Heap) (CX : CXT) (k : Nat) (f : Addr) (fd : FuncData) (ps : List Str) (sp : Sp) : Prop where
  len : ∀ vs H Q E, sp vs H Q E → vs.length = ps.length
  run : ∀ A : Around, A.guards = some [] → Room k A → RunAt P w K mg base CX f fd ps sp A
section
variable {P : Program} {w : World} {K : PySem.W.Frag} {mg : Str → Option Value} {base : Heap} {CX : CXT}
theorem FnG.of {k : Nat} {f : Addr} {fd : FuncData} {ps : List Str} {sp : Sp} (F : FnOk P w K mg base CX k f fd ps sp) : FnG P w K mg base CX k f fd ps sp :=
  ⟨F.len, fun A _ hr out st G ar uu vv R W e0 hb r h => F.run A out st G ar uu vv R W hr e0 hb r h⟩
theorem Fun.okG {x qual : Str} {st : Stmt} {f : Addr} {fd : FuncData} {N ps : List Str} {k : Nat} {sp : Sp} (F : Fun K x qual st f fd) (S : FnScope N ps (defScope st))
    (len : ∀ vs H Q E, sp vs H Q E → vs.length = ps.length)
    (hbody : ∀ (cdv : Value) (A : Around) (outer : List Env) (s : Shared) (H : Hp) (vs : List V) (Q : VK) (E : XK), A.guards = some [] → Room k (A.deeper (envOfC qual (defScope st) s.heap.objs.size f cdv)) → sp vs H Q E →
      ∃ t, PSs (cxOf CX P w K mg base N qual (defScope st) f cdv A outer s H E) (defBody st) t ∧ t { nx := fun _ H' => Q .non H', rt := Q } (start N vs) H) :
    FnG P w K mg base CX (k + 1) f fd ps sp := by
  obtain ⟨oc, od, kV, doc, pm, an, cdv, ct, osl, hfd, lk, hcode⟩ := F.ex
  subst hfd
  refine ⟨len, fun A hgd room out st' G ar uu vv R W e0 hb rv hs => ?_⟩
  have hlen := len _ _ _ _ hs
  have kin := e0.mod.kin.keeps fun b o e => (e0.bs b o e).1
  have nolim := e0.mod.nolimit.keeps fun b o e => (e0.bs b o e).1
  refine codeAny_call_function room.depth (kin _ _ lk) rfl S.co S.gen rfl (PySem.W.codeRec_of kin hcode) (hb _ _ _ _ ?_)
  refine wpAny_newFunctionEnv_cells S.kind (fun ⟨n, v⟩ hmem => ?kinds) fun env' heq s2 x2 => ?_
  case kinds =>
    cases S.par n (List.of_mem_zip hmem).1 with
    | inl q => exact .inl q
    | inr q => exact .inr ⟨q, PySem.W.cellsFrom_some _ _ _ (.inl q)⟩
  subst heq
  refine ⟨nolim.keeps x2.toInCall.keep, codeAny_func ?_⟩
  obtain ⟨t, der, reading⟩ := hbody cdv A out st' G vv R W hgd (room.deeper _) hs
  refine wpAny_mono (der.run [] s2 (start N vv) G _ (inv_start S room.hd e0 hlen rv x2) reading) (fun fl s3 end3 => ?_) fun _ _ end3 => end3
  cases fl with
  | next =>
    obtain ⟨_, G', J, q⟩ := end3
    exact ⟨V.non, G', J.os, J.bare, J.base, J.hok, rfl, q⟩
  | ret u =>
    obtain ⟨v, _, G', J, rv', q⟩ := end3
    exact ⟨v, G', J.os, J.bare, J.base, J.hok, rv', q⟩
  | brk => exact (let ⟨_, _, _, q⟩ := end3; False.elim q)
  | cont => exact (let ⟨_, _, _, q⟩ := end3; False.elim q)
end
section
variable {X : Cx} {k : Nat} {f : Addr} {fd : FuncData} {ps : List Str} {sp : Sp} {E : XK} {x : Str} {p pos : Pos} {e : Expr} {es : List Expr} {t : TA} {CX : CXT} {dvs : List V} {ds : List Value}
/-- a call of a def that shows data -/
theorem pe_callG (F : FnG X.prog X.w X.K X.mg X.base CX k f fd ps sp) (hgd : X.A.guards = some []) (hr : Room k X.A) (hg : Gl X x) (hm : X.mg x = some (.ref f)) (hk : PySem.W.keepIn X.K (.ref f) = true) (hb : Binds X.K fd ps ds) (hd : Vals dvs ds) (hx : Passes CX X E)
    (ha : PA X (e :: es) t) (hdb : (x == ("__debug__" : Str)) = false := by decide)
    (he : starEach (e :: es) X.env = (false, eval e X.env) :: starEach es X.env := by rfl)
    (hpl : (backTo pos (starEach es X.env)).any (·.1) = false := by rfl) : PE X (.Call (.Name x p) (e :: es) [] pos) (tCall sp dvs E t) := by
  constructor
  intro pins s σ H Q I h
  refine wpAny_Call_Name_kw (ld_glob I hg hm ?_ hdb)
  refine PySem.W.callWith_K (h₀ := X.base) I.ok.mod.kin hk (thn (ha.run pos pins s σ H _ I h) fun us s1 hh => ?_) he hpl
  obtain ⟨vs, H1, J, r, q⟩ := hh
  refine ⟨J.kIn, ?_⟩
  have r2 := r.append hd
  have hl : (us ++ ds).length = ps.length := r2.length.symm.trans (F.len _ _ _ _ q)
  refine wpAny_call (codeAny_mono (F.run X.A hgd hr X.stack s1 H1 ⟨us, []⟩ (us ++ ds) (vs ++ dvs) _ _ J.env0 (hb s1 us J.kIn hl) r2 q) fun res s2 hq => ?_)
  match res, hq with
  | .error e', hq => exact hx pins σ H1 s1 e' s2 J hq
  | .ok (.ret u), hq => exact J.after hq
  | .ok .next, hq => exact hq.elim
  | .ok .brk, hq => exact hq.elim
  | .ok .cont, hq => exact hq.elim
/-! ### repr of data -/
mutual
theorem dp_nodict {K : PySem.W.Frag} {H : Hp} : ∀ {v : V} {d : PyData}, Dp K H v d → d.hasDict = false
  | _, _, .non => by simp [PyData.hasDict]
  | _, _, .bl _ => by simp [PyData.hasDict]
  | _, _, .int _ => by simp [PyData.hasDict]
  | _, _, .str _ => by simp [PyData.hasDict]
  | _, _, .lst _ h => by simpa [PyData.hasDict] using dps_nodict h
  | _, _, .tup _ h => by simpa [PyData.hasDict] using dps_nodict h
theorem dps_nodict {K : PySem.W.Frag} {H : Hp} : ∀ {vs : List V} {ds : List PyData}, DpAll K H vs ds → PyData.hasDictAll ds = false
  | _, _, .nil => by simp [PyData.hasDictAll]
  | _, _, .cons h t => by simp [PyData.hasDictAll, dp_nodict h, dps_nodict t]
end
def rRepr (K : PySem.W.Frag) : List V → Hp → VK → Prop := fun xs H Q => ∃ x d, xs = [x] ∧ Dp K H x d ∧ d.showable = true ∧ d.depth ≤ 60 ∧ d.shown.length ≤ sizeLine ∧ Q (.str d.shown) H
theorem call_reprD (hgd : X.A.guards = some []) (hu : X.A.units + 64 < cLine) : CallR X (.builtin "repr") (rRepr X.K) := by
  intro pins s σ H xs us Q I r h
  obtain ⟨x, d, rfl, hd, hs, hdep, hz, q⟩ := h
  cases r with
  | @cons _ u _ _ ru rn =>
    cases rn
    obtain ⟨as, hr⟩ := Dp.reads I d x u hd ru
    have nod := dp_nodict hd
    cases hd with
    | non =>
      obtain rfl : u = Value.none := ru
      exact PySem.P.repr_of_none ⟨.str _, H, I.tok _, ⟨_, rfl⟩, by simpa only [PyData.shown] using q⟩
    | bl b =>
      obtain rfl : u = Value.bool b := ru
      exact PySem.P.repr_of_bool ⟨.str _, H, I.tok _, ⟨_, rfl⟩, by simpa only [PyData.shown] using q⟩
    | int i =>
      obtain ⟨t, rfl⟩ := ru
      exact PySem.P.repr_of_int (by simpa [PyData.showable] using hs) ⟨.str _, H, I.tok _, ⟨_, rfl⟩, by simpa only [PyData.shown] using q⟩
    | str z =>
      obtain ⟨t, rfl⟩ := ru
      exact PySem.P.repr_of_str ⟨.str _, H, I.tok _, ⟨_, rfl⟩, by simpa only [PyData.shown] using q⟩ (by simpa only [PyData.shown] using hz)
    | @lst a _ ds h1 h2 =>
      obtain rfl : u = Value.ref a := ru
      exact PySem.repr_of_reads' hr hs (fun z => absurd (nod.symm.trans z) (by decide)) hgd (by omega) (fun _ _ e => e) (fun h' u tk hk => ⟨.str _, H, I.kept hk, ⟨_, rfl⟩, q⟩) hz
    | @tup a _ ds h1 h2 =>
      obtain rfl : u = Value.ref a := ru
      exact PySem.repr_of_reads' hr hs (fun z => absurd (nod.symm.trans z) (by decide)) hgd (by omega) (fun _ _ e => e) (fun h' u tk hk => ⟨.str _, H, I.kept hk, ⟨_, rfl⟩, q⟩) hz
end
end My
/-! ### the end of a law whose def shows data -/
namespace My
open PySem PySem.Spec PyProof.Rows L2
/-- the law's call at the head, from its promise there: nothing is tracked but the script -/
theorem law_callG {P : Program} {w : World} {K : PySem.W.Frag} {mg mb : Str → Option Value} {CX : CXT} {k : Nat} {fa a : Addr} {fd : FuncData} {x : Str} {sp : Sp} {st : Shared} {vs : List Value} {ns : List Int}
    (KX : K.In st.heap) (hns : st.heap.Ns mainGlobals mg) (hb : st.heap.Ns builtinsNs mb) (hbb : ∀ x : Str, x ≠ "__name__" → mb x = bootBuiltins x)
    (hlim : st.heap.NoLimit) (hg : st.gens = #[]) (ha : st.heap.get? a = some { cls := .type "list", data := .seq vs.toArray }) (hi : IntsAre vs ns) (hl : ns.length ≤ sizeLine) (hr : Room k callerA)
    (F : ∀ base : Heap, K.In base → base.Ns mainGlobals mg → FnG P w K mg base CX k fa fd [x] sp)
    (hbind : ∀ (s : Shared) (u : Value), BindsTo s fd ⟨[u], []⟩ [(x, u)])
    (hsp : ∀ H : Hp, Only H → SqL K H a (ns.map V.int) → sp [.ref a] H (fun v _ => v = .bl true) fun _ _ _ => False)
    (hCX : ∀ H e s', CX [] H st (fun _ _ _ => False) e s' → False) :
    codeAny (model P w) callerA (.call (.ref fa) ⟨[.ref a], []⟩) (fun r s' => r = .ok (.ret (.bool true)) ∧ OldK st.heap s'.heap ∧ s'.os = st.os ∧ AllBare s'.gens) st := by
  have vints := vals_ints hi
  have vlen := hi.length
  have main : ∀ H : Hp, Only H → SqL K H a (ns.map V.int) → HOk P w H st.heap → (∀ b, b ≠ a → H b = none) → (K.lookup a = none ∨ H a = none) →
      codeAny (model P w) callerA (.call (.ref fa) ⟨[.ref a], []⟩) (fun r s' => r = .ok (.ret (.bool true)) ∧ OldK st.heap s'.heap ∧ s'.os = st.os ∧ AllBare s'.gens) st := by
    intro H only scr hok off onK
    have dictFree : ∀ {b : Addr} {m : Str → Option Value}, st.heap.Ns b m → (hidT st.heap H).Ns b m := by
      rintro b m ⟨o, es, ep, e, d, r⟩
      by_cases z : b = a
      · rw [z, ha] at e
        cases e
        cases d
      · exact ⟨o, es, ep, hidT_get e (off b z), d, r⟩
    have kIn : K.In (hidT st.heap H) := by
      intro b o e
      by_cases z : b = a
      · rcases onK with q | q
        · rw [z, q] at e
          cases e
        · exact hidT_get (KX b o e) (by rw [z]; exact q)
      · exact hidT_get (KX b o e) (off b z)
    obtain ⟨mc, lim1, lim2⟩ := hlim
    have md : Mod K mg (hidT st.heap H) := ⟨kIn, dictFree hns, ⟨mb, dictFree hb, hbb⟩, ⟨mc, dictFree lim1, lim2⟩⟩
    have e0 : Env0 P w K mg (hidT st.heap H) callerA [] st H :=
      { frames := rfl, mod := md, bs := fun b o e => of_hidT e, bsz := Nat.le_of_eq (hidT_size _ _), funs := trivial, frf := fun b z => (nomatch z), hok := hok, bare := .of_eq hg }
    have run := (F _ kIn (dictFree hns)).run callerA rfl hr [] st H ⟨[.ref a], []⟩ [.ref a] [.ref a] _ _ e0 (hbind st (.ref a)) (.cons rfl .nil) (hsp H only scr)
    refine codeAny_mono run fun r s' h => ?_
    match r, h with
    | .error e, h => exact (hCX H e s' h).elim
    | .ok .next, h => exact h.elim
    | .ok .brk, h => exact h.elim
    | .ok .cont, h => exact h.elim
    | .ok (.ret u), h =>
      obtain ⟨v, H', os, bare, un, hok', rv, q⟩ := h
      obtain rfl : v = .bl true := q
      obtain rfl : u = Value.bool true := rv
      refine ⟨rfl, OldK.of_keep fun b o e => ?_, os, bare⟩
      cases q : H b with
      | none => exact un.keep b o e q (fun z => nomatch z) (fun z => nomatch z)
      | some u =>
        cases only b with
        | inl z => rw [q] at z; cases z
        | inr z =>
          obtain ⟨ob, xs, z⟩ := z
          have old := (hok b _ z).1
          rw [e] at old
          cases old
          exact (hok' b _ (un.frzs b _ _ z)).1
  cases hk : K.lookup a with
  | some o =>
    have e := KX a o hk
    rw [ha] at e
    cases e
    exact main (fun _ => none) (fun _ => .inl rfl) (.inr ⟨_, vs.toArray, _, hk, rfl, rfl, rfl, by rw [List.size_toArray, vlen]; exact hl, by simpa using vints⟩)
      (fun _ _ z => by cases z) (fun _ _ => rfl) (.inr rfl)
  | none =>
    have off : ∀ b, b ≠ a → (fun b => if b = a then some (HO.frz { cls := .type "list", data := .seq vs.toArray } (.lst (ns.map V.int))) else none) b = none := fun b z => if_neg z
    refine main (fun b => if b = a then some (.frz { cls := .type "list", data := .seq vs.toArray } (.lst (ns.map V.int))) else none) (fun b => ?_) (.inl (.inr ⟨_, if_pos rfl⟩)) (fun b u z => ?_) off (.inl hk)
    · by_cases z : b = a
      · exact .inr ⟨_, _, if_pos z⟩
      · exact .inl (off b z)
    · by_cases q : b = a
      · obtain rfl := Option.some.inj ((if_pos q).symm.trans z)
        rw [q]
        exact ⟨ha, by rw [List.length_map]; exact hl, vs, _, vints, ha⟩
      · rw [off b q] at z
        cases z
/-- what k_head leaves, from the law's promise -/
theorem walk_ofG {l : PySem.W.OpenLaw} {n k : Nat} {q : Program} {loose : List Str} {XP : (Str → Option Value) → Heap → Prop} {YP : World → Heap → Prop} {d : DefRec} {K : Params → PySem.W.Frag} {CX : World → CXT} {sp : World → Sp} {x : Str}
    (hn : l.most = some n) (hn2 : n ≤ sizeLine) (hdf : d.params.defaults = []) (hr : Room k callerA) (hY : ∀ (w : World) (h : Heap), YP w h → (K w.params).In h)
    (F : ∀ (w : World) (mg : Str → Option Value) (fa : Addr) (h : Heap), (K w.params).In h → h.Ns mainGlobals mg → mg d.name = some (.ref fa) → ∃ fd : FuncData, (∀ (s : Shared) (u : Value), BindsTo s fd ⟨[u], []⟩ [(x, u)]) ∧
        ∀ base : Heap, (K w.params).In base → base.Ns mainGlobals mg → FnG l.prog w (K w.params) mg base (CX w) k fa fd [x] (sp w))
    (hsp : ∀ (w : World) (H : Hp) (a : Addr) (ns : List Int), ns.length ≤ n → Only H → SqL (K w.params) H a (ns.map V.int) → sp w [.ref a] H (fun v _ => v = .bl true) fun _ _ _ => False)
    (hCX : ∀ (w : World) (H : Hp) (s : Shared) (e : Value) (s' : Shared), CX w [] H s (fun _ _ _ => False) e s' → False) : PySem.W.WalkO q loose XP YP l.row.toRowW d [] (fun f vs => PySem.call f vs) := by
  refine Att.attach_call hn hdf ?_
  intro w s₀ st mg mb fa o pm cd doc a vs ns G Y ho hd hcd hmg hobj hints hlen hg
  have KX := hY w _ Y
  obtain ⟨fd, hb, hF⟩ := F w mg fa _ KX G.T.g hmg
  exact law_callG KX G.T.g G.T.b G.T.builtins G.T.nolimit hg hobj hints (Nat.le_trans hlen hn2) hr hF hb (hsp w · a ns hlen) fun H => hCX w H st
end My
/-! ### == and != of two built-in classes -/
namespace My
open PySem PySem.Spec PyProof.Rows L2 PySem.TypeEq
theorem ty_ne1 : Slot "type" (cmpInfo .NotEq).2.1 "object.__ne__" := .of (owner := "object") (n := "__ne__")
  (by rw [typeLookup_type, builtinLookup_eq_fast]; kernel_rfl) (by decide +kernel) (by decide +kernel) (by decide +kernel) (by first | exact .inr (by decide +kernel) | exact .inl (by decide +kernel))
  (by rw [isSubtype_type]; kernel_rfl)
theorem ty_ne2 : Slot "type" (cmpInfo .NotEq).2.2 "object.__ne__" := .of (owner := "object") (n := "__ne__")
  (by rw [typeLookup_type, builtinLookup_eq_fast]; kernel_rfl) (by decide +kernel) (by decide +kernel) (by decide +kernel) (by first | exact .inr (by decide +kernel) | exact .inl (by decide +kernel))
  (by rw [isSubtype_type]; kernel_rfl)
section
variable {prog : Program} {w : World} {A : Around} {E : Value → Shared → Prop} {s : Shared}
theorem objNe_body {X : String} {b : Value} {Q : Fin → Shared → Prop} (hX : ∀ s' : Shared, s'.TypeIs (.type X) "type") (hv : [Value.type X, b].any Value.onHeap = false)
    (hc : wpAny (model prog w) A (call (.builtin "object.__eq__") [.type X, b]) (fun v s' => (v = .notImplemented ∧ Q (.done (.ret .notImplemented)) s') ∨ ∃ k, v = .bool k ∧ Q (.done (.ret (.bool (!k)))) s') E s) :
    wpAny (model prog w) A (Builtin.«object.__ne__» ⟨[.type X, b], []⟩) Q E s := by
  unfold Builtin.«object.__ne__»
  refine wpAny_bind (m := slotArgs "__ne__" 1 ⟨[.type X, b], []⟩) (wpAny_pure ?_)
  dsimp only
  refine wpAny_bind (wpAny_cRoomFor_or (.inl hv) ?_)
  refine wpAny_bind (m := callSpecialIfBound? (.type X) (Str.ofString "__eq__") [b]) (wpAny_callSpecialIfBound?_slot (T := "type") (hX s) slot_type_eq (wpAny_mono hc (fun v s' h => ?_) fun _ _ e => e))
  rcases h with ⟨rfl, h⟩ | ⟨k, rfl, h⟩
  · exact wpAny_pure h
  · exact wpAny_bind (wpAny_truthy_bool (wpAny_pure h))
theorem ne_ty_same {X : String} {Q : Value → Shared → Prop} (hX : ∀ s' : Shared, s'.TypeIs (.type X) "type") (h : Q (.bool false) s) : wpAny (model prog w) A (compareOp .NotEq (.type X) (.type X)) Q E s := by
  show wpAny _ A (richCompare .NotEq _ _) Q E s
  refine wpAny_richCompare_same (T := "type") (hX s) (hX s) ty_ne1 (wpAny_call_entry ty_ne1 (hX s) F.entry_object_ne (objNe_body hX rfl ?_) (F.args_object_ne_2 _ _))
  exact call_gives slot_type_eq (hX s) F.entry_object_eq (F.args_object_eq_2 _ _) (object_eq_same rfl (by simp)) (.inr ⟨true, rfl, _, rfl, (by intro e; cases e), h⟩)
theorem ne_ty_other {X Y : String} {Q : Value → Shared → Prop} (hX : ∀ s' : Shared, s'.TypeIs (.type X) "type") (hY : ∀ s' : Shared, s'.TypeIs (.type Y) "type")
    (hne : (Value.type X == Value.type Y) = false) (hen : (Value.type Y == Value.type X) = false) (h : Q (.bool true) s) : wpAny (model prog w) A (compareOp .NotEq (.type X) (.type Y)) Q E s := by
  show wpAny _ A (richCompare .NotEq _ _) Q E s
  have k1 := ty_ne1
  have k2 := ty_ne2
  rcases hi : cmpInfo CmpOp.NotEq with ⟨sym, f, r⟩
  rw [hi] at k1 k2
  simp only [richCompare, hi, (hX s).oneThing_none]
  try with_reducible refine wpAny_holding ?_
  refine wpAny_bind (wpAny_cRoomFor_or (.inl rfl) ?_)
  refine wpAny_bind (wpAny_typeOf (hX s) ?_)
  refine wpAny_bind (wpAny_typeOf (hY s) ?_)
  simp only [bne_self_eq_false, Bool.false_eq_true, if_false, pure_bind, Bool.not_false, if_true]
  refine wpAny_bind (m := tryCompare (.type X) _ (.type Y)) (wpAny_tryCompare_declines (hX s) k1 ?_)
  refine wpAny_call_entry k1 (hX s) F.entry_object_ne (objNe_body hX rfl ?_) (F.args_object_ne_2 _ _)
  refine call_gives slot_type_eq (hX s) F.entry_object_eq (F.args_object_eq_2 _ _) (object_eq_other rfl hne) (.inl ⟨rfl, _, rfl, rfl, ?_⟩)
  refine wpAny_bind (m := tryCompare (.type Y) _ (.type X)) (wpAny_tryCompare_declines (hY s) k2 ?_)
  refine wpAny_call_entry k2 (hY s) F.entry_object_ne (objNe_body hY rfl ?_) (F.args_object_ne_2 _ _)
  refine call_gives slot_type_eq (hY s) F.entry_object_eq (F.args_object_eq_2 _ _) (object_eq_other rfl hen) (.inl ⟨rfl, _, rfl, rfl, ?_⟩)
  refine wpAny_bind (wpAny_rule (wpAny_bind (wpAny_of_eq (isSame_plain rfl) (wpAny_pure ?_))))
  rw [hne]
  exact h
end
/-- the built-in classes that are compared -/
def isTy (T : String) : Prop := ∀ s' : Shared, s'.TypeIs (.type T) "type"
theorem tyB_ty {K : PySem.W.Frag} {H : Hp} {x : V} {T : String} (h : TyB K H x T) : isTy T := by
  cases h with
  | non => exact meta_NoneType
  | bl => exact meta_bool
  | int => exact meta_int
  | str => exact meta_str
  | byt => exact meta_bytes
  | lst => exact meta_list
  | tup => exact meta_tuple
  | dK => exact meta_dict
section
variable {X : Cx}
def rTyEq : R2 := fun x y H Q => ∃ a b, x = .ty a ∧ y = .ty b ∧ isTy a ∧ isTy b ∧ Q (.bl (decide (a = b))) H
def rTyNe : R2 := fun x y H Q => ∃ a b, x = .ty a ∧ y = .ty b ∧ isTy a ∧ isTy b ∧ Q (.bl (!decide (a = b))) H
theorem op_eqTy : OpR X (compareOp .Eq) rTyEq := by
  intro pins s σ H x y v u Q I rx ry h
  obtain ⟨a, b, rfl, rfl, ha, hb, q⟩ := h
  obtain rfl : v = Value.type a := rx
  obtain rfl : u = Value.type b := ry
  by_cases e : a = b
  · subst e
    exact eq_type_same ha ⟨.bl true, H, I, rfl, by rw [decide_eq_true rfl] at q; exact q⟩
  · exact eq_type_other ha hb ((ty_beq a b).trans (decide_eq_false e)) ⟨.bl false, H, I, rfl, by rw [decide_eq_false e] at q; exact q⟩
theorem op_neTy : OpR X (compareOp .NotEq) rTyNe := by
  intro pins s σ H x y v u Q I rx ry h
  obtain ⟨a, b, rfl, rfl, ha, hb, q⟩ := h
  obtain rfl : v = Value.type a := rx
  obtain rfl : u = Value.type b := ry
  by_cases e : a = b
  · subst e
    exact ne_ty_same ha ⟨.bl false, H, I, rfl, by rw [decide_eq_true rfl] at q; exact q⟩
  · exact ne_ty_other ha hb ((ty_beq a b).trans (decide_eq_false e)) ((ty_beq b a).trans (decide_eq_false fun z => e z.symm)) ⟨.bl true, H, I, rfl, by rw [decide_eq_false e] at q; exact q⟩
end
end My
/-! ### len(set(t)), t a tuple of tuples of ints -/
namespace My
open PySem PySem.Spec PyProof.Rows L2
section
variable {P : Program} {w : World} {A : Around} {E : Value → Shared → Prop} {s : Shared}
abbrev set0 (w : World) : Obj := ⟨.type "set", none, .set #[] 0 (.fresh 0 0 (!w.params.followText "set-order")), #[]⟩
/-- what stands behind set(t) -/
def SetGot (P : Program) (w : World) (ks : List (Addr × List Int)) (s : Shared) (s' : Shared) : Prop :=
  ∃ h' tk L es ep t, s' = { s with heap := h', toks := tk } ∧ SetTR P w h' s.heap.objs.size L es ep t ∧ Got ks ks.length L ∧ ∀ b o, s.heap.get? b = some o → h'.get? b = some o
theorem beyond {h : Heap} {b : Addr} (hb : h.objs.size ≤ b) : h.get? b = none := by
  cases q : h.get? b with
  | none => rfl
  | some o =>
    exact absurd (Nat.lt_of_lt_of_le (Heap.lt_size q) hb) (Nat.lt_irrefl _)
theorem set_of_tup {l : Addr} {vs : Array Value} (ks : List (Addr × List Int)) {Q : Value → Shared → Prop} (h0 : A.handled = none) (ht : s.heap.IsTuple l vs) (hv : vs.toList = ks.map fun p => Value.ref p.1)
    (hk : ∀ p ∈ ks, IsT P w s.heap p.2 p.1) (few : ks.length < 64) (hu : A.units + 3 < cLine) (h : ∀ s', SetGot P w ks s s' → Q (.ref s.heap.objs.size) s') :
    wpAny (model P w) A (call (.type "set") [.ref l]) Q E s := by
  have sz : vs.size = ks.length := by
    rw [← Array.length_toList, hv, List.length_map]
  obtain ⟨c, tl, mro⟩ := F.called_set.mro
  have made := F.called_set.made
  have sub1 := F.called_set.sub
  refine wpAny_call (codeAny_of_tree ?_)
  show wpAny _ _ (callAny (.type "set") _) _ _ _
  refine wpAny_pure ⟨Code.quiet_builtin _ (by decide +kernel), codeAny_builtin F.entry_type_call ?_⟩
  rw [Around.under_plain (weight_type_call_type "set" [.ref l] []) rfl]
  have nt := F.called_set.notType
  have cc := F.called_set.canCreate
  have tc := F.typeCall_set_1 (.ref l)
  repeat (any_goals (first | assumption | wp_step))
  refine codeAny_mono (code_set_led1 (.ref l) (E := E) (Q₁ := fun o s1 => o = .ref s.heap.objs.size ∧ s1 = { s with heap := s.heap.push (set0 w) }) ⟨rfl, rfl⟩) fun r s1 hr => ?_
  cases r with
  | error e => exact hr
  | ok fl =>
    cases fl with
    | ret o =>
      obtain ⟨rfl, rfl⟩ := hr
      have gS : (s.heap.push (set0 w)).get? s.heap.objs.size = some (set0 w) := Heap.get?_push_size _ rfl
      have tS : Shared.TypeIs { s with heap := s.heap.push (set0 w) } (.ref s.heap.objs.size) "set" := ⟨_, gS, rfl⟩
      have li := F.called_set.init.lookup
      have bi := F.called_set.init.bind (.ref s.heap.objs.size)
      repeat (any_goals (first | assumption | wp_step))
      refine codeAny_mono (codeAny_call_builtin (R := wants (fun r s2 => r = .none ∧ SetGot P w ks s s2) E) F.called_set.init.plain F.entry_set_init (check_set_init_1 tS ?_)) fun r2 s2 hr2 => ?_
      · have ht1 : (s.heap.push (set0 w)).IsTuple l vs := ht.push _
        have lS : l < s.heap.objs.size := by
          obtain ⟨_, e, _⟩ := ht
          exact Heap.lt_size e
        obtain ⟨⟨c1, d1, x1, sl1⟩, g1, e1, n1, e2⟩ := ht1
        simp only at e1 e2
        subst e1
        subst e2
        have ht1 : (s.heap.push (set0 w)).IsTuple l vs := ⟨_, g1, rfl, n1, rfl⟩
        have f1 := F.sub_tuple_set
        have f2 := F.sub_tuple_frozenset
        have f3 : (Value.type "tuple" == Value.type "dict") = false := by decide
        unfold Builtin.«set.__init__» noKeywords Builtin.Frozenset.updateFrom
        generalize hPI : pyIter = PI
        wp_walk
        subst hPI
        refine wpAny_pyIter_tuple ht1 ?_
        refine wpAny_bind (wpAny_runValue ?_)
        have h3 : A.in1.in1.in1.handled = none := by simp [h0]
        have z1 : (s.heap.push (set0 w)).objs.size = s.heap.objs.size + 1 := Heap.size_push ..
        have lI : l ≠ (s.heap.push (set0 w)).objs.size := by
          rw [z1]
          exact Nat.ne_of_lt (Nat.lt_succ_of_lt lS)
        have item : ∀ (i : Nat) (v : Value), vs[i]? = some v → ∃ p, ks[i]? = some p ∧ v = .ref p.1 := fun i v e => by
          rw [← Array.getElem?_toList, hv, List.getElem?_map] at e
          cases q : ks[i]? with
          | none =>
            rw [q] at e
            cases e
          | some p =>
            rw [q] at e
            exact ⟨p, rfl, (Option.some.inj e).symm⟩
        refine set_update_tups ((Walks.tuple h3 _ l lI vs).toS) s.heap.objs.size ?n1 ks sz few item s.heap hk (beyond (Nat.le_refl _)) ?n2 hu vs.size 0 _ (by omega) (Nat.zero_le _)
          ⟨⟨_, Heap.get?_push_size _ rfl, rfl, rfl⟩, ht1.push _⟩ (fun b o e => Heap.get?_push_of_some _ (Heap.get?_push_of_some _ e)) ?n3 ?n4
        case n1 =>
          intro m
          rcases List.mem_cons.mp m with m | m
          · rw [z1] at m
            exact absurd m (Nat.ne_of_lt (Nat.lt_succ_self _))
          · exact absurd (List.mem_singleton.mp m).symm (Nat.ne_of_lt lS)
        case n2 =>
          intro b m
          refine beyond ?_
          rw [List.mem_singleton.mp m, z1]
          exact Nat.le_succ _
        case n3 => exact ⟨[], #[], 0, _, setTR_fresh (Heap.get?_push_of_some _ gS), Got.zero ks⟩
        case n4 =>
          rintro ⟨h', g2, d', tk', os'⟩ L es ep t mv hS' got keep
          have eg : g2 = s.gens := mv.gens
          have ed : d' = s.drawn := mv.drawn
          have eo : os' = s.os := mv.os
          subst eg ed eo
          rw [sz] at got
          show wpAny _ _ _ _ _ _
          refine wpAny_pure ?_
          show wpAny _ _ (ret Value.none) _ _ _
          exact wpAny_pure ⟨rfl, h', tk', L, es, ep, t, rfl, hS', got, keep⟩
      · cases r2 with
        | error e => exact hr2
        | ok fl2 =>
          cases fl2 with
          | ret r =>
            obtain ⟨rfl, hg⟩ := hr2
            have hq := h _ hg
            repeat (any_goals (first | assumption | wp_step))
          | _ => exact hr2.elim
    | _ => exact hr.elim
end
end My
/-! ### len(set(t)), as an expression -/
namespace My
open PySem PySem.Spec PyProof.Rows L2
theorem nd_le {α : Type} [DecidableEq α] : ∀ (l D : List α), l.Nodup → (∀ x ∈ l, x ∈ D) → l.length ≤ D.length
  | [], _, _, _ => Nat.zero_le _
  | x :: l, D, nd, h => by
    have hx := h x (.head _)
    have nd' := List.nodup_cons.mp nd
    have := nd_le l (D.erase x) nd'.2 fun y hy => (List.mem_erase_of_ne (fun e => nd'.1 (by rw [← e]; exact hy))).mpr (h y (.tail _ hy))
    rw [List.length_erase_of_mem hx] at this
    have := List.length_pos_of_mem hx
    rw [List.length_cons]
    omega
theorem dup_of {α : Type} [DecidableEq α] : ∀ D : List α, ¬ D.Nodup → ∃ x, x ∈ D.erase x
  | [], h => absurd List.nodup_nil h
  | y :: t, h => by
    by_cases hy : y ∈ t
    · exact ⟨y, by rw [List.erase_cons_head]; exact hy⟩
    · obtain ⟨x, hx⟩ := dup_of t fun n => h (List.nodup_cons.mpr ⟨hy, n⟩)
      have ne : y ≠ x := fun e => hy (e ▸ List.mem_of_mem_erase hx)
      refine ⟨x, ?_⟩
      rw [List.erase_cons_tail (by simpa using ne)]
      exact .tail _ hx
theorem nd_lt {α : Type} [DecidableEq α] {l D : List α} (nd : l.Nodup) (sub : ∀ x ∈ l, x ∈ D) (n : ¬ D.Nodup) : l.length < D.length := by
  obtain ⟨x, hx⟩ := dup_of _ n
  have h2 := nd_le _ (D.erase x) nd fun y hy => by
    by_cases e : y = x
    · rw [e]
      exact hx
    · exact (List.mem_erase_of_ne e).mpr (sub y hy)
  have hm := List.mem_of_mem_erase hx
  have := List.length_pos_of_mem hm
  rw [List.length_erase_of_mem hm] at h2
  omega
theorem got_len {ks L : List (Addr × List Int)} (g : Got ks ks.length L) (nd : (L.map (·.2)).Nodup) : L.length = ks.length ↔ (ks.map (·.2)).Nodup := by
  have sub : ∀ x ∈ L.map (·.2), x ∈ ks.map (·.2) := fun x hx => by
    obtain ⟨p, hp, rfl⟩ := List.mem_map.mp hx
    exact List.mem_map.mpr ⟨p, List.mem_of_mem_take (g.sub p hp), rfl⟩
  have all : ∀ x ∈ ks.map (·.2), x ∈ L.map (·.2) := fun x hx => by
    obtain ⟨p, hp, rfl⟩ := List.mem_map.mp hx
    exact g.all p (by rw [List.take_length]; exact hp)
  have h1 := nd_le _ _ nd sub
  rw [List.length_map, List.length_map] at h1
  constructor
  · intro e
    refine Decidable.byContradiction fun n => ?_
    have h2 := nd_lt nd sub n
    rw [List.length_map, List.length_map] at h2
    omega
  · intro n
    have h2 := nd_le _ _ n all
    rw [List.length_map, List.length_map] at h2
    omega
section
variable {X : Cx} {ta : TE}
def tLenSetT (K : PySem.W.Frag) (ta : TE) : TE := fun σ H Q => ta σ H fun x H1 => ∃ (l : Addr) (ks : List (Addr × List Int)), x = V.ref l ∧ SqT K H1 l (ks.map fun p => V.ref p.1) ∧ (∀ p ∈ ks, SqT K H1 p.1 (p.2.map V.int)) ∧ ks.length < 64 ∧
  ∀ n : Nat, (n = ks.length ↔ (ks.map (·.2)).Nodup) → Q (.int n) H1
theorem pe_lenSetT {a : Expr} {p p2 q pos : Pos} (hc : X.calm = true) (hu : X.A.units + 64 < cLine) (hg : Gl X "len") (hm : X.mg "len" = none) (hg2 : Gl X "set") (hm2 : X.mg "set" = none) (ha : PE X a ta)
    (na : starEach [a] X.env = (false, eval a X.env) :: starEach [] X.env := by rfl) : PE X (.Call (.Name "len" p) [.Call (.Name "set" p2) [a] [] q] [] pos) (tLenSetT X.K ta) := by
  refine ⟨fun pins s σ H Q I h => ?_⟩
  refine Call_ (ld_blt I hg hm PySem.boot_len (PyProof.Rows.callWith_builtin1 (PyProof.Rows.args_cons ?_ rfl) rfl rfl))
  refine Call_ (ld_blt I hg2 hm2 PyProof.Rows.boot_set (PyProof.Rows.callWith_type1 (PyProof.Rows.args_cons (thn (ha.run pins s σ H _ I h) fun v s1 hv => PyProof.Rows.args_nil ?_) na) na rfl))
  obtain ⟨x, H1, I1, r1, l, ks, rfl, hq, hk, few, q1⟩ := hv
  cases r1
  obtain ⟨its, r, pl, hz⟩ := I1.tuple hq
  refine set_of_tup (P := X.prog) (w := X.w) ks (I1.ok.hd hc) pl (by simpa using refs_of_vals r) (fun p hp => I1.isT (hk p hp)) few (by omega) fun s' hs => PyProof.Rows.args_nil ?_
  obtain ⟨h', tk, L, es, ep, t, rfl, R, g, keep⟩ := hs
  have I2 : Inv X pins σ H1 { s1 with heap := h', toks := tk } := I1.kept keep
  obtain ⟨o, ho, hex, hd⟩ := R.ob
  have sz := SetTR.size (s := { s1 with heap := h', toks := tk }) R
  have fits := SetTR.fits (s := { s1 with heap := h', toks := tk }) R
  have few2 := R.few
  refine call_len_set ho hex hd fits (by omega) ⟨.int es.size, H1, I2.tok _, ⟨_, rfl⟩, q1 _ ?_⟩
  rw [sz]
  exact got_len g R.nd
end
end My
/-! ### the program's looks at machines and rules, over data -/
namespace My
open PySem PySem.Spec PyProof.Rows L2
abbrev sWhole : Stmt := topS 4
abbrev sBetween : Stmt := topS 23
abbrev sTuple : Stmt := topS 22
abbrev sLetters : Stmt := topS 16
abbrev sWayOn : Stmt := topS 21
abbrev sTable : Stmt := topS 18
abbrev sRule : Stmt := topS 14
theorem scWhole : FnScope ["thing"] ["thing"] (defScope sWhole) := ⟨rfl, rfl, rfl, by decide +kernel, rfl, by decide +kernel, by decide +kernel⟩
theorem scBetween : FnScope ["thing", "low", "high"] ["thing", "low", "high"] (defScope sBetween) := ⟨rfl, rfl, rfl, by decide +kernel, rfl, by decide +kernel, by decide +kernel⟩
theorem scTuple : FnScope ["thing", "least", "most"] ["thing", "least", "most"] (defScope sTuple) := ⟨rfl, rfl, rfl, by decide +kernel, rfl, by decide +kernel, by decide +kernel⟩
theorem scLetters : FnScope ["thing", "ascending", "at"] ["thing"] (defScope sLetters) := ⟨rfl, rfl, rfl, by decide +kernel, rfl, by decide +kernel, by decide +kernel⟩
theorem scWayOn : FnScope ["state", "many", "targets", "target"] ["state", "many"] (defScope sWayOn) := ⟨rfl, rfl, rfl, by decide +kernel, rfl, by decide +kernel, by decide +kernel⟩
theorem scTable : FnScope ["thing", "letters", "most", "state"] ["thing", "letters", "most"] (defScope sTable) := ⟨rfl, rfl, rfl, by decide +kernel, rfl, by decide +kernel, by decide +kernel⟩
theorem scRule : FnScope ["thing", "letters", "states", "state"] ["thing"] (defScope sRule) := ⟨rfl, rfl, rfl, by decide +kernel, rfl, by decide +kernel, by decide +kernel⟩
/-! ### data: x is what d says, in the heap H -/
mutual
inductive Rp (K : PySem.W.Frag) (H : Hp) : V → PyData → Prop
  | non : Rp K H .non .none
  | bl (b : Bool) : Rp K H (.bl b) (.bool b)
  | int (i : Int) : Rp K H (.int i) (.int i)
  | str (x : Str) : x.length ≤ sizeLine → Rp K H (.str x) (.str x)
  | lst {a : Addr} {xs : List V} {ds : List PyData} : SqL K H a xs → RpAll K H xs ds → Rp K H (.ref a) (.list ds)
  | tup {a : Addr} {xs : List V} {ds : List PyData} : SqT K H a xs → RpAll K H xs ds → Rp K H (.ref a) (.tuple ds)
  | dct {a : Addr} : H a = some (.dK []) → Rp K H (.ref a) (.dict [])
inductive RpAll (K : PySem.W.Frag) (H : Hp) : List V → List PyData → Prop
  | nil : RpAll K H [] []
  | cons {v : V} {vs : List V} {d : PyData} {ds : List PyData} : Rp K H v d → RpAll K H vs ds → RpAll K H (v :: vs) (d :: ds)
end
def kindOf : PyData → String
  | .none => "NoneType"
  | .bool _ => "bool"
  | .int _ => "int"
  | .str _ => "str"
  | .list _ => "list"
  | .tuple _ => "tuple"
  | .dict _ => "dict"
theorem Rp.ty {K : PySem.W.Frag} {H : Hp} {v : V} {d : PyData} (h : Rp K H v d) : TyB K H v (kindOf d) := by
  cases h with
  | non => exact .non
  | bl => exact .bl _
  | int => exact .int _
  | str => exact .str _
  | lst h => exact .lst h
  | tup h => exact .tup h
  | dct h => exact .dK h
theorem same_tup {K : PySem.W.Frag} {H H' : Hp} {a : Addr} {xs : List V} (e : Same H H') (h : SqT K H a xs) : SqT K H' a xs := by
  rcases h with (h | ⟨o, h⟩) | h
  · exact .inl (.inl (e _ _ h))
  · exact .inl (.inr ⟨o, e _ _ h⟩)
  · exact .inr h
theorem eq_false_of_ne_true {b : Bool} (h : ¬ b = true) : b = false := by
  cases b
  · rfl
  · exact absurd rfl h
mutual
theorem Rp.go {K : PySem.W.Frag} {H H' : Hp} (s : Same H H') : ∀ {v : V} {d : PyData}, Rp K H v d → Rp K H' v d
  | _, _, .non => .non
  | _, _, .bl b => .bl b
  | _, _, .int i => .int i
  | _, _, .str x h => .str x h
  | _, _, .lst h t => .lst (s.seq h) (RpAll.go s t)
  | _, _, .tup h t => .tup (same_tup s h) (RpAll.go s t)
  | _, _, .dct h => .dct (s _ _ h)
theorem RpAll.go {K : PySem.W.Frag} {H H' : Hp} (s : Same H H') : ∀ {vs : List V} {ds : List PyData}, RpAll K H vs ds → RpAll K H' vs ds
  | _, _, .nil => .nil
  | _, _, .cons h t => .cons (Rp.go s h) (RpAll.go s t)
end
theorem RpAll.len {K : PySem.W.Frag} {H : Hp} : ∀ {vs : List V} {ds : List PyData}, RpAll K H vs ds → vs.length = ds.length
  | _, _, .nil => rfl
  | _, _, .cons _ t => congrArg (· + 1) t.len
theorem RpAll.at {K : PySem.W.Frag} {H : Hp} : ∀ {vs : List V} {ds : List PyData}, RpAll K H vs ds → ∀ {i : Nat} {v : V}, vs[i]? = some v → ∃ d, ds[i]? = some d ∧ Rp K H v d
  | _, _, .cons (d := d) h t, 0, v, e => ⟨d, rfl, by cases e; exact h⟩
  | _, _, .cons h t, i + 1, v, e => t.at (i := i) (by simpa using e)
/-! ### what the looks tell -/
def betD (lo hi : Int) : PyData → Bool
  | .int i => decide (lo ≤ i) && decide (i ≤ hi)
  | _ => false
def tupD (lo hi : Int) : PyData → Bool
  | .tuple ds => decide (lo ≤ (ds.length : Int)) && decide ((ds.length : Int) ≤ hi)
  | _ => false
def lettersL : List Nat → Bool
  | [a] => decide (97 ≤ a) && decide (a ≤ 122)
  | [a, b] => decide (a < b) && (decide (97 ≤ a) && decide (b ≤ 122))
  | [a, b, c] => (decide (a < b) && decide (b < c)) && (decide (97 ≤ a) && decide (c ≤ 122))
  | _ => false
def ltrD : PyData → Bool
  | .str z => lettersL z.cps.toList
  | _ => false
def pairD (most many : Int) : PyData → Bool
  | .tuple [p, t] => betD (-most) most p && betD 0 (many - 1) t
  | _ => false
theorem RpAll.two {K : PySem.W.Frag} {H : Hp} {vs : List V} {ds : List PyData} (h : RpAll K H vs ds) (e : ds.length = 2) : ∃ u v p t, vs = [u, v] ∧ ds = [p, t] ∧ Rp K H u p ∧ Rp K H v t := by
  cases h with
  | nil => cases e
  | cons h1 h =>
    cases h with
    | nil => cases e
    | cons h2 h =>
      cases h with
      | nil => exact ⟨_, _, _, _, rfl, rfl, h1, h2⟩
      | cons _ _ => simp at e
theorem tup_of {K : PySem.W.Frag} {H : Hp} {x : V} {d : PyData} {lo hi : Int} (h : Rp K H x d) (z : tupD lo hi d = true) : ∃ a xs ds, x = .ref a ∧ d = .tuple ds ∧ SqT K H a xs ∧ RpAll K H xs ds ∧ lo ≤ (ds.length : Int) ∧ (ds.length : Int) ≤ hi := by
  cases h with
  | tup h1 h2 =>
    rw [tupD, Bool.and_eq_true, decide_eq_true_eq, decide_eq_true_eq] at z
    exact ⟨_, _, _, rfl, rfl, h1, h2, z⟩
  | _ => exact absurd z (by simp [tupD])
theorem Rp.two {K : PySem.W.Frag} {H : Hp} {x : V} {d : PyData} (h : Rp K H x d) (z : tupD 2 2 d = true) : ∃ a u v p t, x = .ref a ∧ d = .tuple [p, t] ∧ SqT K H a [u, v] ∧ Rp K H u p ∧ Rp K H v t := by
  obtain ⟨a, xs, ds, rfl, rfl, hS, hA, l1, l2⟩ := tup_of h z
  obtain ⟨u, v, p, t, rfl, rfl, hp, ht⟩ := hA.two (by omega)
  exact ⟨a, u, v, p, t, rfl, rfl, hS, hp, ht⟩
theorem pairD_not {most many : Int} {d : PyData} (z : ¬ tupD 2 2 d = true) : pairD most many d = false := by
  unfold pairD
  split
  · exact absurd (show tupD 2 2 _ = true from rfl) z
  · rfl
theorem Rp.isStr {K : PySem.W.Frag} {H : Hp} {x : V} {d : PyData} (h : Rp K H x d) (e : kindOf d = "str") : ∃ z, x = .str z ∧ d = .str z ∧ z.length ≤ sizeLine := by
  cases h with
  | str z hz => exact ⟨z, rfl, rfl, hz⟩
  | _ => exact absurd e (by simp [kindOf])
theorem lettersL_not {z : Str} (h : ¬ (1 ≤ z.length ∧ z.length ≤ 3)) : lettersL z.cps.toList = false := by
  have e : z.cps.toList.length = z.length := Array.length_toList
  generalize z.cps.toList = l at e
  unfold lettersL
  split
  · exact absurd ⟨by rw [← e]; simp, by rw [← e]; simp⟩ h
  · exact absurd ⟨by rw [← e]; simp, by rw [← e]; simp⟩ h
  · exact absurd ⟨by rw [← e]; simp, by rw [← e]; simp⟩ h
  · rfl
theorem nat_at {l : List Nat} {j : Nat} (h : j < l.length) : l[j]? = some (l.getD j 0) := by
  rw [List.getD_eq_getElem?_getD, List.getElem?_eq_getElem h]
  rfl
theorem one_lt (a b : Nat) : decide (([a] : List Nat) < [b]) = decide (a < b) := by
  simp [List.cons_lt_cons_iff]
theorem atI_last {α : Type} {l : List α} (h : 0 < l.length) : atI l (-1) = l[l.length - 1]? := by
  unfold atI ixN
  rw [if_neg (by decide), if_pos (by omega)]
  show l[(-1 + (l.length : Int)).toNat]? = _
  rw [show (-1 + (l.length : Int)).toNat = l.length - 1 by omega]
theorem same_new {H H' : Hp} {D : Addr} {o : HO} (sm : Same H H') (n : H D = none) : Same H (upd H' D o) := fun b x e => by
  rw [upd_ne (ne_of_none e n)]
  exact sm _ _ e
theorem letters_eq {l : List Nat} (h : 1 ≤ l.length ∧ l.length ≤ 3) : lettersL l = (((List.range (l.length - 1)).map fun i => decide (l.getD i 0 < l.getD (i + 1) 0)).all id && (!decide (([l.getD 0 0] : List Nat) < [97]) && !decide (([122] : List Nat) < [l.getD (l.length - 1) 0]))) := by
  have e : ∀ a b : Nat, (!decide (a < b)) = decide (b ≤ a) := fun a b => by
    by_cases z : a < b
    · rw [decide_eq_true z, decide_eq_false (by omega)]
      rfl
    · rw [decide_eq_false z, decide_eq_true (by omega)]
      rfl
  rw [one_lt, one_lt, e, e]
  match l, h with
  | [a], _ => simp [lettersL]
  | [a, b], _ => simp [lettersL, List.range_succ]
  | [a, b, c], _ => simp [lettersL, List.range_succ]
theorem ltrD_not {d : PyData} (h : ¬ kindOf d = "str") : ltrD d = false := by
  cases d with
  | str z => exact absurd rfl h
  | _ => rfl
def lenD : PyData → Nat
  | .str z => z.length
  | _ => 0
def tabD (n : Nat) (most : Int) : PyData → Bool
  | .tuple ds => tupD 1 most (.tuple ds) && ds.all (tupD (n : Int) (n : Int))
  | _ => false
def frmD (most : Int) : PyData → Bool
  | .tuple [b, l, s] => betD 2 9 b && (ltrD l && tabD (lenD l) most s)
  | _ => false
def someD : PyData → Bool
  | .none => false
  | _ => true
def wayD (many : Int) : PyData → Bool
  | .tuple ds => decide ((0 : Int) < ((ds.filter someD).length : Int)) && (ds.filter someD).all (betD 0 (many - 1))
  | _ => false
theorem lc_tupO {K : PySem.W.Frag} {a : Addr} {xs : List V} {H0 : Hp} {Qd : Hp → Prop} {B : V → Hp → (Hp → Prop) → Prop} (Pv : Nat → Hp → Prop) (h0 : Pv 0 H0) (hl : ∀ i H, Pv i H → SqT K H a xs)
    (hs : ∀ i x H, xs[i]? = some x → Pv i H → B x H (Pv (i + 1))) (hd : ∀ H, Pv xs.length H → Qd H) :
    ∃ W : Nat → Nat → Hp → Prop, (∃ m, W 0 m H0) ∧ ∀ i m H, W i m H → ((Itt K a).stop i H ∧ Qd H) ∨ ((Itt K a).go i H ∧ ∃ Nx : Hp → Prop, (∀ H', Nx H' → ∃ m', m' < m ∧ W (i + 1) m' H') ∧ ∀ x H', (Itt K a).yld i H x H' → B x H' Nx) := by
  refine ⟨fun i m H => m + i = xs.length ∧ Pv i H, ⟨xs.length, by omega, h0⟩, fun i m H h => ?_⟩
  have q := hl i H h.2
  rcases Nat.lt_or_ge i xs.length with lt | ge
  · refine .inr ⟨⟨xs, xs[i], q, List.getElem?_eq_getElem lt⟩, Pv (i + 1), fun H' p => ⟨m - 1, by omega, by omega, p⟩, fun x H' y => ?_⟩
    obtain ⟨rfl, y⟩ := y
    exact hs i x _ (y xs q) h.2
  · obtain rfl : i = xs.length := by omega
    exact .inl ⟨⟨xs, q, Nat.le_refl _⟩, hd H h.2⟩
theorem lc_lstO {K : PySem.W.Frag} {a : Addr} {xs : List V} {H0 : Hp} {Qd : Hp → Prop} {B : V → Hp → (Hp → Prop) → Prop} (Pv : Nat → Hp → Prop) (h0 : Pv 0 H0) (hl : ∀ i H, Pv i H → SqL K H a xs)
    (hs : ∀ i x H, xs[i]? = some x → Pv i H → B x H (Pv (i + 1))) (hd : ∀ H, Pv xs.length H → Qd H) :
    ∃ W : Nat → Nat → Hp → Prop, (∃ m, W 0 m H0) ∧ ∀ i m H, W i m H → ((Itl K a).stop i H ∧ Qd H) ∨ ((Itl K a).go i H ∧ ∃ Nx : Hp → Prop, (∀ H', Nx H' → ∃ m', m' < m ∧ W (i + 1) m' H') ∧ ∀ x H', (Itl K a).yld i H x H' → B x H' Nx) := by
  refine ⟨fun i m H => m + i = xs.length ∧ Pv i H, ⟨xs.length, by omega, h0⟩, fun i m H h => ?_⟩
  have q := hl i H h.2
  rcases Nat.lt_or_ge i xs.length with lt | ge
  · refine .inr ⟨⟨xs, xs[i], q, List.getElem?_eq_getElem lt⟩, Pv (i + 1), fun H' p => ⟨m - 1, by omega, by omega, p⟩, fun x H' y => ?_⟩
    obtain ⟨rfl, y⟩ := y
    exact hs i x _ (y xs q) h.2
  · obtain rfl : i = xs.length := by omega
    exact .inl ⟨⟨xs, q, Nat.le_refl _⟩, hd H h.2⟩
theorem RpAll.three {K : PySem.W.Frag} {H : Hp} {vs : List V} {ds : List PyData} (h : RpAll K H vs ds) (e : ds.length = 3) : ∃ u v y p t z, vs = [u, v, y] ∧ ds = [p, t, z] ∧ Rp K H u p ∧ Rp K H v t ∧ Rp K H y z := by
  cases h with
  | nil => cases e
  | cons h1 h =>
    obtain ⟨_, _, _, _, rfl, rfl, h2, h3⟩ := h.two (by simpa using e)
    exact ⟨_, _, _, _, _, _, rfl, rfl, h1, h2, h3⟩
theorem frmD_not {most : Int} {d : PyData} (z : ¬ tupD 3 3 d = true) : frmD most d = false := by
  unfold frmD
  split
  · exact absurd (show tupD 3 3 _ = true from rfl) z
  · rfl
theorem tabD_not {n : Nat} {most : Int} {d : PyData} (z : ¬ tupD 1 most d = true) : tabD n most d = false := by
  unfold tabD
  split
  · rw [eq_false_of_ne_true z, Bool.false_and]
  · rfl
theorem take_all {α : Type} {f : α → Bool} {ds : List α} {j : Nat} {d : α} (e : ds[j]? = some d) : (ds.take (j + 1)).map f = (ds.take j).map f ++ [f d] := by
  rw [List.take_succ, e, List.map_append]
  rfl
theorem all_map {α : Type} (f : α → Bool) (ds : List α) : (ds.map f).all id = ds.all f := by
  rw [List.all_map]
  rfl
theorem ltrD_str {d : PyData} (h : ltrD d = true) : kindOf d = "str" := by
  cases d with
  | str z => rfl
  | _ => exact absurd h (by simp [ltrD])
def someV : V → Bool
  | .non => false
  | _ => true
theorem someV_eq (x : V) : someV x = !decide (x = .non) := by
  by_cases h : x = .non
  · rw [decide_eq_true h, h]
    rfl
  · rw [decide_eq_false h]
    cases x <;> first | rfl | exact absurd rfl h
theorem some_of {K : PySem.W.Frag} {H : Hp} {x : V} {d : PyData} (h : Rp K H x d) : someV x = someD d := by
  cases h <;> rfl
theorem RpAll.some {K : PySem.W.Frag} {H : Hp} : ∀ {vs : List V} {ds : List PyData}, RpAll K H vs ds → RpAll K H (vs.filter someV) (ds.filter someD)
  | _, _, .nil => .nil
  | _, _, .cons (v := v) (d := d) h t => by
    have e := some_of h
    rw [List.filter_cons, List.filter_cons, e]
    cases someD d
    · exact t.some
    · exact .cons h t.some
def rulD : PyData → Bool
  | .tuple [l, .tuple ss] => ltrD l && (tabD (lenD l) 4 (.tuple ss) && ss.all (wayD (ss.length : Int)))
  | _ => false
def elems : PyData → List PyData
  | .tuple ds => ds
  | _ => []
def keyD : PyData → List Int
  | .tuple [.int p, .int t] => [p, t]
  | _ => []
def chD (many : Int) : PyData → Bool
  | .tuple ds => tupD 1 3 (.tuple ds) && (ds.all (pairD 20 many) && decide ((ds.map keyD).Nodup))
  | _ => false
def plnD : PyData → Bool
  | .tuple [b, l, .tuple ss] => frmD 300 (.tuple [b, l, .tuple ss]) && (ss.flatMap fun st => (elems st).map (pairD ((10 : Int) ^ (30 : Int).toNat) (ss.length : Int))).all id
  | _ => false
def mchD : PyData → Bool
  | .tuple [b, l, .tuple ss] => frmD 4 (.tuple [b, l, .tuple ss]) && (ss.flatMap fun st => (elems st).map (chD (ss.length : Int))).all id
  | _ => false
theorem ltrD_len {d : PyData} (h : ltrD d = true) : lenD d ≤ 3 := by
  cases d with
  | str z =>
    by_cases e : 1 ≤ z.length ∧ z.length ≤ 3
    · exact e.2
    · rw [ltrD, lettersL_not e] at h
      cases h
  | _ => exact absurd h (by simp [ltrD])
theorem rulD_not {d : PyData} (z : ¬ tupD 2 2 d = true) : rulD d = false := by
  unfold rulD
  split
  · exact absurd (show tupD 2 2 _ = true from rfl) z
  · rfl
theorem tabD_tup {n : Nat} {most : Int} {d : PyData} (h : tabD n most d = true) : tupD 1 most d = true ∧ ∀ e ∈ elems d, tupD (n : Int) (n : Int) e = true := by
  cases d with
  | tuple ds =>
    rw [tabD, Bool.and_eq_true, List.all_eq_true] at h
    exact h
  | _ => exact absurd h (by simp [tabD])
theorem flat_len {α β : Type} {g : α → List β} {n : Nat} : ∀ (l : List α), (∀ x ∈ l, (g x).length ≤ n) → (l.flatMap g).length ≤ n * l.length
  | [], _ => by simp
  | x :: l, h => by
    have h1 := h x (.head _)
    have h2 := flat_len l fun y hy => h y (.tail _ hy)
    rw [List.flatMap_cons, List.length_append, List.length_cons, Nat.mul_add, Nat.mul_one]
    omega
theorem take_flat {α β : Type} {g : α → List β} {l : List α} {i : Nat} {x : α} (e : l[i]? = some x) : (l.take (i + 1)).flatMap g = (l.take i).flatMap g ++ g x := by
  rw [List.take_succ, e, List.flatMap_append]
  simp
theorem frm_of {K : PySem.W.Frag} {H : Hp} {x : V} {d : PyData} {most : Int} (h : Rp K H x d) (z : frmD most d = true) : ∃ a u v c b l ss xs, x = .ref a ∧ d = .tuple [b, l, .tuple ss] ∧ SqT K H a [u, v, .ref c] ∧ SqT K H c xs ∧ RpAll K H xs ss ∧ (∀ e ∈ ss, ∃ es, e = .tuple es ∧ es.length ≤ 3) ∧ 1 ≤ ss.length ∧ (ss.length : Int) ≤ most := by
  by_cases y : tupD 3 3 d = true
  · obtain ⟨a, xs, ds, rfl, rfl, hS, hA, l1, l2⟩ := tup_of h y
    obtain ⟨u, v, t, b, l, e, rfl, rfl, hb, hl, he⟩ := hA.three (by omega)
    rw [frmD, Bool.and_eq_true, Bool.and_eq_true] at z
    have ht := tabD_tup z.2.2
    have hlen := ltrD_len z.2.1
    obtain ⟨c, ys, ss, rfl, rfl, hS2, hA2, l3, l4⟩ := tup_of he ht.1
    refine ⟨a, u, v, c, b, l, ss, ys, rfl, rfl, hS, hS2, hA2, fun e he => ?_, by omega, l4⟩
    have := ht.2 e he
    cases e with
    | tuple es =>
      rw [tupD, Bool.and_eq_true, decide_eq_true_eq, decide_eq_true_eq] at this
      exact ⟨es, rfl, by omega⟩
    | _ => exact absurd this (by simp [tupD])
  · rw [frmD_not y] at z
    cases z
theorem plnD_not {d : PyData} (z : ¬ frmD 300 d = true) : plnD d = false := by
  unfold plnD
  split
  · rw [eq_false_of_ne_true z, Bool.false_and]
  · rfl
theorem mchD_not {d : PyData} (z : ¬ frmD 4 d = true) : mchD d = false := by
  unfold mchD
  split
  · rw [eq_false_of_ne_true z, Bool.false_and]
  · rfl
theorem Rp.isTup {K : PySem.W.Frag} {H : Hp} {x : V} {es : List PyData} (h : Rp K H x (.tuple es)) : ∃ a ys, x = .ref a ∧ SqT K H a ys ∧ RpAll K H ys es := by
  cases h with
  | tup h1 h2 => exact ⟨_, _, rfl, h1, h2⟩
theorem chD_not {many : Int} {d : PyData} (z : ¬ tupD 1 3 d = true) : chD many d = false := by
  unfold chD
  split
  · rw [eq_false_of_ne_true z, Bool.false_and]
  · rfl
theorem betD_int {lo hi : Int} {d : PyData} (h : betD lo hi d = true) : ∃ i, d = .int i := by
  cases d with
  | int i => exact ⟨i, rfl⟩
  | _ => exact absurd h (by simp [betD])
theorem Rp.isInt {K : PySem.W.Frag} {H : Hp} {x : V} {i : Int} (h : Rp K H x (.int i)) : x = .int i := by
  cases h
  rfl
theorem pairs_of {K : PySem.W.Frag} {H : Hp} {most many : Int} : ∀ {vs : List V} {ds : List PyData}, RpAll K H vs ds → (∀ e ∈ ds, pairD most many e = true) →
    ∃ ks : List (Addr × List Int), vs = ks.map (fun p => V.ref p.1) ∧ (∀ p ∈ ks, SqT K H p.1 (p.2.map V.int)) ∧ ks.map (·.2) = ds.map keyD
  | _, _, .nil, _ => ⟨[], rfl, fun _ h => (nomatch h), rfl⟩
  | _, _, .cons (d := d) h t, al => by
    obtain ⟨ks, e1, e2, e3⟩ := pairs_of t fun e he => al e (.tail _ he)
    have hd := al d (.head _)
    by_cases z : tupD 2 2 d = true
    · obtain ⟨a, u, v, p, t, rfl, rfl, hS, hp, ht⟩ := h.two z
      rw [pairD, Bool.and_eq_true] at hd
      obtain ⟨i, rfl⟩ := betD_int hd.1
      obtain ⟨j, rfl⟩ := betD_int hd.2
      obtain rfl := hp.isInt
      obtain rfl := ht.isInt
      refine ⟨(a, [i, j]) :: ks, by rw [e1]; rfl, fun p hp => ?_, by rw [List.map_cons, e3]; rfl⟩
      rcases List.mem_cons.mp hp with rfl | hp
      · exact hS
      · exact e2 p hp
    · rw [pairD_not z] at hd
      cases hd
theorem len_seqK {X : Cx} {K : PySem.W.Frag} (e : X.K = K) : CallR X (.builtin "len") (fun xs H Q => ∃ p ys, xs = [.ref p] ∧ (SqL K H p ys ∨ SqT K H p ys) ∧ Q (.int ys.length) H) := by
  subst e
  exact call_len_seq
theorem pi_tupK {X : Cx} {K : PySem.W.Frag} {tg l : Expr} {tl : TE} (e : X.K = K) (h : PE X l tl) : PI X tg l (iTup K tl) := by
  subst e
  exact pi_tup h
structure LookTxt (K : PySem.W.Frag) (mg : Str → Option Value) (m1 m2 m3 m4 m6 m7 m12 : Addr) (n1 n2 n3 n4 n6 n7 n12 : FuncData) (t1 t2 : Tok) : Prop where
  type : mg "type" = none
  int : mg "int" = none
  tuple : mg "tuple" = none
  str : mg "str" = none
  len : mg "len" = none
  all : mg "all" = none
  range : mg "range" = none
  mLetters : mg "MOST_LETTERS" = some (.int 3 t1)
  mStates : mg "MOST_STATES" = some (.int 4 t2)
  FWhole : Fun K "is_whole" "is_whole" sWhole m1 n1
  bWhole : Binds K n1 ["thing"] []
  gWhole : mg "is_whole" = some (.ref m1)
  FBetween : Fun K "is_between" "is_between" sBetween m2 n2
  bBetween : Binds K n2 ["thing", "low", "high"] []
  gBetween : mg "is_between" = some (.ref m2)
  FTuple : Fun K "is_tuple" "is_tuple" sTuple m3 n3
  bTuple : Binds K n3 ["thing", "least", "most"] []
  gTuple : mg "is_tuple" = some (.ref m3)
  FLetters : Fun K "is_letters" "is_letters" sLetters m4 n4
  bLetters : Binds K n4 ["thing"] []
  gLetters : mg "is_letters" = some (.ref m4)
  FWayOn : Fun K "is_way_on" "is_way_on" sWayOn m6 n6
  bWayOn : Binds K n6 ["state", "many"] []
  gWayOn : mg "is_way_on" = some (.ref m6)
  FTable : Fun K "is_table" "is_table" sTable m7 n7
  bTable : Binds K n7 ["thing", "letters", "most"] []
  gTable : mg "is_table" = some (.ref m7)
  FRule : Fun K "is_rule" "is_rule" sRule m12 n12
  bRule : Binds K n12 ["thing"] []
  gRule : mg "is_rule" = some (.ref m12)
/-! ### the promises -/
def spWhole (K : PySem.W.Frag) : Sp := fun vs H Q _ => ∃ x d, vs = [x] ∧ Rp K H x d ∧ Q (.bl (decide (kindOf d = "int"))) H
def spBetween (K : PySem.W.Frag) : Sp := fun vs H Q _ => ∃ x d lo hi, vs = [x, .int lo, .int hi] ∧ Rp K H x d ∧ Q (.bl (betD lo hi d)) H
def spTuple (K : PySem.W.Frag) : Sp := fun vs H Q _ => ∃ x d lo hi, vs = [x, .int lo, .int hi] ∧ Rp K H x d ∧ Q (.bl (tupD lo hi d)) H
def spLetters (K : PySem.W.Frag) : Sp := fun vs H Q _ => ∃ x d, vs = [x] ∧ Rp K H x d ∧ ∀ H', Same H H' → Q (.bl (ltrD d)) H'
def spTable (K : PySem.W.Frag) : Sp := fun vs H Q _ => ∃ x d z most, vs = [x, .str z, .int most] ∧ Rp K H x d ∧ z.length ≤ sizeLine ∧ most < sizeLine ∧ ∀ H', Same H H' → Q (.bl (tabD z.length most d)) H'
def spWayOn (K : PySem.W.Frag) : Sp := fun vs H Q _ => ∃ a xs ds many, vs = [.ref a, .int many] ∧ SqT K H a xs ∧ RpAll K H xs ds ∧ ds.length ≤ 1000 ∧ ∀ H', Same H H' → Q (.bl (wayD many (.tuple ds))) H'
def spRule (K : PySem.W.Frag) : Sp := fun vs H Q _ => ∃ x d, vs = [x] ∧ Rp K H x d ∧ ∀ H', Same H H' → Q (.bl (rulD d)) H'
section
variable {P : Program} {w : World} {K : PySem.W.Frag} {mg : Str → Option Value} {base : Heap} {m1 m2 m3 m4 m6 m7 m12 : Addr} {n1 n2 n3 n4 n6 n7 n12 : FuncData} {t1 t2 : Tok}
theorem ok_whole (T : LookTxt K mg m1 m2 m3 m4 m6 m7 m12 n1 n2 n3 n4 n6 n7 n12 t1 t2) {k : Nat} : FnOk P w K mg base CX0 (k + 1) m1 n1 ["thing"] (spWhole K) := by
  refine T.FWhole.ok scWhole (fun vs H Q E h => ?_) (fun cdv A outer s H vs Q E hr h => ?_)
  · obtain ⟨x, t, rfl, _⟩ := h
    rfl
  · obtain ⟨x, d, rfl, hd, q⟩ := h
    refine ⟨_, (pss_one (ps_ret (pe_cmpR op_eqTy (pe_callTy call_type1 (by rfl) T.type (by decide +kernel) (pa_cons (pv 0) pa_nil)) (pe_bltn (v := .ty "int") (by rfl) T.int (by decide +kernel) rfl) (nomark _)))), ?_⟩
    exact ⟨_, rfl, _, _, rfl, hd.ty, _, _, rfl, rfl, tyB_ty hd.ty, TypeEq.meta_int, q⟩
theorem ok_between (T : LookTxt K mg m1 m2 m3 m4 m6 m7 m12 n1 n2 n3 n4 n6 n7 n12 t1 t2) {k : Nat} : FnOk P w K mg base CX0 (k + 2) m2 n2 ["thing", "low", "high"] (spBetween K) := by
  have GW : FnOk P w K mg base CX0 (k + 1) m1 n1 ["thing"] (spWhole K) := ok_whole T
  refine T.FBetween.ok scBetween (fun vs H Q E h => ?_) (fun cdv A outer s H vs Q E hr h => ?_)
  · obtain ⟨x, t, lo, hi, rfl, _⟩ := h
    rfl
  · obtain ⟨x, d, lo, hi, rfl, hd, q⟩ := h
    refine ⟨_, (pss_one (ps_ret (pe_and (pe_call GW hr (by rfl) T.gWhole T.FWhole.kp T.bWhole .nil pass0 (pa_cons (pv 0) pa_nil)) (pe_one (pe_chain op_le op_le (pv 1) (pv 0) (pv 2)))))), ?_⟩
    refine ⟨_, rfl, x, d, rfl, hd, _, rfl, ?_⟩
    cases hd with
    | int i =>
      refine ite2 (fun _ => ?_) (fun z => absurd (decide_eq_true rfl) z)
      refine ⟨_, rfl, _, rfl, _, _, rfl, rfl, _, rfl, ite2 (fun z => ?_) (fun z => ?_)⟩
      · refine ⟨_, rfl, _, _, rfl, rfl, ?_⟩
        rw [betD, z, Bool.true_and] at q
        exact q
      · rw [betD, eq_false_of_ne_true z, Bool.false_and] at q
        exact q
    | _ => exact ite2 (fun z => absurd (of_decide_eq_true z) (by simp [kindOf])) (fun _ => q)
theorem ok_tuple (T : LookTxt K mg m1 m2 m3 m4 m6 m7 m12 n1 n2 n3 n4 n6 n7 n12 t1 t2) {k : Nat} : FnOk P w K mg base CX0 (k + 1) m3 n3 ["thing", "least", "most"] (spTuple K) := by
  refine T.FTuple.ok scTuple (fun vs H Q E h => ?_) (fun cdv A outer s H vs Q E hr h => ?_)
  · obtain ⟨x, t, lo, hi, rfl, _⟩ := h
    rfl
  · obtain ⟨x, d, lo, hi, rfl, hd, q⟩ := h
    refine ⟨_, (pss_one (ps_ret (pe_and (pe_cmpR op_eqTy (pe_callTy call_type1 (by rfl) T.type (by decide +kernel) (pa_cons (pv 0) pa_nil)) (pe_bltn (v := .ty "tuple") (by rfl) T.tuple (by decide +kernel) rfl) (nomark _)) (pe_one (pe_chain op_le op_le (pv 1) (pe_callB call_len_seq (by rfl) T.len PySem.boot_len (pa_cons (pv 0) pa_nil)) (pv 2)))))), ?_⟩
    refine ⟨_, rfl, _, _, rfl, hd.ty, _, _, rfl, rfl, tyB_ty hd.ty, TypeEq.meta_tuple, _, rfl, ?_⟩
    cases hd with
    | @tup a xs ds h1 h2 =>
      refine ite2 (fun _ => ?_) (fun z => absurd (decide_eq_true rfl) z)
      refine ⟨_, rfl, _, rfl, a, xs, rfl, .inr h1, _, _, rfl, rfl, _, rfl, ?_⟩
      rw [h2.len]
      refine ite2 (fun z => ?_) (fun z => ?_)
      · refine ⟨_, rfl, _, _, rfl, rfl, ?_⟩
        rw [tupD, z, Bool.true_and] at q
        exact q
      · rw [tupD, eq_false_of_ne_true z, Bool.false_and] at q
        exact q
    | _ => exact ite2 (fun z => absurd (of_decide_eq_true z) (by simp [kindOf])) (fun _ => q)
theorem ok_letters (T : LookTxt K mg m1 m2 m3 m4 m6 m7 m12 n1 n2 n3 n4 n6 n7 n12 t1 t2) {k : Nat} : FnOk P w K mg base CX0 (k + 1) m4 n4 ["thing"] (spLetters K) := by
  refine T.FLetters.ok scLetters (fun vs H Q E h => ?_) (fun cdv A outer s H vs Q E hr h => ?_)
  · obtain ⟨x, t, rfl, _⟩ := h
    rfl
  · obtain ⟨x, d, rfl, hd, q⟩ := h
    refine ⟨_, (pss_cons (ps_if (PW.pt (pw_or (pt_cmpR op_neTy (pe_callTy call_type1 (by rfl) T.type (by decide +kernel) (pa_cons (pv 0) pa_nil)) (pe_bltn (v := .ty "str") (by rfl) T.str (by decide +kernel) rfl) (nomark _)) (pw_or1 (pt_not (pt_chain op_le op_le pe_int (pe_callB call_len_str (by rfl) T.len PySem.boot_len (pa_cons (pv 0) pa_nil)) (pe_glob (v := .int 3) (by rfl) T.mLetters ⟨_, rfl⟩)))))) (pss_one (ps_ret pe_bl)) pss_nil)
 (pss_cons (ps_setLc (i := 1) (own := [("at", 2)]) (g := gName 2) (tt := tYes) (by rfl) scLetters.nd rfl rfl (sw_true rfl rfl rfl (by decide +kernel)) (pi_range1 (by rfl) T.range (pa_cons (pe_op op_sub (pe_callB call_len_str (by rfl) T.len PySem.boot_len (pa_cons (pv 0) pa_nil)) pe_int) pa_nil)) (blkOk_by (N := ["thing", "ascending", "at"]) (sc := defScope sLetters) (by decide +kernel)) (fun _ _ _ _ _ => pg_name (i := 2) scLetters.nd rfl (Or.inl rfl)) (fun _ _ _ _ _ => pts_nil) (fun _ _ _ _ _ => (pe_cmpR op_lt_str (pe_ix ix_str (pv 0) (pv 2) (fun _ _ => rfl)) (pe_ix ix_str (pv 0) (pe_op op_add (pv 2) pe_int) (fun _ _ => rfl)) (nomark _))))
 (pss_one (ps_ret (pe_and (pe_callB (cr_all rfl) (by rfl) T.all (by decide +kernel) (pa_cons (pv 1) pa_nil)) (pe_and (pe_cmpR op_le_str pe_str (pe_ix ix_str (pv 0) pe_int (fun _ _ => rfl)) (nomark _)) (pe_one (pe_cmpR op_le_str (pe_ix ix_str (pv 0) (pe_un un_neg pe_int) (fun _ _ => rfl)) pe_str (nomark _))))))))), ?_⟩
    refine ⟨_, rfl, _, _, rfl, hd.ty, _, _, rfl, rfl, tyB_ty hd.ty, TypeEq.meta_str, _, rfl, ?_⟩
    by_cases hk : kindOf d = "str"
    · obtain ⟨z, rfl, rfl, hz⟩ := hd.isStr hk
      refine ite2 (fun y => absurd y (by simp [kindOf])) (fun _ => ?_)
      refine ⟨_, rfl, z, rfl, hz, _, _, rfl, rfl, _, rfl, ?_⟩
      by_cases hl : 1 ≤ z.length ∧ z.length ≤ 3
      · have e1 : (1 : Int) ≤ (z.length : Int) := by omega
        have e3 : (z.length : Int) ≤ 3 := by omega
        refine ite2 (fun _ => ?_) (fun y => absurd (decide_eq_true e1) y)
        refine ⟨_, _, rfl, rfl, _, rfl, ?_⟩
        refine ite2 (fun y => absurd y (by rw [decide_eq_true e3]; decide)) (fun _ => ?_)
        refine ⟨_, rfl, z, rfl, hz, _, _, rfl, rfl, ?_⟩
        refine ⟨_, rfl, by omega, by omega, fun D nD => ?_⟩
        have en : ((z.length : Int) - 1).toNat = z.length - 1 := by omega
        rw [en]
        have ll : z.cps.toList.length = z.length := Array.length_toList
        refine lc_range (lo := 0) (n := z.length - 1) (fun j H' => Same H H' ∧ H' D = some (.lst (((List.range j).map fun i => decide (z.cps.toList.getD i 0 < z.cps.toList.getD (i + 1) 0)).map V.bl))) ⟨same_upd nD, upd_same⟩ ?_ ?_
        · rintro j H' hj ⟨sm, hD⟩
          have a1 := nat_at (l := z.cps.toList) (j := j) (by omega)
          have a2 := nat_at (l := z.cps.toList) (j := j + 1) (by omega)
          refine ⟨rfl, ?_⟩
          refine ⟨_, rfl, _, rfl, z, _, _, rfl, rfl, hz, (by rw [Int.zero_add]; exact atI_nat a1), ?_⟩
          refine ⟨_, rfl, _, rfl, _, _, rfl, rfl, z, _, _, rfl, rfl, hz, (by rw [show (0 + (j : Int)) + 1 = ((j + 1 : Nat) : Int) by omega]; exact atI_nat a2), ?_⟩
          refine ⟨_, _, rfl, rfl, _, hD, ?_, same_new sm nD, ?_⟩
          · rw [List.length_map, List.length_map, List.length_range]
            exact Nat.lt_of_lt_of_le (show j < 3 by omega) (by decide)
          · rw [upd_same, List.range_succ, List.map_append, List.map_append]
            show some (HO.lst (_ ++ [V.bl (decide ([z.cps.toList.getD j 0] < [z.cps.toList.getD (j + 1) 0]))])) = _
            rw [one_lt]
            rfl
        · rintro H' ⟨sm, hD⟩
          have a1 := nat_at (l := z.cps.toList) (j := 0) (by omega)
          have a2 := nat_at (l := z.cps.toList) (j := z.cps.toList.length - 1) (by omega)
          have q1 := q H' sm
          rw [ltrD, letters_eq (by rw [ll]; exact hl), ll] at q1
          refine ⟨_, rfl, D, _, rfl, SqL.of hD, _, rfl, ite2 (fun y => ?_) (fun y => ?_)⟩
          · rw [y, Bool.true_and] at q1
            refine ⟨_, rfl, z, 0, _, rfl, rfl, hz, atI_nat (j := 0) a1, _, _, rfl, rfl, _, rfl, ite2 (fun u => ?_) (fun u => ?_)⟩
            · refine ⟨_, rfl, _, rfl, z, _, _, rfl, rfl, hz, (atI_last (by omega)).trans a2, _, _, rfl, rfl, ?_⟩
              rw [show (!decide ([z.cps.toList.getD 0 0] < [97])) = true from u, Bool.true_and] at q1
              rw [ll]
              exact q1
            · rw [show (!decide ([z.cps.toList.getD 0 0] < [97])) = false from eq_false_of_ne_true u, Bool.false_and] at q1
              exact q1
          · rw [eq_false_of_ne_true y, Bool.false_and] at q1
            exact q1
      · have q0 := q H (Same.refl H)
        rw [ltrD, lettersL_not hl] at q0
        refine ite2 (fun y => ?_) (fun y => ?_)
        · refine ⟨_, _, rfl, rfl, _, rfl, ?_⟩
          refine ite2 (fun _ => q0) (fun z3 => absurd ?_ z3)
          have y1 := of_decide_eq_true y
          rw [decide_eq_false (by omega)]
          rfl
        · exact ⟨_, rfl, ite2 (fun _ => q0) (fun u => absurd rfl u)⟩
    · refine ite2 (fun _ => ?_) (fun y => absurd (by rw [decide_eq_false hk]; rfl) y)
      have q0 := q H (Same.refl H)
      rw [ltrD_not hk] at q0
      exact q0
theorem ok_table (T : LookTxt K mg m1 m2 m3 m4 m6 m7 m12 n1 n2 n3 n4 n6 n7 n12 t1 t2) {k : Nat} : FnOk P w K mg base CX0 (k + 2) m7 n7 ["thing", "letters", "most"] (spTable K) := by
  have GT : FnOk P w K mg base CX0 (k + 1) m3 n3 ["thing", "least", "most"] (spTuple K) := ok_tuple T
  refine T.FTable.ok scTable (fun vs H Q E h => ?_) (fun cdv A outer s H vs Q E hr h => ?_)
  · obtain ⟨x, d, z, most, rfl, _⟩ := h
    rfl
  · obtain ⟨x, d, z, most, rfl, hd, hz, hm, q⟩ := h
    refine ⟨_, (pss_cons (ps_if (pt_not (pt_val (pe_call GT hr (by rfl) T.gTuple T.FTuple.kp T.bTuple .nil pass0 (pa_cons (pv 0) (pa_cons pe_int (pa_cons (pv 2) pa_nil)))))) (pss_one (ps_ret pe_bl)) pss_nil)
 (pss_one (ps_ret (pe_callB (cr_all rfl) (by rfl) T.all (by decide +kernel) (pa_cons (pe_lc (own := [("state", 3)]) (g := gName 3) (tt := tYes) (by rfl) scTable.nd (pi_tup (pv 0)) (blkOk_by (N := ["thing", "letters", "most", "state"]) (sc := defScope sTable) (by decide +kernel)) (fun _ _ _ _ _ => pg_name (i := 3) scTable.nd rfl (Or.inl rfl)) (fun _ _ _ _ _ => pts_nil) (fun _ _ _ _ _ => (pe_call GT hr (by rfl) T.gTuple T.FTuple.kp T.bTuple .nil pass0 (pa_cons (pv 3) (pa_cons (pe_callB call_len_str (by rfl) T.len PySem.boot_len (pa_cons (pv 1) pa_nil)) (pa_cons (pe_callB call_len_str (by rfl) T.len PySem.boot_len (pa_cons (pv 1) pa_nil)) pa_nil)))))) pa_nil))))), ?_⟩
    refine ⟨_, rfl, _, rfl, x, d, 1, most, rfl, hd, ?_⟩
    by_cases y : tupD 1 most d = true
    · obtain ⟨a, xs, ds, rfl, rfl, hS, hA, l1, l2⟩ := tup_of hd y
      refine ⟨_, rfl, ite2 (fun u => absurd u (by rw [y]; decide)) (fun _ => ?_)⟩
      refine ⟨_, rfl, a, rfl, ⟨xs, hS⟩, fun D nD => ?_⟩
      refine lc_tupO (xs := xs) (fun j H' => Same H H' ∧ H' D = some (.lst (((ds.take j).map (tupD (z.length : Int) (z.length : Int))).map V.bl))) ⟨same_upd nD, upd_same⟩ (fun i H' h => same_tup h.1 hS) ?_ ?_
      · rintro i u H' hu ⟨sm, hD⟩
        obtain ⟨e, he, re⟩ := hA.at hu
        refine ⟨rfl, ?_⟩
        refine ⟨_, rfl, _, rfl, z, rfl, hz, _, rfl, z, rfl, hz, u, e, _, _, rfl, re.go sm, _, hD, ?_, same_new sm nD, ?_⟩
        · rw [List.length_map, List.length_map]
          have := List.length_take_le' i ds
          omega
        · rw [upd_same, take_all he, List.map_append]
          rfl
      · rintro H' ⟨sm, hD⟩
        have q1 := q H' sm
        refine ⟨D, _, rfl, SqL.of hD, ?_⟩
        rw [hA.len, List.take_length, all_map]
        rw [tabD, y, Bool.true_and] at q1
        exact q1
    · refine ⟨_, rfl, ite2 (fun _ => ?_) (fun u => absurd (by rw [eq_false_of_ne_true y]; rfl) u)⟩
      have q1 := q H (Same.refl H)
      rw [tabD_not y] at q1
      exact q1
theorem ok_wayOn (T : LookTxt K mg m1 m2 m3 m4 m6 m7 m12 n1 n2 n3 n4 n6 n7 n12 t1 t2) {k : Nat} : FnOk P w K mg base CX0 (k + 3) m6 n6 ["state", "many"] (spWayOn K) := by
  have GB : FnOk P w K mg base CX0 (k + 2) m2 n2 ["thing", "low", "high"] (spBetween K) := ok_between T
  refine T.FWayOn.ok scWayOn (fun vs H Q E h => ?_) (fun cdv A outer s H vs Q E hr h => ?_)
  · obtain ⟨a, xs, ds, many, rfl, _⟩ := h
    rfl
  · obtain ⟨a, xs, ds, many, rfl, hS, hA, hl, q⟩ := h
    refine ⟨_, (pss_cons (ps_setLc (i := 2) (own := [("target", 3)]) (g := gName 3) (by rfl) scWayOn.nd rfl rfl (sw_true rfl rfl rfl (by decide +kernel)) (pi_tup (pv 0)) (blkOk_by (N := ["state", "many", "targets", "target"]) (sc := defScope sWayOn) (by decide +kernel)) (fun _ _ _ _ _ => pg_name (i := 3) scWayOn.nd rfl (Or.inl rfl)) (fun _ _ _ _ _ => (pts_one (pt_cmpR op_notN (pv 3) pe_non (nomark _)))) (fun _ _ _ _ _ => (pv 3)))
 (pss_one (ps_ret (pe_and (pe_cmpR op_gt (pe_callB call_len_seq (by rfl) T.len PySem.boot_len (pa_cons (pv 2) pa_nil)) pe_int (nomark _)) (pe_one (pe_callB (cr_all rfl) (by rfl) T.all (by decide +kernel) (pa_cons (pe_lc (own := [("target", 3)]) (g := gName 3) (tt := tYes) (by rfl) scWayOn.nd (pi_list (pv 2)) (blkOk_by (N := ["state", "many", "targets", "target"]) (sc := defScope sWayOn) (by decide +kernel)) (fun _ _ _ _ _ => pg_name (i := 3) scWayOn.nd rfl (Or.inl rfl)) (fun _ _ _ _ _ => pts_nil) (fun _ _ _ _ _ => (pe_call GB hr (by rfl) T.gBetween T.FBetween.kp T.bBetween .nil pass0 (pa_cons (pv 3) (pa_cons pe_int (pa_cons (pe_op op_sub (pv 1) pe_int) pa_nil)))))) pa_nil))))))), ?_⟩
    refine ⟨_, rfl, a, rfl, ⟨xs, hS⟩, fun D nD => ?_⟩
    refine lc_tupO (xs := xs) (fun j H' => Same H H' ∧ H' D = some (.lst ((xs.take j).filter someV))) ⟨same_upd nD, upd_same⟩ (fun i H' h => same_tup h.1 hS) ?_ ?_
    · rintro i u H' hu ⟨sm, hD⟩
      refine ⟨rfl, ?_⟩
      refine ⟨_, rfl, rfl, _, rfl, ite2 (fun z => ?_) (fun z => ?_)⟩
      · refine ⟨_, rfl, _, hD, ?_, same_new sm nD, ?_⟩
        · have h1 := List.length_filter_le someV (xs.take i)
          have h2 := List.length_take_le' i xs
          have h3 := hA.len
          exact Nat.lt_of_le_of_lt (show _ ≤ 1000 by omega) (by decide)
        · rw [upd_same, List.take_succ, hu, List.filter_append]
          show _ = some (HO.lst (_ ++ [u].filter someV))
          rw [List.filter_cons, someV_eq, z]
          rfl
      · refine ⟨sm, ?_⟩
        rw [hD, List.take_succ, hu, List.filter_append]
        show _ = some (HO.lst (_ ++ [u].filter someV))
        rw [List.filter_cons, someV_eq, eq_false_of_ne_true z]
        simp
    · rintro H' ⟨sm, hD⟩
      rw [List.take_length] at hD
      have hF := hA.some
      have hl2 : (ds.filter someD).length ≤ 1000 := Nat.le_trans (List.length_filter_le _ _) hl
      refine ⟨_, rfl, D, _, rfl, .inl (SqL.of hD), _, _, rfl, rfl, _, rfl, ?_⟩
      rw [hF.len]
      refine ite2 (fun z => ?_) (fun z => ?_)
      · refine ⟨_, rfl, D, rfl, ⟨_, SqL.of hD⟩, fun D2 nD2 => ?_⟩
        refine lc_lstO (xs := xs.filter someV) (fun j H2 => Same H' H2 ∧ H2 D2 = some (.lst ((((ds.filter someD).take j).map (betD 0 (many - 1))).map V.bl))) ⟨same_upd nD2, upd_same⟩ (fun i H2 h => h.1.seq (SqL.of hD)) ?_ ?_
        · rintro i u H2 hu ⟨s2, hD2⟩
          obtain ⟨e, he, re⟩ := hF.at hu
          refine ⟨rfl, ?_⟩
          refine ⟨_, rfl, _, rfl, _, _, rfl, rfl, u, e, _, _, rfl, re.go (sm.trans s2), _, hD2, ?_, same_new s2 nD2, ?_⟩
          · rw [List.length_map, List.length_map]
            have := List.length_take_le' i (ds.filter someD)
            exact Nat.lt_of_le_of_lt (show _ ≤ 1000 by omega) (by decide)
          · rw [upd_same, take_all he, List.map_append]
            rfl
        · rintro H2 ⟨s2, hD2⟩
          have q1 := q H2 (sm.trans s2)
          refine ⟨D2, _, rfl, SqL.of hD2, ?_⟩
          rw [hF.len, List.take_length, all_map]
          rw [wayD, z, Bool.true_and] at q1
          exact q1
      · have q1 := q H' sm
        rw [wayD, eq_false_of_ne_true z, Bool.false_and] at q1
        exact q1
theorem ok_rule (T : LookTxt K mg m1 m2 m3 m4 m6 m7 m12 n1 n2 n3 n4 n6 n7 n12 t1 t2) {k : Nat} : FnOk P w K mg base CX0 (k + 4) m12 n12 ["thing"] (spRule K) := by
  have GT : FnOk P w K mg base CX0 (k + 3) m3 n3 ["thing", "least", "most"] (spTuple K) := ok_tuple T
  have GL : FnOk P w K mg base CX0 (k + 3) m4 n4 ["thing"] (spLetters K) := ok_letters T
  have GA : FnOk P w K mg base CX0 (k + 3) m7 n7 ["thing", "letters", "most"] (spTable K) := ok_table T
  have GW : FnOk P w K mg base CX0 (k + 3) m6 n6 ["state", "many"] (spWayOn K) := ok_wayOn T
  refine T.FRule.ok scRule (fun vs H Q E h => ?_) (fun cdv A outer s H vs Q E hr h => ?_)
  · obtain ⟨x, d, rfl, _⟩ := h
    rfl
  · obtain ⟨x, d, rfl, hd, q⟩ := h
    refine ⟨_, (pss_cons (ps_if (pt_not (pt_val (pe_call GT hr (by rfl) T.gTuple T.FTuple.kp T.bTuple .nil pass0 (pa_cons (pv 0) (pa_cons pe_int (pa_cons pe_int pa_nil)))))) (pss_one (ps_ret pe_bl)) pss_nil)
 (pss_cons (ps_asg (pv 0) (pg_tup rfl (pgs_cons (pg_name (i := 1) scRule.nd rfl (.inl rfl)) (pgs_cons (pg_name (i := 2) scRule.nd rfl (.inr rfl)) pgs_nil))))
 (pss_cons (ps_if (PW.pt (pw_or (pt_not (pt_val (pe_call GL hr (by rfl) T.gLetters T.FLetters.kp T.bLetters .nil pass0 (pa_cons (pv 1) pa_nil)))) (pw_or1 (pt_not (pt_val (pe_call GA hr (by rfl) T.gTable T.FTable.kp T.bTable .nil pass0 (pa_cons (pv 2) (pa_cons (pv 1) (pa_cons (pe_glob (v := .int 4) (by rfl) T.mStates ⟨_, rfl⟩) pa_nil))))))))) (pss_one (ps_ret pe_bl)) pss_nil)
 (pss_one (ps_ret (pe_callB (cr_all rfl) (by rfl) T.all (by decide +kernel) (pa_cons (pe_lc (own := [("state", 3)]) (g := gName 3) (tt := tYes) (by rfl) scRule.nd (pi_tup (pv 2)) (blkOk_by (N := ["thing", "letters", "states", "state"]) (sc := defScope sRule) (by decide +kernel)) (fun _ _ _ _ _ => pg_name (i := 3) scRule.nd rfl (Or.inl rfl)) (fun _ _ _ _ _ => pts_nil) (fun _ _ _ _ _ => (pe_call GW hr (by rfl) T.gWayOn T.FWayOn.kp T.bWayOn .nil pass0 (pa_cons (pv 3) (pa_cons (pe_callB (len_seqK (K := K) rfl) (by rfl) T.len PySem.boot_len (pa_cons (pv 2) pa_nil)) pa_nil))))) pa_nil))))))), ?_⟩
    refine ⟨_, rfl, x, d, 2, 2, rfl, hd, ?_⟩
    by_cases y : tupD 2 2 d = true
    · obtain ⟨a, u, v, l, st, rfl, rfl, hS, hl, hst⟩ := hd.two y
      refine ⟨_, rfl, ite2 (fun u => absurd u (by rw [y]; decide)) (fun _ => ?_)⟩
      refine ⟨_, rfl, a, _, rfl, hS, rfl, u, [v], rfl, v, [], rfl, rfl, ?_⟩
      have bad : ∀ H', Same H H' → (ltrD l && tabD (lenD l) 4 st) = false → Q (.bl false) H' := fun H' s' e => by
        have q1 := q H' s'
        have : rulD (.tuple [l, st]) = false := by
          cases st with
          | tuple ss => rw [rulD, ← Bool.and_assoc, e, Bool.false_and]
          | _ => rfl
        rw [this] at q1
        exact q1
      refine ⟨_, rfl, u, l, rfl, hl, fun H1 s1 => ⟨_, rfl, ?_⟩⟩
      by_cases zl : ltrD l = true
      · obtain ⟨w1, rfl, rfl, hw⟩ := hl.isStr (ltrD_str zl)
        refine ite2 (fun u => absurd u (by rw [zl]; decide)) (fun _ => ?_)
        refine ⟨_, rfl, _, rfl, v, st, w1, 4, rfl, hst.go s1, hw, (by decide), fun H2 s2 => ⟨_, rfl, ?_⟩⟩
        by_cases zt : tabD w1.length 4 st = true
        · refine ite2 (fun u => absurd u (by rw [zt]; decide)) (fun _ => ?_)
          have ht := tabD_tup zt
          obtain ⟨b, xs, ds, rfl, rfl, hS2, hA, l1, l2⟩ := tup_of hst ht.1
          have s12 := s1.trans s2
          refine ⟨_, rfl, b, rfl, ⟨xs, same_tup s12 hS2⟩, fun D nD => ?_⟩
          refine lc_tupO (xs := xs) (fun j H' => Same H2 H' ∧ H' D = some (.lst (((ds.take j).map (wayD (ds.length : Int))).map V.bl))) ⟨same_upd nD, upd_same⟩ (fun i H' h => same_tup (s12.trans h.1) hS2) ?_ ?_
          · rintro i u H' hu ⟨sm, hD⟩
            obtain ⟨e, he, re⟩ := hA.at hu
            obtain ⟨a2, ys, es, rfl, rfl, hS3, hA3, l3, l4⟩ := tup_of re (ht.2 e (List.mem_of_getElem? he))
            have lw := ltrD_len zl
            have s13 := s12.trans sm
            refine ⟨rfl, ?_⟩
            refine ⟨_, rfl, _, rfl, b, xs, rfl, .inr (same_tup s13 hS2), a2, ys, es, _, rfl, same_tup s13 hS3, ?_, ?_, fun H3 s3 => ?_⟩
            · exact hA3.go s13
            · have l5 : w1.length ≤ 3 := lw
              omega
            · refine ⟨_, s3 _ _ hD, ?_, same_new (sm.trans s3) nD, ?_⟩
              · rw [List.length_map, List.length_map]
                have := List.length_take_le' i ds
                exact Nat.lt_of_le_of_lt (show _ ≤ 1000 by omega) (by decide)
              · rw [upd_same, take_all he, List.map_append, hA.len]
                rfl
          · rintro H' ⟨sm, hD⟩
            have q1 := q H' (s12.trans sm)
            refine ⟨D, _, rfl, SqL.of hD, ?_⟩
            rw [hA.len, List.take_length, all_map]
            rw [rulD, show lenD (.str w1) = w1.length from rfl, zl, zt, Bool.true_and, Bool.true_and] at q1
            exact q1
        · refine ite2 (fun _ => ?_) (fun u => absurd (by rw [eq_false_of_ne_true zt]; rfl) u)
          exact bad H2 (s1.trans s2) (by rw [show lenD (.str w1) = w1.length from rfl, eq_false_of_ne_true zt, Bool.and_false])
      · refine ite2 (fun _ => ?_) (fun u => absurd (by rw [eq_false_of_ne_true zl]; rfl) u)
        exact bad H1 s1 (by rw [eq_false_of_ne_true zl, Bool.false_and])
    · refine ⟨_, rfl, ite2 (fun _ => ?_) (fun u => absurd (by rw [eq_false_of_ne_true y]; rfl) u)⟩
      have q1 := q H (Same.refl H)
      rw [rulD_not y] at q1
      exact q1
end
end My
/-! ### machines -/
namespace My
open PySem PySem.Spec PyProof.Rows L2
abbrev sPair : Stmt := topS 20
abbrev sFrame : Stmt := topS 17
abbrev sChoice : Stmt := topS 19
abbrev sMachine : Stmt := topS 12
abbrev sPlain : Stmt := topS 13
theorem scPair : FnScope ["thing", "most", "many", "pay", "state"] ["thing", "most", "many"] (defScope sPair) := ⟨rfl, rfl, rfl, by decide +kernel, rfl, by decide +kernel, by decide +kernel⟩
theorem scFrame : FnScope ["thing", "most", "base", "letters", "states"] ["thing", "most"] (defScope sFrame) := ⟨rfl, rfl, rfl, by decide +kernel, rfl, by decide +kernel, by decide +kernel⟩
theorem scChoice : FnScope ["thing", "many", "pair"] ["thing", "many"] (defScope sChoice) := ⟨rfl, rfl, rfl, by decide +kernel, rfl, by decide +kernel, by decide +kernel⟩
theorem scMachine : FnScope ["thing", "states", "state", "choice"] ["thing"] (defScope sMachine) := ⟨rfl, rfl, rfl, by decide +kernel, rfl, by decide +kernel, by decide +kernel⟩
theorem scPlain : FnScope ["thing", "states", "state", "pair"] ["thing"] (defScope sPlain) := ⟨rfl, rfl, rfl, by decide +kernel, rfl, by decide +kernel, by decide +kernel⟩
structure MachTxt (K : PySem.W.Frag) (mg : Str → Option Value) (m1 m2 m3 m4 m5 m6 m7 m8 m9 m10 m11 m12 : Addr) (n1 n2 n3 n4 n5 n6 n7 n8 n9 n10 n11 n12 : FuncData) (t1 t2 t3 t4 t5 : Tok) : Prop where
  look : LookTxt K mg m1 m2 m3 m4 m6 m7 m12 n1 n2 n3 n4 n6 n7 n12 t1 t2
  set : mg "set" = none
  mPlain : mg "MOST_PLAIN_STATES" = some (.int 300 t3)
  mWide : ∃ t, mg "MOST_PLAIN_PAY" = some (.int ((10 : Int) ^ (30 : Int).toNat) t)
  mPairs : mg "MOST_PAIRS" = some (.int 3 t4)
  mPay : mg "MOST_PAY" = some (.int 20 t5)
  FPair : Fun K "is_pair" "is_pair" sPair m5 n5
  bPair : Binds K n5 ["thing", "most", "many"] []
  gPair : mg "is_pair" = some (.ref m5)
  FFrame : Fun K "is_frame" "is_frame" sFrame m8 n8
  bFrame : Binds K n8 ["thing", "most"] []
  gFrame : mg "is_frame" = some (.ref m8)
  FChoice : Fun K "is_choice" "is_choice" sChoice m9 n9
  bChoice : Binds K n9 ["thing", "many"] []
  gChoice : mg "is_choice" = some (.ref m9)
  FMachine : Fun K "is_machine" "is_machine" sMachine m10 n10
  bMachine : Binds K n10 ["thing"] []
  gMachine : mg "is_machine" = some (.ref m10)
  FPlain : Fun K "is_plain" "is_plain" sPlain m11 n11
  bPlain : Binds K n11 ["thing"] []
  gPlain : mg "is_plain" = some (.ref m11)
/-! ### the promises -/
def spPair (K : PySem.W.Frag) : Sp := fun vs H Q _ => ∃ x d most many, vs = [x, .int most, .int many] ∧ Rp K H x d ∧ Q (.bl (pairD most many d)) H
def spFrame (K : PySem.W.Frag) : Sp := fun vs H Q _ => ∃ x d most, vs = [x, .int most] ∧ Rp K H x d ∧ most < sizeLine ∧ ∀ H', Same H H' → Q (.bl (frmD most d)) H'
def spChoice (K : PySem.W.Frag) : Sp := fun vs H Q _ => ∃ x d many, vs = [x, .int many] ∧ Rp K H x d ∧ ∀ H', Same H H' → Q (.bl (chD many d)) H'
def spPlain (K : PySem.W.Frag) : Sp := fun vs H Q _ => ∃ x d, vs = [x] ∧ Rp K H x d ∧ ∀ H', Same H H' → Q (.bl (plnD d)) H'
def spMachine (K : PySem.W.Frag) : Sp := fun vs H Q _ => ∃ x d, vs = [x] ∧ Rp K H x d ∧ ∀ H', Same H H' → Q (.bl (mchD d)) H'
section
variable {P : Program} {w : World} {K : PySem.W.Frag} {mg : Str → Option Value} {base : Heap} {m1 m2 m3 m4 m5 m6 m7 m8 m9 m10 m11 m12 : Addr} {n1 n2 n3 n4 n5 n6 n7 n8 n9 n10 n11 n12 : FuncData} {t1 t2 t3 t4 t5 : Tok}
theorem ok_pair (T : MachTxt K mg m1 m2 m3 m4 m5 m6 m7 m8 m9 m10 m11 m12 n1 n2 n3 n4 n5 n6 n7 n8 n9 n10 n11 n12 t1 t2 t3 t4 t5) {k : Nat} : FnOk P w K mg base CX0 (k + 3) m5 n5 ["thing", "most", "many"] (spPair K) := by
  have GB : FnOk P w K mg base CX0 (k + 2) m2 n2 ["thing", "low", "high"] (spBetween K) := ok_between T.look
  have GT : FnOk P w K mg base CX0 (k + 2) m3 n3 ["thing", "least", "most"] (spTuple K) := ok_tuple T.look
  refine T.FPair.ok scPair (fun vs H Q E h => ?_) (fun cdv A outer s H vs Q E hr h => ?_)
  · obtain ⟨x, t, lo, hi, rfl, _⟩ := h
    rfl
  · obtain ⟨x, d, most, many, rfl, hd, q⟩ := h
    refine ⟨_, (pss_cons (ps_if (pt_not (pt_val (pe_call GT hr (by rfl) T.look.gTuple T.look.FTuple.kp T.look.bTuple .nil pass0 (pa_cons (pv 0) (pa_cons pe_int (pa_cons pe_int pa_nil)))))) (pss_one (ps_ret pe_bl)) pss_nil)
 (pss_cons (ps_asg (pv 0) (pg_tup rfl (pgs_cons (pg_name (i := 3) scPair.nd rfl (.inl rfl)) (pgs_cons (pg_name (i := 4) scPair.nd rfl (.inl rfl)) pgs_nil))))
 (pss_one (ps_ret (pe_and (pe_call GB hr (by rfl) T.look.gBetween T.look.FBetween.kp T.look.bBetween .nil pass0 (pa_cons (pv 3) (pa_cons (pe_un un_neg (pv 1)) (pa_cons (pv 1) pa_nil)))) (pe_one (pe_call GB hr (by rfl) T.look.gBetween T.look.FBetween.kp T.look.bBetween .nil pass0 (pa_cons (pv 4) (pa_cons pe_int (pa_cons (pe_op op_sub (pv 2) pe_int) pa_nil)))))))))), ?_⟩
    refine ⟨_, rfl, x, d, 2, 2, rfl, hd, ?_⟩
    by_cases z : tupD 2 2 d = true
    · obtain ⟨a, u, v, p, t, rfl, rfl, hS, hp, ht⟩ := hd.two z
      refine ⟨_, rfl, ite2 (fun y => absurd y (by rw [z]; decide)) (fun _ => ?_)⟩
      refine ⟨_, rfl, a, _, rfl, hS, rfl, u, [v], rfl, v, [], rfl, rfl, ?_⟩
      refine ⟨_, rfl, _, rfl, _, rfl, _, rfl, u, p, _, _, rfl, hp, _, rfl, ?_⟩
      refine ite2 (fun y => ?_) (fun y => ?_)
      · refine ⟨_, rfl, _, rfl, _, _, rfl, rfl, v, t, _, _, rfl, ht, ?_⟩
        rw [pairD, y, Bool.true_and] at q
        exact q
      · rw [pairD, eq_false_of_ne_true y, Bool.false_and] at q
        exact q
    · refine ⟨_, rfl, ite2 (fun _ => ?_) (fun y => absurd (by rw [eq_false_of_ne_true z]; rfl) y)⟩
      rw [pairD_not z] at q
      exact q
theorem ok_frame (T : MachTxt K mg m1 m2 m3 m4 m5 m6 m7 m8 m9 m10 m11 m12 n1 n2 n3 n4 n5 n6 n7 n8 n9 n10 n11 n12 t1 t2 t3 t4 t5) {k : Nat} : FnOk P w K mg base CX0 (k + 3) m8 n8 ["thing", "most"] (spFrame K) := by
  have GT : FnOk P w K mg base CX0 (k + 2) m3 n3 ["thing", "least", "most"] (spTuple K) := ok_tuple T.look
  have GB : FnOk P w K mg base CX0 (k + 2) m2 n2 ["thing", "low", "high"] (spBetween K) := ok_between T.look
  have GL : FnOk P w K mg base CX0 (k + 2) m4 n4 ["thing"] (spLetters K) := ok_letters T.look
  have GA : FnOk P w K mg base CX0 (k + 2) m7 n7 ["thing", "letters", "most"] (spTable K) := ok_table T.look
  refine T.FFrame.ok scFrame (fun vs H Q E h => ?_) (fun cdv A outer s H vs Q E hr h => ?_)
  · obtain ⟨x, d, most, rfl, _⟩ := h
    rfl
  · obtain ⟨x, d, most, rfl, hd, hm, q⟩ := h
    refine ⟨_, (pss_cons (ps_if (pt_not (pt_val (pe_call GT hr (by rfl) T.look.gTuple T.look.FTuple.kp T.look.bTuple .nil pass0 (pa_cons (pv 0) (pa_cons pe_int (pa_cons pe_int pa_nil)))))) (pss_one (ps_ret pe_bl)) pss_nil)
 (pss_cons (ps_asg (pv 0) (pg_tup rfl (pgs_cons (pg_name (i := 2) scFrame.nd rfl (.inl rfl)) (pgs_cons (pg_name (i := 3) scFrame.nd rfl (.inl rfl)) (pgs_cons (pg_name (i := 4) scFrame.nd rfl (.inl rfl)) pgs_nil)))))
 (pss_one (ps_ret (pe_and (pe_call GB hr (by rfl) T.look.gBetween T.look.FBetween.kp T.look.bBetween .nil pass0 (pa_cons (pv 2) (pa_cons pe_int (pa_cons pe_int pa_nil)))) (pe_and (pe_call GL hr (by rfl) T.look.gLetters T.look.FLetters.kp T.look.bLetters .nil pass0 (pa_cons (pv 3) pa_nil)) (pe_one (pe_call GA hr (by rfl) T.look.gTable T.look.FTable.kp T.look.bTable .nil pass0 (pa_cons (pv 4) (pa_cons (pv 3) (pa_cons (pv 1) pa_nil))))))))))), ?_⟩
    refine ⟨_, rfl, x, d, 3, 3, rfl, hd, ?_⟩
    by_cases y : tupD 3 3 d = true
    · obtain ⟨a, xs, ds, rfl, rfl, hS, hA, l1, l2⟩ := tup_of hd y
      obtain ⟨u, v, t, b, l, e, rfl, rfl, hb, hl, he⟩ := hA.three (by omega)
      refine ⟨_, rfl, ite2 (fun u => absurd u (by rw [y]; decide)) (fun _ => ?_)⟩
      refine ⟨_, rfl, a, _, rfl, hS, rfl, u, [v, t], rfl, v, [t], rfl, t, [], rfl, rfl, ?_⟩
      refine ⟨_, rfl, u, b, _, _, rfl, hb, _, rfl, ite2 (fun z => ?_) (fun z => ?_)⟩
      · refine ⟨_, rfl, v, l, rfl, hl, fun H1 s1 => ⟨_, rfl, ite2 (fun zl => ?_) (fun zl => ?_)⟩⟩
        · obtain ⟨w1, rfl, rfl, hw⟩ := hl.isStr (ltrD_str zl)
          refine ⟨_, rfl, _, rfl, _, rfl, t, e, w1, most, rfl, he.go s1, hw, hm, fun H2 s2 => ?_⟩
          have q1 := q H2 (s1.trans s2)
          rw [frmD, z, zl, Bool.true_and, Bool.true_and] at q1
          exact q1
        · have q1 := q H1 s1
          rw [frmD, eq_false_of_ne_true zl, Bool.false_and, Bool.and_false] at q1
          exact q1
      · have q1 := q H (Same.refl H)
        rw [frmD, eq_false_of_ne_true z, Bool.false_and] at q1
        exact q1
    · refine ⟨_, rfl, ite2 (fun _ => ?_) (fun u => absurd (by rw [eq_false_of_ne_true y]; rfl) u)⟩
      have q1 := q H (Same.refl H)
      rw [frmD_not y] at q1
      exact q1
theorem ok_plain (T : MachTxt K mg m1 m2 m3 m4 m5 m6 m7 m8 m9 m10 m11 m12 n1 n2 n3 n4 n5 n6 n7 n8 n9 n10 n11 n12 t1 t2 t3 t4 t5) {k : Nat} : FnOk P w K mg base CX0 (k + 4) m11 n11 ["thing"] (spPlain K) := by
  have GF : FnOk P w K mg base CX0 (k + 3) m8 n8 ["thing", "most"] (spFrame K) := ok_frame T
  have GP : FnOk P w K mg base CX0 (k + 3) m5 n5 ["thing", "most", "many"] (spPair K) := ok_pair T
  refine T.FPlain.ok scPlain (fun vs H Q E h => ?_) (fun cdv A outer s H vs Q E hr h => ?_)
  · obtain ⟨x, d, rfl, _⟩ := h
    rfl
  · obtain ⟨x, d, rfl, hd, q⟩ := h
    obtain ⟨tW, hWide⟩ := T.mWide
    refine ⟨_, (pss_cons (ps_if (pt_not (pt_val (pe_call GF hr (by rfl) T.gFrame T.FFrame.kp T.bFrame .nil pass0 (pa_cons (pv 0) (pa_cons (pe_glob (v := .int 300) (by rfl) T.mPlain ⟨_, rfl⟩) pa_nil))))) (pss_one (ps_ret pe_bl)) pss_nil)
 (pss_cons (ps_set (i := 1) scPlain.nd rfl (.inr rfl) (pe_ix ix_tup (pv 0) pe_int (fun _ _ => rfl)))
 (pss_one (ps_ret (pe_callB (cr_all rfl) (by rfl) T.look.all (by decide +kernel) (pa_cons (pe_lc2 (own := [("state", 2), ("pair", 3)]) (vs1 := [3]) (g := gName 2) (g1 := gName 3) (tt := tYes) (tt1 := tYes) (by rfl) scPlain.nd (pi_tup (pv 1)) (blkOk_by (N := ["thing", "states", "state", "pair"]) (sc := defScope sPlain) (by decide +kernel)) (by decide) (fun _ _ _ _ _ => pg_name (i := 2) scPlain.nd rfl (Or.inl rfl)) (fun _ _ _ _ _ => pts_nil) (fun _ _ _ _ _ => (pi_tupK (K := K) rfl (pv 2))) (fun _ _ _ _ _ => pg_name (i := 3) scPlain.nd rfl (Or.inl rfl)) (fun _ _ _ _ _ => pts_nil) (fun _ _ _ _ _ => (pe_call GP hr (by rfl) T.gPair T.FPair.kp T.bPair .nil pass0 (pa_cons (pv 3) (pa_cons (pe_glob (v := .int ((10 : Int) ^ (30 : Int).toNat)) (by rfl) hWide ⟨_, rfl⟩) (pa_cons (pe_callB (len_seqK (K := K) rfl) (by rfl) T.look.len PySem.boot_len (pa_cons (pv 1) pa_nil)) pa_nil)))))) pa_nil)))))), ?_⟩
    refine ⟨_, rfl, x, d, 300, rfl, hd, (by decide), fun H1 s1 => ⟨_, rfl, ?_⟩⟩
    by_cases y : frmD 300 d = true
    · refine ite2 (fun u => absurd u (by rw [y]; decide)) (fun _ => ?_)
      obtain ⟨a, u, v, c, b, l, ss, xs, rfl, rfl, hS, hS2, hA, hall, hl1, hl2⟩ := frm_of hd y
      refine ⟨_, rfl, _, _, 2, _, rfl, rfl, same_tup s1 hS, rfl, ?_⟩
      have sS := same_tup s1 hS2
      have ln := hA.len
      refine ⟨_, rfl, c, rfl, ⟨xs, sS⟩, fun D nD => ?_⟩
      refine lc_tupO (xs := xs) (fun i H' => Same H1 H' ∧ H' D = some (.lst (((ss.take i).flatMap fun st => (elems st).map (pairD ((10 : Int) ^ (30 : Int).toNat) (ss.length : Int))).map V.bl))) ⟨same_upd nD, upd_same⟩ (fun i H' h => same_tup h.1 sS) ?_ ?_
      · rintro i u2 H' hu ⟨sm, hD⟩
        obtain ⟨e, he, re⟩ := hA.at hu
        obtain ⟨es, rfl, le⟩ := hall e (List.mem_of_getElem? he)
        obtain ⟨a2, ys, rfl, hS3, hA3⟩ := re.isTup
        have s13 := s1.trans sm
        refine ⟨rfl, ?_⟩
        refine ⟨_, rfl, a2, rfl, ⟨ys, same_tup s13 hS3⟩, ?_⟩
        refine lc_tupO (xs := ys) (fun j H2 => Same H1 H2 ∧ H2 D = some (.lst ((((ss.take i).flatMap fun st => (elems st).map (pairD ((10 : Int) ^ (30 : Int).toNat) (ss.length : Int))) ++ (es.take j).map (pairD ((10 : Int) ^ (30 : Int).toNat) (ss.length : Int))).map V.bl))) ⟨sm, by rw [hD]; simp⟩ (fun j H2 h => same_tup (s1.trans h.1) hS3) ?_ ?_
        · rintro j u3 H2 hu3 ⟨sm2, hD2⟩
          obtain ⟨e3, he3, re3⟩ := hA3.at hu3
          have bound : ((((ss.take i).flatMap fun st => (elems st).map (pairD ((10 : Int) ^ (30 : Int).toNat) (ss.length : Int))) ++ (es.take j).map (pairD ((10 : Int) ^ (30 : Int).toNat) (ss.length : Int))).map V.bl).length < sizeLine := by
            have h1 := flat_len (g := fun st => (elems st).map (pairD ((10 : Int) ^ (30 : Int).toNat) (ss.length : Int))) (n := 3) (ss.take i) fun x hx => by
              obtain ⟨es', rfl, le'⟩ := hall x (List.mem_of_mem_take hx)
              rw [List.length_map]
              exact le'
            have h2 := List.length_take_le' i ss
            have h3 := List.length_take_le' j es
            rw [List.length_map, List.length_append, List.length_map]
            exact Nat.lt_of_le_of_lt (show _ ≤ 1000 by omega) (by decide)
          refine ⟨rfl, ?_⟩
          refine ⟨_, rfl, _, rfl, c, xs, rfl, .inr (same_tup sm2 sS), u3, e3, _, _, rfl, re3.go (s1.trans sm2), _, hD2, bound, same_new sm2 nD, ?_⟩
          rw [upd_same, take_all he3, ln]
          simp only [List.map_append, List.map_cons, List.map_nil, List.append_assoc]
        · rintro H2 ⟨sm2, hD2⟩
          refine ⟨sm2, ?_⟩
          rw [hD2, hA3.len, List.take_length, take_flat he]
          rfl
      · rintro H' ⟨sm, hD⟩
        have q1 := q H' (s1.trans sm)
        refine ⟨D, _, rfl, SqL.of hD, ?_⟩
        rw [ln, List.take_length]
        rw [plnD, y, Bool.true_and] at q1
        exact q1
    · refine ite2 (fun _ => ?_) (fun u => absurd (by rw [eq_false_of_ne_true y]; rfl) u)
      have q1 := q H1 s1
      rw [plnD_not y] at q1
      exact q1
theorem ok_choice (T : MachTxt K mg m1 m2 m3 m4 m5 m6 m7 m8 m9 m10 m11 m12 n1 n2 n3 n4 n5 n6 n7 n8 n9 n10 n11 n12 t1 t2 t3 t4 t5) {k : Nat} : FnOk P w K mg base CX0 (k + 4) m9 n9 ["thing", "many"] (spChoice K) := by
  have GT : FnOk P w K mg base CX0 (k + 3) m3 n3 ["thing", "least", "most"] (spTuple K) := ok_tuple T.look
  have GP : FnOk P w K mg base CX0 (k + 3) m5 n5 ["thing", "most", "many"] (spPair K) := ok_pair T
  refine T.FChoice.ok scChoice (fun vs H Q E h => ?_) (fun cdv A outer s H vs Q E hr h => ?_)
  · obtain ⟨x, d, many, rfl, _⟩ := h
    rfl
  · obtain ⟨x, d, many, rfl, hd, q⟩ := h
    have hu : (A.deeper (envOfC "is_choice" (defScope sChoice) s.heap.objs.size m9 cdv)).units + 64 < cLine := by have := hr.un; omega
    refine ⟨_, (pss_cons (ps_if (pt_not (pt_val (pe_call GT hr (by rfl) T.look.gTuple T.look.FTuple.kp T.look.bTuple .nil pass0 (pa_cons (pv 0) (pa_cons pe_int (pa_cons (pe_glob (v := .int 3) (by rfl) T.mPairs ⟨_, rfl⟩) pa_nil)))))) (pss_one (ps_ret pe_bl)) pss_nil)
 (pss_one (ps_ret (pe_and (pe_callB (cr_all rfl) (by rfl) T.look.all (by decide +kernel) (pa_cons (pe_lc (own := [("pair", 2)]) (g := gName 2) (tt := tYes) (by rfl) scChoice.nd (pi_tup (pv 0)) (blkOk_by (N := ["thing", "many", "pair"]) (sc := defScope sChoice) (by decide +kernel)) (fun _ _ _ _ _ => pg_name (i := 2) scChoice.nd rfl (Or.inl rfl)) (fun _ _ _ _ _ => pts_nil) (fun _ _ _ _ _ => (pe_call GP hr (by rfl) T.gPair T.FPair.kp T.bPair .nil pass0 (pa_cons (pv 2) (pa_cons (pe_glob (v := .int 20) (by rfl) T.mPay ⟨_, rfl⟩) (pa_cons (pv 1) pa_nil)))))) pa_nil)) (pe_one (pe_cmpR op_eq (pe_lenSetT rfl hu (by rfl) T.look.len (by rfl) T.set (pv 0)) (pe_callB call_len_seq (by rfl) T.look.len PySem.boot_len (pa_cons (pv 0) pa_nil)) (nomark _))))))), ?_⟩
    refine ⟨_, rfl, x, d, 1, 3, rfl, hd, _, rfl, ?_⟩
    by_cases y : tupD 1 3 d = true
    · refine ite2 (fun u => absurd u (by rw [y]; decide)) (fun _ => ?_)
      obtain ⟨a, xs, ds, rfl, rfl, hS, hA, l1, l2⟩ := tup_of hd y
      have ln := hA.len
      refine ⟨_, rfl, a, rfl, ⟨xs, hS⟩, fun D nD => ?_⟩
      refine lc_tupO (xs := xs) (fun j H' => Same H H' ∧ H' D = some (.lst (((ds.take j).map (pairD 20 many)).map V.bl))) ⟨same_upd nD, upd_same⟩ (fun i H' h => same_tup h.1 hS) ?_ ?_
      · rintro i u H' hu ⟨sm, hD⟩
        obtain ⟨e, he, re⟩ := hA.at hu
        refine ⟨rfl, ?_⟩
        refine ⟨_, rfl, _, rfl, u, e, _, _, rfl, re.go sm, _, hD, ?_, same_new sm nD, ?_⟩
        · rw [List.length_map, List.length_map]
          have := List.length_take_le' i ds
          exact Nat.lt_of_le_of_lt (show _ ≤ 1000 by omega) (by decide)
        · rw [upd_same, take_all he, List.map_append]
          rfl
      · rintro H' ⟨sm, hD⟩
        have q1 := q H' sm
        rw [chD, y, Bool.true_and] at q1
        refine ⟨D, _, rfl, SqL.of hD, _, rfl, ?_⟩
        rw [ln, List.take_length, all_map]
        refine ite2 (fun z => ?_) (fun z => ?_)
        · rw [z, Bool.true_and] at q1
          obtain ⟨ks, rfl, hk, ek⟩ := pairs_of hA fun e he => List.all_eq_true.mp z e he
          have sS := same_tup sm hS
          rw [List.length_map] at ln
          refine ⟨_, rfl, a, ks, rfl, sS, fun p hp => same_tup sm (hk p hp), by omega, fun n hn => ?_⟩
          refine ⟨_, rfl, a, _, rfl, .inr sS, rfl, ?_⟩
          rw [List.length_map]
          rw [ek] at hn
          by_cases nd : (ds.map keyD).Nodup
          · rw [decide_eq_true nd] at q1
            rw [hn.mpr nd, decide_eq_true rfl]
            exact q1
          · rw [decide_eq_false nd] at q1
            rw [decide_eq_false (fun e => nd (hn.mp (by have := V.int.inj e; omega)))]
            exact q1
        · rw [eq_false_of_ne_true z, Bool.false_and] at q1
          exact q1
    · refine ite2 (fun _ => ?_) (fun u => absurd (by rw [eq_false_of_ne_true y]; rfl) u)
      have q1 := q H (Same.refl H)
      rw [chD_not y] at q1
      exact q1
theorem ok_machine (T : MachTxt K mg m1 m2 m3 m4 m5 m6 m7 m8 m9 m10 m11 m12 n1 n2 n3 n4 n5 n6 n7 n8 n9 n10 n11 n12 t1 t2 t3 t4 t5) {k : Nat} : FnOk P w K mg base CX0 (k + 5) m10 n10 ["thing"] (spMachine K) := by
  have GF : FnOk P w K mg base CX0 (k + 4) m8 n8 ["thing", "most"] (spFrame K) := ok_frame T
  have GC : FnOk P w K mg base CX0 (k + 4) m9 n9 ["thing", "many"] (spChoice K) := ok_choice T
  refine T.FMachine.ok scMachine (fun vs H Q E h => ?_) (fun cdv A outer s H vs Q E hr h => ?_)
  · obtain ⟨x, d, rfl, _⟩ := h
    rfl
  · obtain ⟨x, d, rfl, hd, q⟩ := h
    refine ⟨_, (pss_cons (ps_if (pt_not (pt_val (pe_call GF hr (by rfl) T.gFrame T.FFrame.kp T.bFrame .nil pass0 (pa_cons (pv 0) (pa_cons (pe_glob (v := .int 4) (by rfl) T.look.mStates ⟨_, rfl⟩) pa_nil))))) (pss_one (ps_ret pe_bl)) pss_nil)
 (pss_cons (ps_set (i := 1) scMachine.nd rfl (.inr rfl) (pe_ix ix_tup (pv 0) pe_int (fun _ _ => rfl)))
 (pss_one (ps_ret (pe_callB (cr_all rfl) (by rfl) T.look.all (by decide +kernel) (pa_cons (pe_lc2 (own := [("state", 2), ("choice", 3)]) (vs1 := [3]) (g := gName 2) (g1 := gName 3) (tt := tYes) (tt1 := tYes) (by rfl) scMachine.nd (pi_tup (pv 1)) (blkOk_by (N := ["thing", "states", "state", "choice"]) (sc := defScope sMachine) (by decide +kernel)) (by decide) (fun _ _ _ _ _ => pg_name (i := 2) scMachine.nd rfl (Or.inl rfl)) (fun _ _ _ _ _ => pts_nil) (fun _ _ _ _ _ => (pi_tupK (K := K) rfl (pv 2))) (fun _ _ _ _ _ => pg_name (i := 3) scMachine.nd rfl (Or.inl rfl)) (fun _ _ _ _ _ => pts_nil) (fun _ _ _ _ _ => (pe_call GC hr (by rfl) T.gChoice T.FChoice.kp T.bChoice .nil pass0 (pa_cons (pv 3) (pa_cons (pe_callB (len_seqK (K := K) rfl) (by rfl) T.look.len PySem.boot_len (pa_cons (pv 1) pa_nil)) pa_nil))))) pa_nil)))))), ?_⟩
    refine ⟨_, rfl, x, d, 4, rfl, hd, (by decide), fun H1 s1 => ⟨_, rfl, ?_⟩⟩
    by_cases y : frmD 4 d = true
    · refine ite2 (fun u => absurd u (by rw [y]; decide)) (fun _ => ?_)
      obtain ⟨a, u, v, c, b, l, ss, xs, rfl, rfl, hS, hS2, hA, hall, hl1, hl2⟩ := frm_of hd y
      refine ⟨_, rfl, _, _, 2, _, rfl, rfl, same_tup s1 hS, rfl, ?_⟩
      have sS := same_tup s1 hS2
      have ln := hA.len
      refine ⟨_, rfl, c, rfl, ⟨xs, sS⟩, fun D nD => ?_⟩
      refine lc_tupO (xs := xs) (fun i H' => Same H1 H' ∧ H' D = some (.lst (((ss.take i).flatMap fun st => (elems st).map (chD (ss.length : Int))).map V.bl))) ⟨same_upd nD, upd_same⟩ (fun i H' h => same_tup h.1 sS) ?_ ?_
      · rintro i u2 H' hu ⟨sm, hD⟩
        obtain ⟨e, he, re⟩ := hA.at hu
        obtain ⟨es, rfl, le⟩ := hall e (List.mem_of_getElem? he)
        obtain ⟨a2, ys, rfl, hS3, hA3⟩ := re.isTup
        have s13 := s1.trans sm
        refine ⟨rfl, ?_⟩
        refine ⟨_, rfl, a2, rfl, ⟨ys, same_tup s13 hS3⟩, ?_⟩
        refine lc_tupO (xs := ys) (fun j H2 => Same H1 H2 ∧ H2 D = some (.lst ((((ss.take i).flatMap fun st => (elems st).map (chD (ss.length : Int))) ++ (es.take j).map (chD (ss.length : Int))).map V.bl))) ⟨sm, by rw [hD]; simp⟩ (fun j H2 h => same_tup (s1.trans h.1) hS3) ?_ ?_
        · rintro j u3 H2 hu3 ⟨sm2, hD2⟩
          obtain ⟨e3, he3, re3⟩ := hA3.at hu3
          have bound : ((((ss.take i).flatMap fun st => (elems st).map (chD (ss.length : Int))) ++ (es.take j).map (chD (ss.length : Int))).map V.bl).length < sizeLine := by
            have h1 := flat_len (g := fun st => (elems st).map (chD (ss.length : Int))) (n := 3) (ss.take i) fun x hx => by
              obtain ⟨es', rfl, le'⟩ := hall x (List.mem_of_mem_take hx)
              rw [List.length_map]
              exact le'
            have h2 := List.length_take_le' i ss
            have h3 := List.length_take_le' j es
            rw [List.length_map, List.length_append, List.length_map]
            exact Nat.lt_of_le_of_lt (show _ ≤ 1000 by omega) (by decide)
          refine ⟨rfl, ?_⟩
          refine ⟨_, rfl, _, rfl, c, xs, rfl, .inr (same_tup sm2 sS), u3, e3, _, rfl, re3.go (s1.trans sm2), fun H3 s3 => ⟨_, s3 _ _ hD2, bound, same_new (sm2.trans s3) nD, ?_⟩⟩
          rw [upd_same, take_all he3, ln]
          simp only [List.map_append, List.map_cons, List.map_nil, List.append_assoc]
        · rintro H2 ⟨sm2, hD2⟩
          refine ⟨sm2, ?_⟩
          rw [hD2, hA3.len, List.take_length, take_flat he]
          rfl
      · rintro H' ⟨sm, hD⟩
        have q1 := q H' (s1.trans sm)
        refine ⟨D, _, rfl, SqL.of hD, ?_⟩
        rw [ln, List.take_length]
        rw [mchD, y, Bool.true_and] at q1
        exact q1
    · refine ite2 (fun _ => ?_) (fun u => absurd (by rw [eq_false_of_ne_true y]; rfl) u)
      have q1 := q H1 s1
      rw [mchD_not y] at q1
      exact q1
end
end My
/-! ### free_rule -/
namespace My
open PySem PySem.Spec PyProof.Rows L2
abbrev sFreeRule : Stmt := topS 15
theorem scFreeRule : FnScope ["letters", "_"] ["letters"] (defScope sFreeRule) := ⟨rfl, rfl, rfl, by decide +kernel, rfl, by decide +kernel, by decide +kernel⟩
/-- an own class of errors over ValueError, without an __init__ -/
structure ExcF (K : PySem.W.Frag) (mg : Str → Option Value) (x : Str) (C : Addr) : Prop where
  g : mg x = some (.ref C)
  q : PySem.W.excIn K C [.type "ValueError", .type "Exception", .type "BaseException", .type "object"] "ValueError.__new__" = true
  k : PySem.W.keepIn K (.ref C) = true
  b : PySem.W.subIn K (.ref C) (.type "BaseException") = some true
  t : PySem.W.typeIn K (.ref C) = some (.type "type")
structure FreeTxt (K : PySem.W.Frag) (mg : Str → Option Value) (m1 m2 m3 m4 m6 m7 m12 : Addr) (n1 n2 n3 n4 n6 n7 n12 : FuncData) (t1 t2 : Tok) (CN r1 : Addr) (v1 : FuncData) : Prop where
  look : LookTxt K mg m1 m2 m3 m4 m6 m7 m12 n1 n2 n3 n4 n6 n7 n12 t1 t2
  noLetters : ExcF K mg "NoLetters" CN
  FFreeRule : Fun K "free_rule" "free_rule" sFreeRule r1 v1
  bFreeRule : Binds K v1 ["letters"] []
  gFreeRule : mg "free_rule" = some (.ref r1)
/-- the rule that lets all letters by, told anew -/
def FreeAt (H : Hp) (t : Addr) (z : Str) : Prop := ∃ b c, H t = some (.tup [.str z, .ref b]) ∧ H b = some (.tup [.ref c]) ∧ H c = some (.tup (List.replicate z.length (.int 0)))
def spFree (K : PySem.W.Frag) (CN : Addr) : Sp := fun vs H Q E => ∃ x d, vs = [x] ∧ Rp K H x d ∧ ((∃ z, d = .str z ∧ ltrD d = true ∧ ∀ H' t, Same H H' → H t = none → FreeAt H' t z → Q (.ref t) H') ∨ (ltrD d = false ∧ ∀ H', Same H H' → E (.ref CN) none H'))
section
variable {P : Program} {w : World} {K : PySem.W.Frag} {mg : Str → Option Value} {base : Heap} {m1 m2 m3 m4 m6 m7 m12 : Addr} {n1 n2 n3 n4 n6 n7 n12 : FuncData} {t1 t2 : Tok} {CN r1 : Addr} {v1 : FuncData}
theorem ok_free (T : FreeTxt K mg m1 m2 m3 m4 m6 m7 m12 n1 n2 n3 n4 n6 n7 n12 t1 t2 CN r1 v1) {k : Nat} : FnOk P w K mg base (L2.CX P w) (k + 2) r1 v1 ["letters"] (spFree K CN) := by
  have GL : FnOk P w K mg base CX0 (k + 1) m4 n4 ["thing"] (spLetters K) := ok_letters T.look
  refine T.FFreeRule.okX scFreeRule (fun vs H Q E h => ?_) (fun cdv A outer s H vs Q E hr h => ?_)
  · obtain ⟨x, d, rfl, _⟩ := h
    rfl
  · obtain ⟨x, d, rfl, hd, h⟩ := h
    refine ⟨_, (pss_cons (ps_if (pt_not (pt_val (pe_call GL hr (by rfl) T.look.gLetters T.look.FLetters.kp T.look.bLetters .nil pass0 (pa_cons (pv 0) pa_nil)))) (pss_one (ps_raise rfl (takes_of rfl rfl rfl rfl) (SkE.pmk_own1 PySem.F.excBase_ValueError T.noLetters.q T.noLetters.g T.noLetters.k (raises_own T.noLetters.b T.noLetters.t) (by exact rfl) pe_str))) pss_nil)
 (pss_one (ps_ret (pe_tup (pa_cons (pv 0) (pa_cons (pe_tup (pa_cons (pe_callTy call_tuple_of (by rfl) T.look.tuple (by decide +kernel) (pa_cons (pe_lc (own := [("_", 1)]) (g := gName 1) (tt := tYes) (by rfl) scFreeRule.nd (pi_str (pv 0)) (blkOk_by (N := ["letters", "_"]) (sc := defScope sFreeRule) (by decide +kernel)) (fun _ _ _ _ _ => pg_name (i := 1) scFreeRule.nd rfl (Or.inl rfl)) (fun _ _ _ _ _ => pts_nil) (fun _ _ _ _ _ => pe_int)) pa_nil)) pa_nil)) pa_nil)))))), ?_⟩
    refine ⟨_, rfl, x, d, rfl, hd, fun H1 s1 => ⟨_, rfl, ?_⟩⟩
    rcases h with ⟨z, rfl, zl, q⟩ | ⟨zl, q⟩
    · obtain ⟨_, rfl, e, hz⟩ := hd.isStr rfl
      cases e
      have l3 : z.length ≤ 3 := ltrD_len zl
      refine ite2 (fun u => absurd u (by rw [zl]; decide)) (fun _ => ?_)
      refine ⟨_, rfl, _, rfl, z, rfl, fun D nD => ?_⟩
      refine lc_it walk_str (fun j H' => Same H1 H' ∧ H' D = some (.lst (List.replicate j (V.int 0)))) ⟨same_upd nD, upd_same⟩ (fun _ _ _ _ => trivial) ?_ ?_
      · rintro j u H' H2 hj ⟨sm, hD⟩ ⟨rfl, c, hc, rfl⟩
        refine ⟨rfl, ?_⟩
        refine ⟨_, hD, ?_, same_new sm nD, ?_⟩
        · rw [List.length_replicate]
          exact Nat.lt_of_lt_of_le (show j < 3 from Nat.lt_of_lt_of_le hj l3) (by decide)
        · rw [upd_same, List.replicate_succ']
      · rintro H' ⟨sm, hD⟩
        refine ⟨D, _, rfl, .inl ⟨SqL.of hD, fun c hc => ⟨(by show 1 ≤ sizeLine; decide), fun b hb => ⟨(by show 2 ≤ sizeLine; decide), fun t ht => ?_⟩⟩⟩⟩
        have x1 := same_upd (o := HO.tup (List.replicate z.cps.size (V.int 0))) hc
        have x2 := same_upd (o := HO.tup [V.ref c]) hb
        have x3 := same_upd (o := HO.tup [V.str z, V.ref b]) ht
        have sa := (s1.trans sm).trans (x1.trans x2)
        exact q _ t (sa.trans x3) (sa.free ht) ⟨b, c, upd_same, x3 _ _ upd_same, x3 _ _ (x2 _ _ upd_same)⟩
    · refine ite2 (fun _ => ?_) (fun u => absurd (by rw [zl]; rfl) u)
      exact q H1 s1
end
end My
/-! ### a state, or None -/
namespace My
open PySem PySem.Spec PyProof.Rows L2
def stV : Option Int → V
  | some i => .int i
  | none => .non
end My
/-! ### what stays when the pen writes -/
namespace My
open PySem PySem.Spec PyProof.Rows L2
/-- all but what stands at p, and the tables, is as it was -/
def ButN (p : Addr) (H H' : Hp) : Prop := ∀ b o, b ≠ p → H b = some o → (∀ ps, o ≠ .tbl ps) → H' b = some o
theorem ButN.trans {p : Addr} {H H1 H2 : Hp} (a : ButN p H H1) (b : ButN p H1 H2) : ButN p H H2 := fun c o n e t => b c o n (a c o n e t) t
theorem ButN.refl (p : Addr) (H : Hp) : ButN p H H := fun _ _ _ e _ => e
theorem butN_same {p : Addr} {H H' : Hp} (s : Same H H') : ButN p H H' := fun b o _ e _ => s b o e
theorem butN_but {p : Addr} {H H' : Hp} (s : But p H H') : ButN p H H' := fun b o n e _ => s b o n e
theorem butN_ext {p : Addr} {H H' : Hp} (s : LamX.ExtN H H') : ButN p H H' := fun b o _ e t => s b o e t
theorem Pen.ext {H H' : Hp} {p : Addr} {n : Nat} (h : Pen H p n) (s : LamX.ExtN H H') : Pen H' p n := by
  obtain ⟨c, cs, a, r, h1, h2, h3⟩ := h.ex
  exact ⟨c, cs, a, r, s _ _ h1 (fun _ z => nomatch z), s _ _ h2 (fun _ z => nomatch z), h3⟩
theorem tabs_but {T : List (Addr × Str)} {H H' : Hp} {p : Addr} {ys : List V} (h : LamX.Tabs T H) (hp : H p = some (.lst ys)) (b : But p H H') : LamX.Tabs T H' := fun x hx => by
  obtain ⟨ps, h1, h2, h3⟩ := h x hx
  refine ⟨ps, b _ _ (ne_of h1 hp (by intro z; cases z)) h1, h2, fun pos cv hc => ?_⟩
  obtain ⟨c, e1, e2⟩ := h3 pos cv hc
  exact ⟨c, e1, b _ _ (ne_of e2 hp (by intro z; cases z)) e2⟩
theorem tabs_pen {T : List (Addr × Str)} {H H' : Hp} {p : Addr} {n : Nat} (h : LamX.Tabs T H) (hp : Pen H p n) (b : But p H H') : LamX.Tabs T H' := by
  obtain ⟨ys, e⟩ := hp.ls
  exact tabs_but h e b
theorem tabs_same {T : List (Addr × Str)} {H H' : Hp} (h : LamX.Tabs T H) (s : Same H H') : LamX.Tabs T H' := h.ext s
theorem new_ne {H : Hp} {p l : Addr} {n : Nat} (h : Pen H p n) (hl : H l = none) : l ≠ p := by
  obtain ⟨xs, e⟩ := h.ls
  exact (ne_of_none e hl).symm
/-- x is what d says, whatever becomes of the pen -/
def Rs (p : Addr) (K : PySem.W.Frag) (H : Hp) (x : V) (d : PyData) : Prop := ∀ H', ButN p H H' → Rp K H' x d
def RsAll (p : Addr) (K : PySem.W.Frag) (H : Hp) (xs : List V) (ds : List PyData) : Prop := ∀ H', ButN p H H' → RpAll K H' xs ds
section
variable {p : Addr} {K : PySem.W.Frag} {H H' : Hp} {x : V} {d : PyData} {xs : List V} {ds : List PyData}
theorem Rs.go (h : Rs p K H x d) (b : ButN p H H') : Rs p K H' x d := fun H2 b2 => h H2 (b.trans b2)
theorem RsAll.go (h : RsAll p K H xs ds) (b : ButN p H H') : RsAll p K H' xs ds := fun H2 b2 => h H2 (b.trans b2)
theorem Rs.rp (h : Rs p K H x d) : Rp K H x d := h H (ButN.refl p H)
theorem RsAll.rp (h : RsAll p K H xs ds) : RpAll K H xs ds := h H (ButN.refl p H)
theorem rs_non : Rs p K H .non .none := fun _ _ => .non
theorem rs_bl (b : Bool) : Rs p K H (.bl b) (.bool b) := fun _ _ => .bl b
theorem rs_int (i : Int) : Rs p K H (.int i) (.int i) := fun _ _ => .int i
theorem rs_str (z : Str) (h : z.length ≤ sizeLine) : Rs p K H (.str z) (.str z) := fun _ _ => .str z h
theorem rsNil : RsAll p K H [] [] := fun _ _ => .nil
theorem RsAll.cons (h : Rs p K H x d) (t : RsAll p K H xs ds) : RsAll p K H (x :: xs) (d :: ds) := fun H2 b => .cons (h H2 b) (t H2 b)
theorem rs_tup {t : Addr} (ht : t ≠ p) (h : H t = some (.tup xs)) (a : RsAll p K H xs ds) : Rs p K H (.ref t) (.tuple ds) := fun H2 b => .tup (SqT.of (b _ _ ht h (fun _ z => nomatch z))) (a H2 b)
theorem rs_lst {t : Addr} (ht : t ≠ p) (h : H t = some (.lst xs)) (a : RsAll p K H xs ds) : Rs p K H (.ref t) (.list ds) := fun H2 b => .lst (SqL.of (b _ _ ht h (fun _ z => nomatch z))) (a H2 b)
theorem rsAll_of {α : Type} {f : α → V} {g : α → PyData} : ∀ {l : List α}, (∀ a ∈ l, Rs p K H (f a) (g a)) → RsAll p K H (l.map f) (l.map g)
  | [], _ => rsNil
  | a :: l, h => RsAll.cons (h a (.head _)) (rsAll_of fun b hb => h b (.tail _ hb))
end
def spPickC (K : PySem.W.Frag) : Sp := fun vs H Q _ => ∃ (p c s : Addr) (xs : List V) (n : Nat), vs = [.ref p, .ref s] ∧ PenC H p c n ∧ n < 1048000 ∧ SqL K H s xs ∧ s ≠ p ∧ 0 < xs.length ∧ xs.length ≤ 1000 ∧ ∀ (H' : Hp) (k : Nat) (v : V), But p H H' → PenC H' p c (n + 1) → xs[(k : Nat)]? = some (v : V) → Q v H'
theorem log_small {z : Int} {m : Nat} (h : z.natAbs ≤ m) (hm : m < 9000) : z.natAbs.log2 < 9000 := Nat.lt_of_le_of_lt (Nat.log2_le_self _) (Nat.lt_of_le_of_lt h hm)
section
variable {P : Program} {w : World} {K : PySem.W.Frag} {mg : Str → Option Value} {base : Heap} {f1 f2 f3 f4 : Addr} {d1 d2 d3 d4 : FuncData}
theorem ok_pickC (T : PenTxt K mg f1 f2 f3 f4 d1 d2 d3 d4) {k : Nat} : FnOk P w K mg base CX0 (k + 3) f4 d4 ["pen", "some"] (spPickC K) := by
  have F := T.FPick
  have GT : FnOk P w K mg base CX0 (k + 2) f3 d3 ["pen", "many"] spTakeC := ok_takeC T
  refine F.ok scPick (fun vs H Q E h => ?_) (fun cdv A outer s H vs Q E hr h => ?_)
  · obtain ⟨c, c2, a, xs, n, rfl, _⟩ := h
    rfl
  · obtain ⟨p, c, l, xs, n, rfl, hP, hn, hS, nlp, l0, l1, q⟩ := h
    refine ⟨_, (pss_one (ps_ret (pe_ix ix_list (pv 1) (pe_call GT hr (by rfl) T.gTake T.FTake.kp T.bTake .nil pass0 (pa_cons (pv 0) (pa_cons (pe_callB call_len_seq (by rfl) T.len PySem.boot_len (pa_cons (pv 1) pa_nil)) pa_nil))) (fun _ _ => rfl)))), ?_⟩
    refine ⟨_, rfl, _, rfl, _, rfl, l, xs, rfl, .inl hS, p, c, _, n, rfl, hP, hn, by omega, ?_, fun H1 k b1 hP1 k0 k1 => ?_⟩
    · exact log_small (show ((xs.length : Int)).natAbs ≤ 1000 by omega) (by decide)
    · have hk : k.toNat < xs.length := by omega
      have e : xs[k.toNat]? = some xs[k.toNat] := List.getElem?_eq_getElem hk
      have hS1 : SqL K H1 l xs := by
        rcases hS with (h | ⟨o, h⟩) | h
        · exact .inl (.inl (b1 _ _ nlp h))
        · exact .inl (.inr ⟨o, b1 _ _ nlp h⟩)
        · exact .inr h
      exact ⟨l, xs, k, _, rfl, rfl, hS1, at_of (by omega) e, q H1 k.toNat _ b1 hP1 e⟩
end
end My
/-! ### the law's letters -/
namespace My
open PySem PySem.Spec PyProof.Rows L2
abbrev sXLetters : Stmt := topS 29
theorem scXLetters : FnScope ["pen", "i", "alphabet", "j", "k"] ["pen"] (defScope sXLetters) := ⟨rfl, rfl, rfl, by decide +kernel, rfl, by decide +kernel, by decide +kernel⟩
structure LetTxt (K : PySem.W.Frag) (mg : Str → Option Value) (x1 : Addr) (y1 : FuncData) : Prop where
  FXLetters : Fun K "_law_x_letters" "_law_x_letters" sXLetters x1 y1
  bXLetters : Binds K y1 ["pen"] []
  gXLetters : mg "_law_x_letters" = some (.ref x1)
def abc : Str := "abcdefghijklmnopqrstuvwxyz"
theorem abc_len : abc.length ≤ sizeLine := by
  show 26 ≤ sizeLine
  decide
theorem abc_at {i : Int} (h0 : 0 ≤ i) (h1 : i ≤ 25) : atI abc.cps.toList i = some (97 + i.toNat) := by
  have h : ∀ n : Nat, n < 26 → abc.cps.toList[n]? = some (97 + n) := by decide +kernel
  have e := h i.toNat (by omega)
  rw [show i = ((i.toNat : Nat) : Int) by omega]
  exact (atI_nat e)
def spXLetters : Sp := fun vs H Q _ => ∃ (p : Addr) (n : Nat), vs = [.ref p] ∧ Pen H p n ∧ n < 1047000 ∧ ∀ (H' : Hp) (z : Str), But p H H' → Pen H' p (n + 4) → lettersL z.cps.toList = true → Q (.str z) H'
theorem letters_one {a : Nat} (h1 : 97 ≤ a) (h2 : a ≤ 122) : lettersL [a] = true := by
  simp [lettersL, h1, h2]
section
variable {P : Program} {w : World} {K : PySem.W.Frag} {mg : Str → Option Value} {base : Heap} {f1 f2 f3 f4 : Addr} {d1 d2 d3 d4 : FuncData} {x1 : Addr} {y1 : FuncData}
theorem ok_xLetters (TP : PenTxt K mg f1 f2 f3 f4 d1 d2 d3 d4) (T : LetTxt K mg x1 y1) {k : Nat} : FnOk P w K mg base CX0 (k + 4) x1 y1 ["pen"] spXLetters := by
  have GT : FnOk P w K mg base CX0 (k + 3) f3 d3 ["pen", "many"] spTake := ok_take TP (k := k + 1)
  have GP : FnOk P w K mg base CX0 (k + 3) f4 d4 ["pen", "some"] (spPick K) := ok_pick TP (k := k)
  refine T.FXLetters.ok scXLetters (fun vs H Q E h => ?_) (fun cdv A outer s H vs Q E hr h => ?_)
  · obtain ⟨p, n, rfl, _⟩ := h
    rfl
  · obtain ⟨p, n, rfl, hP, hn, q⟩ := h
    refine ⟨_, (Evl.pss_cut (ps_par (i := 1) (j := 2) (by rfl) scXLetters.nd rfl rfl (by decide) rfl rfl (pa_cons (pe_call GT hr (by rfl) TP.gTake TP.FTake.kp TP.bTake .nil pass0 (pa_cons (pv 0) (pa_cons pe_int pa_nil))) (pa_cons pe_str pa_nil)) (by rfl))
 (Evl.pss_cut (ps_set (i := 3) scXLetters.nd rfl (.inl rfl) (pe_op op_add (pe_op op_add (pv 1) pe_int) (pe_call GT hr (by rfl) TP.gTake TP.FTake.kp TP.bTake .nil pass0 (pa_cons (pv 0) (pa_cons (pe_op op_sub pe_int (pv 1)) pa_nil)))))
 (Evl.pss_cut (ps_set (i := 4) scXLetters.nd rfl (.inl rfl) (pe_op op_add (pe_op op_add (pv 3) pe_int) (pe_call GT hr (by rfl) TP.gTake TP.FTake.kp TP.bTake .nil pass0 (pa_cons (pv 0) (pa_cons (pe_op op_sub pe_int (pv 3)) pa_nil)))))
 (pss_one (ps_ret (pe_op op_add_str (pe_ix ix_str (pv 2) (pv 1) (fun _ _ => rfl)) (pe_call GP hr (by rfl) TP.gPick TP.FPick.kp TP.bPick .nil pass0 (pa_cons (pv 0) (pa_cons (pe_lst (pa_cons pe_str (pa_cons (pe_ix ix_str (pv 2) (pv 3) (fun _ _ => rfl)) (pa_cons (pe_ix ix_str (pv 2) (pv 3) (fun _ _ => rfl)) (pa_cons (pe_ix ix_str (pv 2) (pv 3) (fun _ _ => rfl)) (pa_cons (pe_op op_add_str (pe_ix ix_str (pv 2) (pv 3) (fun _ _ => rfl)) (pe_ix ix_str (pv 2) (pv 4) (fun _ _ => rfl))) pa_nil)))))) pa_nil))))))))), ?_⟩
    refine ⟨fun σ H' => ∃ i : Int, σ = [some (.ref p), some (.int i), some (.str abc), none, none] ∧ 0 ≤ i ∧ i ≤ 23 ∧ But p H H' ∧ Pen H' p (n + 1), ?_, ?_⟩
    · refine ⟨_, rfl, p, 24, n, rfl, hP, by omega, by decide, by decide, fun H1 i b1 hP1 i0 i1 => ⟨_, _, rfl, i, rfl, i0, by omega, b1, hP1⟩⟩
    rintro σ H1 ⟨i, rfl, i0, i1, b1, hP1⟩
    refine ⟨fun σ H' => ∃ j : Int, σ = [some (.ref p), some (.int i), some (.str abc), some (.int j), none] ∧ i < j ∧ j ≤ 24 ∧ But p H H' ∧ Pen H' p (n + 2), ?_, ?_⟩
    · refine ⟨_, rfl, _, _, rfl, rfl, _, rfl, _, rfl, _, _, rfl, rfl, p, 24 - i, n + 1, rfl, hP1, by omega, by omega, log_small (m := 24) (by omega) (by decide), fun H2 j b2 hP2 j0 j1 => ⟨_, _, rfl, rfl, _, rfl, by omega, by omega, b1.trans b2, hP2⟩⟩
    rintro σ H2 ⟨j, rfl, j0, j1, b2, hP2⟩
    refine ⟨fun σ H' => ∃ k : Int, σ = [some (.ref p), some (.int i), some (.str abc), some (.int j), some (.int k)] ∧ j < k ∧ k ≤ 25 ∧ But p H H' ∧ Pen H' p (n + 3), ?_, ?_⟩
    · refine ⟨_, rfl, _, _, rfl, rfl, _, rfl, _, rfl, _, _, rfl, rfl, p, 25 - j, n + 2, rfl, hP2, by omega, by omega, log_small (m := 25) (by omega) (by decide), fun H3 k b3 hP3 k0 k1 => ⟨_, _, rfl, rfl, _, rfl, by omega, by omega, b2.trans b3, hP3⟩⟩
    rintro σ H3 ⟨k, rfl, k0, k1, b3, hP3⟩
    have ai := abc_at (i := i) i0 (by omega)
    have aj := abc_at (i := j) (by omega) (by omega)
    have ak := abc_at (i := k) (by omega) (by omega)
    have len1 : ∀ a b : Nat, (⟨#[a]⟩ : Str).length + (⟨#[b]⟩ : Str).length ≤ sizeLine := fun a b => by
      show 2 ≤ sizeLine
      decide
    refine ⟨_, rfl, _, rfl, abc, i, _, rfl, rfl, abc_len, ai, ?_⟩
    refine ⟨_, rfl, _, rfl, _, rfl, abc, j, _, rfl, rfl, abc_len, aj, _, rfl, _, rfl, abc, j, _, rfl, rfl, abc_len, aj, _, rfl, _, rfl, abc, j, _, rfl, rfl, abc_len, aj, ?_⟩
    refine ⟨_, rfl, _, rfl, abc, j, _, rfl, rfl, abc_len, aj, _, rfl, _, rfl, abc, k, _, rfl, rfl, abc_len, ak, _, _, rfl, rfl, len1 _ _, (by show 5 ≤ sizeLine; decide), fun l hl => ?_⟩
    have nl := new_ne hP3 hl
    refine ⟨p, l, _, n + 3, rfl, hP3.same (same_upd hl), by omega, SqL.of upd_same, nl, (by show 0 < 5; decide), (by show 5 ≤ 1000; decide), fun H4 m v b4 hP4 hm => ?_⟩
    have b34 : But p H H4 := b3.trans ((But.of (same_upd hl)).trans b4)
    have c1 : ∃ y : Str, v = .str y ∧ (y.cps.toList = [] ∨ y.cps.toList = [97 + j.toNat] ∨ y.cps.toList = [97 + j.toNat, 97 + k.toNat]) := by
      match m, hm with
      | 0, hm => exact ⟨_, (Option.some.inj hm).symm, .inl (by decide +kernel)⟩
      | 1, hm => exact ⟨_, (Option.some.inj hm).symm, .inr (.inl rfl)⟩
      | 2, hm => exact ⟨_, (Option.some.inj hm).symm, .inr (.inl rfl)⟩
      | 3, hm => exact ⟨_, (Option.some.inj hm).symm, .inr (.inl rfl)⟩
      | 4, hm => exact ⟨_, (Option.some.inj hm).symm, .inr (.inr rfl)⟩
      | m + 5, hm => exact absurd hm (by simp)
    obtain ⟨y, rfl, c1⟩ := c1
    have hy : y.length = y.cps.toList.length := rfl
    refine ⟨_, _, rfl, rfl, ?_, q H4 _ b34 hP4 ?_⟩
    · rw [hy]
      refine Nat.le_trans (show _ ≤ 3 from ?_) (by decide)
      rw [show (⟨#[97 + i.toNat]⟩ : Str).length = 1 from rfl]
      rcases c1 with e | e | e <;> rw [e] <;> simp
    · have e1 : ((⟨#[97 + i.toNat]⟩ : Str) ++ y).cps.toList = [97 + i.toNat] ++ y.cps.toList := by
        show (#[97 + i.toNat] ++ y.cps).toList = _
        simp
      rw [e1]
      rcases c1 with e | e | e <;> rw [e]
      · simp [lettersL]; omega
      · simp [lettersL]; omega
      · simp [lettersL]; omega
end
end My
/-! ### the law's rule -/
namespace My
open PySem PySem.Spec PyProof.Rows L2
abbrev sXRule : Stmt := topS 32
theorem scXRule : FnScope ["pen", "letters", "most", "many", "states", "state", "row", "letter", "after"] ["pen", "letters", "most"] (defScope sXRule) := ⟨rfl, rfl, rfl, by decide +kernel, rfl, by decide +kernel, by decide +kernel⟩
structure RulTxt (K : PySem.W.Frag) (mg : Str → Option Value) (x2 : Addr) (y2 : FuncData) : Prop where
  range : mg "range" = none
  len : mg "len" = none
  tuple : mg "tuple" = none
  FXRule : Fun K "_law_x_rule" "_law_x_rule" sXRule x2 y2
  bXRule : Binds K y2 ["pen", "letters", "most"] []
  gXRule : mg "_law_x_rule" = some (.ref x2)
def stD : Option Int → PyData
  | some i => .int i
  | none => .none
theorem letters_pos {z : Str} (h : lettersL z.cps.toList = true) : 0 < z.length := by
  have e : z.cps.toList.length = z.length := Array.length_toList
  rw [← e]
  cases l : z.cps.toList with
  | nil => rw [l] at h; cases h
  | cons a b => exact Nat.succ_pos _
theorem but_none {p a : Addr} {H H' : Hp} (b : But p H H') (n : a ≠ p) (e : H' a = none) : H a = none := by
  cases h : H a with
  | none => rfl
  | some o => exact absurd ((b a o n h).symm.trans e) (by simp)
/-- a row of a rule's table -/
structure RowOk (n m : Nat) (r : List (Option Int)) : Prop where
  len : r.length = n
  has : ∃ x ∈ r, x ≠ none
  range : ∀ i, some i ∈ r → 0 ≤ i ∧ i < (m : Int)
def rowsD (rows : List (List (Option Int))) : List PyData := rows.map fun r => .tuple (r.map stD)
theorem rulD_rows {z : Str} {rows : List (List (Option Int))} (hl : lettersL z.cps.toList = true) (h1 : 1 ≤ rows.length) (h2 : rows.length ≤ 4) (h : ∀ r ∈ rows, RowOk z.length rows.length r) : rulD (.tuple [.str z, .tuple (rowsD rows)]) = true := by
  have ln : (rowsD rows).length = rows.length := List.length_map ..
  rw [rulD, Bool.and_eq_true, Bool.and_eq_true, tabD, Bool.and_eq_true, List.all_eq_true, List.all_eq_true]
  refine ⟨hl, ⟨?_, fun e he => ?_⟩, fun e he => ?_⟩
  · rw [tupD, Bool.and_eq_true, decide_eq_true_eq, decide_eq_true_eq, ln]
    omega
  · obtain ⟨r, hr, rfl⟩ := List.mem_map.mp he
    rw [tupD, Bool.and_eq_true, decide_eq_true_eq, decide_eq_true_eq, List.length_map, (h r hr).len]
    exact ⟨Int.le_refl _, Int.le_refl _⟩
  · obtain ⟨r, hr, rfl⟩ := List.mem_map.mp he
    rw [wayD, Bool.and_eq_true, List.all_eq_true, decide_eq_true_eq, ln]
    refine ⟨?_, fun d hd => ?_⟩
    · obtain ⟨x, hx, hn⟩ := (h r hr).has
      cases x with
      | none => exact absurd rfl hn
      | some i =>
        have : PyData.int i ∈ (r.map stD).filter someD := List.mem_filter.mpr ⟨List.mem_map.mpr ⟨some i, hx, rfl⟩, rfl⟩
        have := List.length_pos_of_mem this
        omega
    · obtain ⟨hd1, hd2⟩ := List.mem_filter.mp hd
      obtain ⟨x, hx, rfl⟩ := List.mem_map.mp hd1
      cases x with
      | none => cases hd2
      | some i =>
        have := (h r hr).range i hx
        show betD 0 _ (.int i) = true
        rw [betD, Bool.and_eq_true, decide_eq_true_eq, decide_eq_true_eq]
        omega
/-- the tuples of rows stand -/
inductive RowsAt (p : Addr) (H : Hp) : List Addr → List (List (Option Int)) → Prop
  | nil : RowsAt p H [] []
  | cons {t : Addr} {r : List (Option Int)} {ts : List Addr} {rows : List (List (Option Int))} : (t ≠ p ∧ H t = some (.tup (r.map stV))) → RowsAt p H ts rows → RowsAt p H (t :: ts) (r :: rows)
theorem RowsAt.go {p : Addr} {H H' : Hp} {ts : List Addr} {rows : List (List (Option Int))} (h : RowsAt p H ts rows) (g : ∀ (t : Addr) (r : List (Option Int)), t ≠ p → H t = some (.tup (r.map stV)) → H' t = some (.tup (r.map stV))) : RowsAt p H' ts rows := by
  induction h with
  | nil => exact .nil
  | cons a _ ih => exact .cons ⟨a.1, g _ _ a.1 a.2⟩ ih
theorem RowsAt.snoc {p : Addr} {H : Hp} {ts : List Addr} {rows : List (List (Option Int))} (h : RowsAt p H ts rows) {t : Addr} {r : List (Option Int)} (n : t ≠ p) (e : H t = some (.tup (r.map stV))) : RowsAt p H (ts ++ [t]) (rows ++ [r]) := by
  induction h with
  | nil => exact .cons ⟨n, e⟩ .nil
  | cons a _ ih => exact .cons a ih
theorem rs_st {p : Addr} {K : PySem.W.Frag} {H : Hp} (x : Option Int) : Rs p K H (stV x) (stD x) := by
  cases x with
  | none => exact rs_non
  | some i => exact rs_int i
theorem RowsAt.rs {p : Addr} {K : PySem.W.Frag} {H : Hp} {ts : List Addr} {rows : List (List (Option Int))} (h : RowsAt p H ts rows) : RsAll p K H (ts.map V.ref) (rowsD rows) := by
  induction h with
  | nil => exact rsNil
  | cons a _ ih => exact RsAll.cons (rs_tup a.1 a.2 (rsAll_of fun x _ => rs_st x)) ih
def spXRule (K : PySem.W.Frag) : Sp := fun vs H Q _ => ∃ (p : Addr) (n : Nat) (z : Str) (most : Int), vs = [.ref p, .str z, .int most] ∧ Pen H p n ∧ n < 1047000 ∧ lettersL z.cps.toList = true ∧ 1 ≤ most ∧ most ≤ 4 ∧
  ∀ (H' : Hp) (t : Addr) (ss : List PyData), But p H H' → Pen H' p (n + 45) → Rs p K H' (.ref t) (.tuple [.str z, .tuple ss]) → rulD (.tuple [.str z, .tuple ss]) = true → Q (.ref t) H'
section
variable {P : Program} {w : World} {K : PySem.W.Frag} {mg : Str → Option Value} {base : Heap} {f1 f2 f3 f4 : Addr} {d1 d2 d3 d4 : FuncData} {x2 : Addr} {y2 : FuncData}
theorem ok_xRule (TP : PenTxt K mg f1 f2 f3 f4 d1 d2 d3 d4) (T : RulTxt K mg x2 y2) {k : Nat} : FnOk P w K mg base CX0 (k + 4) x2 y2 ["pen", "letters", "most"] (spXRule K) := by
  have GT : FnOk P w K mg base CX0 (k + 3) f3 d3 ["pen", "many"] spTake := ok_take TP (k := k + 1)
  have GTC : FnOk P w K mg base CX0 (k + 3) f3 d3 ["pen", "many"] spTakeC := ok_takeC TP (k := k + 1)
  have GP : FnOk P w K mg base CX0 (k + 3) f4 d4 ["pen", "some"] (spPickC K) := ok_pickC TP (k := k)
  refine T.FXRule.ok scXRule (fun vs H Q E h => ?_) (fun cdv A outer s H vs Q E hr h => ?_)
  · obtain ⟨p, n, z, most, rfl, _⟩ := h
    rfl
  · obtain ⟨p, n, z, most, rfl, hP, hn, hl, m1, m4, q⟩ := h
    refine ⟨_, (Evl.pss_cut (ps_asg (pe_tup (pa_cons (pe_op op_add pe_int (pe_call GTC hr (by rfl) TP.gTake TP.FTake.kp TP.bTake .nil pass0 (pa_cons (pv 0) (pa_cons (pv 2) pa_nil)))) (pa_cons (pe_lst pa_nil) pa_nil))) (pg_tup rfl (pgs_cons (pg_name (i := 3) scXRule.nd rfl (.inr rfl)) (pgs_cons (pg_name (i := 4) scXRule.nd rfl (.inl rfl)) pgs_nil))))
 (pss_cons (ps_for PassesOwn.never rfl (pi_range1 (by rfl) T.range (pa_cons (pv 3) pa_nil)) (pg_name (i := 5) scXRule.nd rfl (.inl rfl))
 (Evl.pss_cut (ps_setLc (i := 6) (own := [("letter", 7)]) (g := gName 7) (tt := tYes) (by rfl) scXRule.nd rfl rfl (sw_true rfl rfl rfl (by decide +kernel)) (pi_str (pv 1)) (blkOk_by (N := ["pen", "letters", "most", "many", "states", "state", "row", "letter", "after"]) (sc := defScope sXRule) (by decide +kernel)) (fun _ _ _ _ _ => pg_name (i := 7) scXRule.nd rfl (Or.inl rfl)) (fun _ _ _ _ _ => pts_nil) (fun _ _ _ _ _ => (pe_call GP hr (by rfl) TP.gPick TP.FPick.kp TP.bPick .nil pass0 (pa_cons (pv 0) (pa_cons (pe_lst (pa_cons pe_non (pa_cons (pe_call GTC hr (by rfl) TP.gTake TP.FTake.kp TP.bTake .nil pass0 (pa_cons (pv 0) (pa_cons (pv 3) pa_nil))) (pa_cons (pe_call GTC hr (by rfl) TP.gTake TP.FTake.kp TP.bTake .nil pass0 (pa_cons (pv 0) (pa_cons (pv 3) pa_nil))) pa_nil)))) pa_nil)))))
 (Evl.pss_cut (ps_if (pt_cmpR op_notIn_seq pe_bl (pe_lc (own := [("after", 8)]) (g := gName 8) (tt := tYes) (by rfl) scXRule.nd (pi_list (pv 6)) (blkOk_by (N := ["pen", "letters", "most", "many", "states", "state", "row", "letter", "after"]) (sc := defScope sXRule) (by decide +kernel)) (fun _ _ _ _ _ => pg_name (i := 8) scXRule.nd rfl (Or.inl rfl)) (fun _ _ _ _ _ => pts_nil) (fun _ _ _ _ _ => (pe_cmpR op_isN (pv 8) pe_non (nomark _)))) (by rfl)) (pss_one (ps_asg (pe_call GTC hr (by rfl) TP.gTake TP.FTake.kp TP.bTake .nil pass0 (pa_cons (pv 0) (pa_cons (pv 3) pa_nil))) (pg_sub (pv 6) (pe_call GTC hr (by rfl) TP.gTake TP.FTake.kp TP.bTake .nil pass0 (pa_cons (pv 0) (pa_cons (pe_callB call_len_seq (by rfl) T.len PySem.boot_len (pa_cons (pv 6) pa_nil)) pa_nil))) set_list))) pss_nil)
 (pss_one (ps_expr (pe_bm PySem.F.plainAttrs_list PySem.F.slot_list_append PySem.F.type_list_append mt_append (pv 4) (pa_cons (pe_callTy call_tuple_of (by rfl) T.tuple (by decide +kernel) (pa_cons (pv 6) pa_nil)) pa_nil)))))))
 (pss_one (ps_ret (pe_tup (pa_cons (pv 1) (pa_cons (pe_callTy call_tuple_of (by rfl) T.tuple (by decide +kernel) (pa_cons (pv 4) pa_nil)) pa_nil))))))), ?_⟩
    obtain ⟨c, hP⟩ := hP.at
    have z3 : z.cps.size ≤ 3 := ltrD_len (d := .str z) hl
    have sl3 : ∀ {m : Nat}, m ≤ 3 → m < sizeLine := fun h => Nat.lt_of_le_of_lt h (by decide)
    refine ⟨fun σ H' => ∃ (mi : Int) (S : Addr), σ = [some (.ref p), some (.str z), some (.int most), some (.int mi), some (.ref S), none, none, none, none] ∧ 1 ≤ mi ∧ mi ≤ 4 ∧ But p H H' ∧ PenC H' p c (n + 1) ∧ H' S = some (.lst []) ∧ S ≠ p ∧ S ≠ c ∧ H S = none, ?_, ?_⟩
    · refine ⟨_, rfl, _, rfl, p, c, most, n, rfl, hP, by omega, by omega, log_small (m := 4) (by omega) (by decide), fun H1 k1 b1 hP1 k10 k11 => ⟨_, _, rfl, rfl, (by show 0 ≤ sizeLine; decide), fun S hS => ⟨(by show 2 ≤ sizeLine; decide), fun t ht => ?_⟩⟩⟩
      have x1 := same_upd (o := HO.lst []) hS
      have x2 := same_upd (o := HO.tup [.int (1 + k1), .ref S]) ht
      obtain ⟨c1, _, _, hp1, hc1, _⟩ := hP1.ex
      refine ⟨t, _, rfl, SqT.of upd_same, rfl, _, _, rfl, _, _, rfl, rfl, 1 + k1, S, rfl, by omega, by omega, b1.trans (But.of (x1.trans x2)), hP1.keep (fun o e => (x1.trans x2) _ _ e) (fun o e => (x1.trans x2) _ _ e), x2 _ _ upd_same, (ne_of_none hp1 hS).symm, (ne_of_none hc1 hS).symm, but_none b1 (ne_of_none hp1 hS).symm hS⟩
    rintro σ H1 ⟨mi, S, rfl, i1, i4, b1, hP1, hS, nSp, nSc, S0⟩
    refine ⟨_, rfl, _, rfl, by omega, by omega, ?_⟩
    have lift : ∀ {i : Nat} {v5 v6 : Option V}, True := trivial
    refine for_range (lo := 0) (n := mi.toNat) (fun i σ H' => ∃ v5 v6 ts rows, σ = [some (.ref p), some (.str z), some (.int most), some (.int mi), some (.ref S), v5, v6, none, none] ∧ But p H H' ∧ PenC H' p c (n + 1 + 11 * i) ∧ H' S = some (.lst (ts.map V.ref)) ∧ RowsAt p H' ts rows ∧ rows.length = i ∧ ts.length = i ∧ ∀ r ∈ rows, RowOk z.length mi.toNat r)
      ⟨none, none, [], [], rfl, b1, hP1, hS, .nil, rfl, rfl, fun _ h => nomatch h⟩ ?_ ?_
    · rintro i σ H2 hi ⟨v5, v6, ts, rows, rfl, b2, hP2, hS2, hR, lr, lt, ok⟩
      -- row
      refine ⟨fun σ H' => ∃ (R : Addr) (r : List (Option Int)), σ = [some (.ref p), some (.str z), some (.int most), some (.int mi), some (.ref S), some (.int (0 + (i : Int))), some (.ref R), none, none] ∧ But p H H' ∧ PenC H' p c (n + 1 + 11 * i + 9) ∧ H' S = some (.lst (ts.map V.ref)) ∧ RowsAt p H' ts rows ∧ H' R = some (.lst (r.map stV)) ∧ r.length = z.length ∧ (∀ j, some j ∈ r → 0 ≤ j ∧ j < mi) ∧ R ≠ p ∧ R ≠ S ∧ R ≠ c ∧ H R = none, ?_, ?_⟩
      · refine ⟨_, rfl, z, rfl, fun D nD => ?_⟩
        obtain ⟨_, _, _, hp2, hc2, _⟩ := hP2.ex
        have nDp : D ≠ p := (ne_of_none hp2 nD).symm
        have nDc : D ≠ c := (ne_of_none hc2 nD).symm
        have nDS : D ≠ S := (ne_of_none hS2 nD).symm
        refine lc_it walk_str (fun j H' => ∃ r : List (Option Int), But p H2 H' ∧ PenC H' p c (n + 1 + 11 * i + 3 * j) ∧ H' D = some (.lst (r.map stV)) ∧ r.length = j ∧ (∀ j, some j ∈ r → 0 ≤ j ∧ j < mi)) ⟨[], But.of (same_upd nD), hP2.keep (fun o e => same_upd nD _ _ e) (fun o e => same_upd nD _ _ e), upd_same, rfl, fun _ h => nomatch h⟩ (fun _ _ _ _ => trivial) ?_ ?_
        · rintro j u H' H3 hj ⟨r, bj, hPj, hD, lj, rj⟩ ⟨rfl, cc, hcc, rfl⟩
          refine ⟨rfl, ?_⟩
          refine ⟨_, rfl, _, rfl, _, rfl, p, c, mi, _, rfl, hPj, by omega, by omega, log_small (m := 4) (by omega) (by decide), fun Ha ka ba hPa ka0 ka1 => ?_⟩
          refine ⟨_, rfl, _, rfl, p, c, mi, _, rfl, hPa, by omega, by omega, log_small (m := 4) (by omega) (by decide), fun Hb kb bb hPb kb0 kb1 => ⟨(by show 3 ≤ sizeLine; decide), fun L hL => ?_⟩⟩
          have xL := same_upd (o := HO.lst [V.non, .int ka, .int kb]) hL
          obtain ⟨_, _, _, hpb, hcb, _⟩ := hPb.ex
          refine ⟨p, c, L, _, _, rfl, hPb.keep (fun o e => xL _ _ e) (fun o e => xL _ _ e), by omega, SqL.of upd_same, (ne_of_none hpb hL).symm, (by show 0 < 3; decide), (by show 3 ≤ 1000; decide), fun Hc m v bc hPc hm => ?_⟩
          have bD : But p H3 Hc := (ba.trans bb).trans ((But.of xL).trans bc)
          have hv : ∃ x : Option Int, v = stV x ∧ ∀ j, x = some j → 0 ≤ j ∧ j < mi := by
            match m, hm with
            | 0, hm => exact ⟨none, (Option.some.inj hm).symm, fun _ e => nomatch e⟩
            | 1, hm => exact ⟨some ka, (Option.some.inj hm).symm, fun j e => by cases e; exact ⟨ka0, ka1⟩⟩
            | 2, hm => exact ⟨some kb, (Option.some.inj hm).symm, fun j e => by cases e; exact ⟨kb0, kb1⟩⟩
            | m + 3, hm => exact absurd hm (by simp)
          obtain ⟨x, rfl, hx⟩ := hv
          refine ⟨_, bD _ _ nDp hD, ?_, r ++ [x], ?_, ?_, ?_, ?_, ?_⟩
          · rw [List.length_map, lj]
            exact sl3 (by omega)
          · intro b o nb e
            rw [upd_ne (ne_of_none e nD)]
            exact bD _ _ nb (bj _ _ nb e)
          · have hk : n + 1 + 11 * i + 3 * (j + 1) = n + 1 + 11 * i + 3 * j + 1 + 1 + 1 := by omega
            rw [hk]
            exact hPc.keep (fun o e => by rw [upd_ne nDp.symm]; exact e) (fun o e => by rw [upd_ne nDc.symm]; exact e)
          · rw [upd_same, List.map_append]
            rfl
          · rw [List.length_append, lj]
            rfl
          · intro j hj
            rcases List.mem_append.mp hj with h | h
            · exact rj j h
            · exact hx j (List.mem_singleton.mp h).symm
        · rintro H' ⟨r, bj, hPj, hD, lj, rj⟩
          refine ⟨D, r, rfl, b2.trans bj, hPj.mono (by omega), bj _ _ nSp hS2, hR.go fun t _ nt e => bj _ _ nt e, hD, lj, rj, nDp, nDS, nDc, but_none b2 nDp nD⟩
      rintro σ H3 ⟨R, r, rfl, b3, hP3, hS3, hR3, hr3, lr3, rg, nRp, nRS, nRc, R0⟩
      -- one that lets a letter by
      refine ⟨fun σ H' => ∃ (R : Addr) (r : List (Option Int)), σ = [some (.ref p), some (.str z), some (.int most), some (.int mi), some (.ref S), some (.int (0 + (i : Int))), some (.ref R), none, none] ∧ But p H H' ∧ PenC H' p c (n + 1 + 11 * i + 11) ∧ H' S = some (.lst (ts.map V.ref)) ∧ RowsAt p H' ts rows ∧ H' R = some (.lst (r.map stV)) ∧ RowOk z.length mi.toNat r ∧ R ≠ p ∧ R ≠ S ∧ R ≠ c ∧ H R = none, ?_, ?_⟩
      · refine ⟨_, rfl, R, rfl, ⟨_, SqL.of hr3⟩, fun D nD => ?_⟩
        obtain ⟨_, _, _, hp3, hc3, _⟩ := hP3.ex
        have xD := same_upd (o := HO.lst []) nD
        refine lc_lstO (xs := r.map stV) (fun j H' => Same H3 H' ∧ H' D = some (.lst ((r.take j).map fun x => V.bl (decide (stV x = V.non))))) ⟨xD, upd_same⟩ (fun i H' h => h.1.seq (SqL.of hr3)) ?_ ?_
        · rintro j u H' hu ⟨sm, hD⟩
          rw [List.getElem?_map] at hu
          cases e : r[j]? with
          | none =>
            rw [e] at hu
            cases hu
          | some x =>
            rw [e] at hu
            cases hu
            refine ⟨rfl, ?_⟩
            refine ⟨_, rfl, rfl, _, hD, ?_, same_new sm nD, ?_⟩
            · rw [List.length_map]
              have := List.length_take_le' j r
              exact sl3 (by have : z.length ≤ 3 := z3; omega)
            · rw [upd_same, List.take_succ, e, List.map_append]
              rfl
        · rintro H' ⟨sm, hD⟩
          rw [List.length_map, List.take_length] at hD
          have fl : (r.map fun x => V.bl (decide (stV x = V.non))).all flatV = true := by
            rw [List.all_map, List.all_eq_true]
            exact fun _ _ => rfl
          have hP4 : PenC H' p c (n + 1 + 11 * i + 9) := hP3.keep (fun o e => sm _ _ e) (fun o e => sm _ _ e)
          refine ⟨D, _, rfl, .inl (SqL.of hD), rfl, fl, _, rfl, ite2 (fun u => ?_) (fun u => ?_)⟩
          · have lr4 : 0 < r.length := by rw [lr3]; exact letters_pos hl
            refine ⟨_, rfl, _, rfl, p, c, mi, _, rfl, hP4, by omega, by omega, log_small (m := 4) (by omega) (by decide), fun Ha ka ba hPa ka0 ka1 => ?_⟩
            have hRa : Ha R = some (.lst (r.map stV)) := ba _ _ nRp (sm _ _ hr3)
            refine ⟨_, rfl, _, rfl, _, rfl, R, _, rfl, .inl (SqL.of hRa), p, c, _, _, rfl, hPa, by omega, by rw [List.length_map]; omega, log_small (m := 4) (by rw [List.length_map]; have : z.length ≤ 3 := z3; omega) (by decide), fun Hb kb bb hPb kb0 kb1 => ?_⟩
            rw [List.length_map] at kb1
            have hRb : Hb R = some (.lst (r.map stV)) := bb _ _ nRp hRa
            have b34 : But p H3 Hb := (But.of sm).trans (ba.trans bb)
            have nxt : But p H3 (upd Hb R (.lst ((r.set kb.toNat (some ka)).map stV))) → True := fun _ => trivial
            refine ⟨R, _, kb, kb.toNat, rfl, rfl, hRb, ixN_of kb0 (by rw [List.length_map]; exact kb1), ?_⟩
            have er : (r.map stV).set kb.toNat (.int ka) = (r.set kb.toNat (some ka)).map stV := by rw [List.map_set]; rfl
            rw [er]
            refine ⟨R, r.set kb.toNat (some ka), rfl, fun b o nb e => ?_, ?_, ?_, ?_, upd_same, ⟨?_, ?_, ?_⟩, nRp, nRS, nRc, R0⟩
            · rw [upd_ne (ne_of_none e R0)]
              exact b34 _ _ nb (b3 _ _ nb e)
            · exact hPb.keep (fun o e => by rw [upd_ne nRp.symm]; exact e) (fun o e => by rw [upd_ne nRc.symm]; exact e)
            · rw [upd_ne nRS.symm]
              exact b34 _ _ nSp hS3
            · refine hR3.go fun t _ nt e => ?_
              rw [upd_ne (ne_of e hr3 (by intro z; cases z))]
              exact b34 _ _ nt e
            · rw [List.length_set, lr3]
            · exact ⟨some ka, List.mem_of_getElem? (i := kb.toNat) (by rw [List.getElem?_set_self (by omega)]), by simp⟩
            · intro j hj
              rcases List.mem_or_eq_of_mem_set hj with h | h
              · have := rg j h
                omega
              · cases h
                omega
          · refine ⟨R, r, rfl, b3.trans (But.of sm), hP4.mono (by omega), sm _ _ hS3, hR3.go fun t _ nt e => sm _ _ e, sm _ _ hr3, ⟨lr3, ?_, fun j hj => ?_⟩, nRp, nRS, nRc, R0⟩
            · have u2 : inV (.bl false) (r.map fun x => V.bl (decide (stV x = V.non))) = true := by
                cases e : inV (.bl false) (r.map fun x => V.bl (decide (stV x = V.non))) with
                | true => rfl
                | false => exact absurd (by rw [e]; rfl) u
              unfold inV at u2
              rw [List.any_map, List.any_eq_true] at u2
              obtain ⟨x, hx, hx2⟩ := u2
              refine ⟨x, hx, fun e => ?_⟩
              subst e
              exact absurd hx2 (by decide)
            · have := rg j hj
              omega
      rintro σ H4 ⟨R, r, rfl, b4, hP4, hS4, hR4, hr4, okr, nRp, nRS, nRc, _⟩
      refine ⟨_, rfl, .inl ⟨rfl, _, SqL.of hS4⟩, _, rfl, R, _, rfl, .inl ⟨SqL.of hr4, fun t ht => ?_⟩⟩
      have xt := same_upd (o := HO.tup (r.map stV)) ht
      obtain ⟨_, _, _, hp4, hc4, _⟩ := hP4.ex
      have ntp : t ≠ p := (ne_of_none hp4 ht).symm
      refine ⟨S, _, _, rfl, rfl, xt _ _ hS4, ?_, ?_⟩
      · rw [List.length_map, lt]
        exact sl3 (by omega)
      · refine ⟨_, _, ts ++ [t], rows ++ [r], rfl, ?_, ?_, ?_, ?_, ?_, ?_, ?_⟩
        · intro b o nb e
          rw [upd_ne (ne_of_none e S0)]
          exact xt _ _ (b4 _ _ nb e)
        · exact (hP4.keep (fun o e => by rw [upd_ne nSp.symm]; exact xt _ _ e) (fun o e => by rw [upd_ne nSc.symm]; exact xt _ _ e)).mono (by omega)
        · rw [upd_same, List.map_append]
          rfl
        · refine RowsAt.snoc (hR4.go fun t' _ nt e => ?_) ntp ?_
          · rw [upd_ne (ne_of e hS4 (by intro z; cases z))]
            exact xt _ _ e
          · rw [upd_ne (ne_of_none hS4 ht).symm]
            exact upd_same
        · rw [List.length_append, lr]
          rfl
        · rw [List.length_append, lt]
          rfl
        · intro r' hr'
          rcases List.mem_append.mp hr' with h | h
          · exact ok r' h
          · rw [List.mem_singleton.mp h]
            exact okr
    · rintro σ H2 ⟨v5, v6, ts, rows, rfl, b2, hP2, hS2, hR, lr, lt, ok⟩
      refine ⟨_, rfl, _, rfl, S, _, rfl, .inl ⟨SqL.of hS2, fun t ht => ⟨(by show 2 ≤ sizeLine; decide), fun u hu => ?_⟩⟩⟩
      have xt := same_upd (o := HO.tup (ts.map V.ref)) ht
      have xu := same_upd (o := HO.tup [V.str z, V.ref t]) hu
      have x2 := xt.trans xu
      obtain ⟨_, _, _, hp2, hc2, _⟩ := hP2.ex
      have ntp : t ≠ p := (ne_of_none hp2 ht).symm
      have nup : u ≠ p := (ne_of_none (xt _ _ hp2) hu).symm
      have hz : z.length ≤ sizeLine := Nat.le_trans (show z.length ≤ 3 from z3) (by decide)
      refine q _ u (rowsD rows) (b2.trans (But.of x2)) ((hP2.keep (fun o e => x2 _ _ e) (fun o e => x2 _ _ e)).mono (by omega)).pen ?_ ?_
      · exact rs_tup nup upd_same (RsAll.cons (rs_str z hz) (RsAll.cons (rs_tup ntp (xu _ _ upd_same) (hR.go fun t' _ _ e => x2 _ _ e).rs) rsNil))
      · exact rulD_rows hl (by omega) (by omega) (by rw [lr]; exact ok)
end
end My
/-! ### tuple * 1 -/
namespace My
open PySem PySem.Spec PyProof.Rows L2
theorem tuple_mul1 (l : Addr) (items : Array Value) (n : Nat) (dd : Option Addr) (sl : Array (Option Value)) (u : Tok) :
    Meets (Builtin.«tuple.__mul__» ⟨[.ref l, .int 1 u], []⟩) (fun _ R s => s.heap.get? l = some { cls := .type "tuple", dict := dd, data := .seq items n, slots := sl } ∧
      R (.ok (.ret (Value.ref l))) s) :=
  .of_wp fun prog w A R s h => by
    obtain ⟨hp, g, d, tk, os⟩ := s
    obtain ⟨hl, h⟩ := h
    have f1 := AutoSeq1.idx_int
    wp_walk using wpAny_loadPart' hl
    exact ⟨_, rfl, h⟩
theorem op_repT1 {X : Cx} : OpR X (binaryOp .Mult) (fun x y H Q => ∃ l k xs, x = .ref l ∧ y = .int k ∧ SqT X.K H l xs ∧ xs ≠ [] ∧ 1 ≤ k ∧ k ≤ 1000 ∧ xs.length ≤ 1000 ∧ (k = 1 → Q (.ref l) H) ∧ ∀ p, H p = none → Q (.ref p) (upd H p (.tup (List.replicate k.toNat xs).flatten))) := by
  intro pins s σ H x y v u Q I rx ry h
  obtain ⟨l, k, xs, rfl, rfl, hT, hne, h1, h2, hz, q1, q2⟩ := h
  by_cases e : k = 1
  · subst e
    cases rx
    obtain ⟨t, rfl⟩ := ry
    obtain ⟨its, r, ⟨⟨cls, dd, data, sl⟩, ho, hc, n, hd⟩, hs⟩ := I.tuple hT
    simp only at hc hd
    subst hc hd
    exact wpAny_binaryOp_repeat_ref (T := "tuple") (U := "int") (by decide) ⟨_, ho, rfl⟩ (fun s' => typeIs_int s' 1 t) noFill_tuple_mul F.fills_int_mul F.slot_int_rmul repeat_tuple F.slot_int_index.lookup
      (call_meets F.slot_int_rmul (typeIs_int s 1 t) F.entry_int_rmul (F.args_int_rmul_2 _ _) (int_rmul_tuple 1 t l its.toArray n dd sl)
        ⟨ho, rfl, ⟨_, ho, rfl⟩, call_meets F.slot_tuple_mul ⟨_, ho, rfl⟩ F.entry_tuple_mul (F.args_tuple_mul_2 _ _) (tuple_mul1 l its.toArray n dd sl t) ⟨ho, ⟨.ref l, H, I, rfl, q1 rfl⟩⟩⟩)
  · exact op_repT pins s σ H (.ref l) (.int k) v u Q I rx ry ⟨l, k, xs, rfl, rfl, hT, hne, by omega, h2, hz, q2⟩
end My
/-! ### enumerate(t), t a tuple -/
namespace My
open PySem PySem.Spec PyProof.Rows L2
set_option maxHeartbeats 4000000 in
theorem enum_new1 {v : Value} {ob : Obj} {G : Heap → Prop} (B : Begins v ob G) :
    Meets (Builtin.«enumerate.__new__» ⟨[.type "enumerate", v], []⟩) (fun _ R s => G s.heap ∧
      R (.ok (.ret (.ref (s.heap.push ob).objs.size))) { s with heap := (s.heap.push ob).push { cls := .type "enumerate", data := .fields #[.none, .bool false, .ref s.heap.objs.size, rawInt 0, .none, .none] } }) :=
  .of_wp fun prog w A R s h => by
    obtain ⟨hp, g, dr, tk, os⟩ := s
    obtain ⟨g1, h⟩ := h
    have hsub := sub_enumerate
    have begin : ∀ {A' : Around} {E : Value → Shared → Prop} {Q : Value → Shared → Prop}, Q (.ref hp.objs.size) ⟨hp.push ob, g, dr, tk, os⟩ → wpAny (model prog w) A' (pyIter v) Q E ⟨hp, g, dr, tk, os⟩ :=
      fun z => B.iter prog w _ _ ⟨hp, g, dr, tk, os⟩ _ g1 z
    wp_walk using begin
    refine wpAny_stack_any fun st => wpAny_pure ?_
    split
    · rename_i c _ _ _ _ _
      cases (c == Value.type "enumerate") <;> wp_walk using begin <;> exact ⟨_, rfl, h⟩
    · wp_walk using begin
      exact ⟨_, rfl, h⟩
theorem enum_call1 {prog : Program} {w : World} {A : Around} {E : Value → Shared → Prop} {s : Shared} {v : Value} {ob : Obj} {G : Heap → Prop} {Q : Value → Shared → Prop} (B : Begins v ob G) (g1 : G s.heap)
    (h : ∀ h1, IsEnum h1 (s.heap.objs.size + 1) s.heap.objs.size 0 .none → h1.get? s.heap.objs.size = some ob → (∀ b o, s.heap.get? b = some o → h1.get? b = some o) → Q (.ref (s.heap.objs.size + 1)) { s with heap := h1 }) :
    wpAny (model prog w) A (call (.type "enumerate") [v]) Q E s := by
  refine callType_new F.called_enumerate (by decide) (F.typeCall_enumerate_1 _) (F.newCall_enumerate_1 _) (fun obj => F.args_object_init_2 obj _) F.entry_enumerate_new (enum_new1 B) ⟨g1, ?_⟩
  have more : (s.heap.push ob).objs.size = s.heap.objs.size + 1 := Heap.size_push ..
  have stands : IsEnum ((s.heap.push ob).push { cls := .type "enumerate", data := .fields #[.none, .bool false, .ref s.heap.objs.size, rawInt 0, .none, .none] }) (s.heap.objs.size + 1) s.heap.objs.size 0 .none := by
    have z := Heap.get?_push_size (s.heap.push ob) (o := { cls := .type "enumerate", data := .fields #[.none, .bool false, .ref s.heap.objs.size, rawInt 0, .none, .none] }) rfl
    rw [more] at z
    exact z
  show _ ∧ _
  rw [more]
  exact ⟨⟨_, stands, rfl⟩, h _ stands (Heap.get?_push_of_some _ (Heap.get?_push_size _ B.free)) fun b o x => Heap.get?_push_of_some _ (Heap.get?_push_of_some _ x)⟩
/-- the tuple at a, each item in a new pair -/
def ItTe (K : PySem.W.Frag) (a : Addr) : It :=
  ⟨fun i H => ∃ (xs : List V) (x : V), SqT K H a xs ∧ xs[i]? = some x, fun i H v H' => ∃ T x, v = .ref T ∧ H T = none ∧ H' = upd H T (.tup [.int (i : Nat), x]) ∧ ∀ xs, SqT K H a xs → xs[i]? = some x, fun i H => ∃ xs : List V, SqT K H a xs ∧ xs.length ≤ i⟩
theorem turn_enumT {P : Program} {w : World} {K : PySem.W.Frag} {elts : List Expr} {kk : Nat} {tpos : Pos} (a e it : Addr) :
    Turn P w K (.Tuple elts kk tpos) (ItTe K a) [e, it] e (fun i h => (∃ old, IsEnum h e it ((i : Nat) : Int) old) ∧ h.IsTupleIter it a i ∧ e ≠ it ∧ a ≠ it ∧ e ≠ a) where
  mem := by simp
  obj := fun i h st b hb => by
    obtain ⟨⟨old, he⟩, ⟨o, ho, hc, hd⟩, _⟩ := st
    rcases (show b = e ∨ b = it by simpa using hb) with z | z <;> rw [z]
    · exact ⟨_, he, fun v q => nomatch q⟩
    · exact ⟨o, ho, fun v q => by rw [hd] at q; cases q⟩
  keep := fun i h h' st k => by
    obtain ⟨⟨old, he⟩, hi, n⟩ := st
    exact ⟨⟨old, k e (by simp) _ he⟩, hi.at fun o q => k it (by simp) o q, n⟩
  item := by
    intro X hP hw hK hc i pins s σ H E I hf st hg
    subst hP hw hK
    obtain ⟨⟨old, he⟩, hit, n1, n2, n3⟩ := st
    obtain ⟨xs, x, hq, hx⟩ := hg
    obtain ⟨its, rv, p, hz⟩ := I.tuple hq
    obtain ⟨u, hu, ru⟩ := rv.get hx
    have lt1 := Heap.lt_size he
    have lt2 : it < s.heap.objs.size := by
      obtain ⟨_, q, _⟩ := hit
      exact Heap.lt_size q
    have small : i < its.toArray.size := by
      have := (List.getElem?_eq_some_iff.mp hu).1
      simpa using this
    refine wpAny_pyNext_enum_itemD (Draws.tuple (A := X.A.in1) (I.ok.hd hc) it a n2 its.toArray) he ⟨hit, p⟩ small n1 (by simp [n1, n3]) fun y h' tk hy ho hst hT hsz hk => ?_
    have hy2 : y = u := by
      have z : its[i]? = some y := by simpa using hy
      rw [hu] at z
      exact (Option.some.inj z).symm
    subst hy2
    refine ⟨_, rfl, wpAny_letOwnedTupleGo_enum (s := { s with heap := h', toks := tk + 1 }) ho fun h'' he' sb => ?_⟩
    have hT2 : h''.get? s.heap.objs.size = some { cls := .type "tuple", data := .seq #[.int i tk, y] } := (sb.2 _ (Nat.ne_of_gt lt1)).trans hT
    have new : ObjOk X.prog X.w (upd H s.heap.objs.size (.tup [.int (i : Nat), x])) h'' s.heap.objs.size (.tup [.int (i : Nat), x]) :=
      ⟨(by show 2 ≤ sizeLine; decide), [.int i tk, y], .cons ⟨_, rfl⟩ (.cons ru .nil), ⟨_, hT2, rfl, _, rfl⟩⟩
    have J : Inv X pins σ (upd H s.heap.objs.size (.tup [.int (i : Nat), x])) { s with heap := h'', toks := tk + 1 } :=
      I.turnedNew (t' := tk + 1) (ch := [e, it]) (fun b ob hb q => (sb.2 b (fun z => hb (by simp [z]))).trans (hk b ob (fun z => hb (by simp [z])) (fun z => hb (by simp [z])) q)) hf (Nat.le_refl _) new
    refine ⟨.ref s.heap.objs.size, _, J, rfl, ⟨_, x, rfl, I.hok.fresh (Nat.le_refl _), rfl, fun ys hy => by rw [I.tuple_inj hy hq]; exact hx⟩, ⟨⟨y, ?_⟩, hst.1.at fun o q => (sb.2 it n1.symm).trans q, n1, n2, n3⟩, fun b hb => ?_⟩
    · rw [show ((i + 1 : Nat) : Int) = (i : Int) + 1 by omega]
      exact he'
    · have below : b < s.heap.objs.size := by
        rcases (show b = e ∨ b = it by simpa using hb) with z | z <;> rw [z]
        · exact lt1
        · exact lt2
      rw [upd_ne (Nat.ne_of_lt below)]
      exact (hf b hb).1
  done := by
    intro X hP hw hK hc i pins s σ H E I hf st hg
    subst hP hw hK
    obtain ⟨⟨old, he⟩, hit, n1, n2, n3⟩ := st
    obtain ⟨xs, hq, hx⟩ := hg
    obtain ⟨its, rv, p, hz⟩ := I.tuple hq
    obtain ⟨f0, f1, f2, f3, f4, f5⟩ := hf it (by simp)
    have ln := rv.length
    have D : Draws X.prog X.w X.A.in1 it [it, a] i (fun _ _ => True) (fun j h => j = i ∧ h.IsTupleIter it a j ∧ h.IsTuple a its.toArray) :=
      { live := fun _ _ st => (let ⟨o, ho, _⟩ := st.2.1; ⟨o, ho⟩)
        frame := fun _ _ _ st hk => ⟨st.1, st.2.1.at fun o e => hk it (by simp) o e, st.2.2.at fun o e => hk a (by simp) o e⟩
        item := fun j s Q E hj st _ => absurd st.1 (Nat.ne_of_lt hj)
        done := fun s Q E st hE => wpAny_nextOf_tuple_end (A := X.A.in1) (I.ok.hd hc) st.2.1 st.2.2 (by simp; omega) hE }
    exact wpAny_pyNext_enum_endD D he ⟨rfl, hit, p⟩ fun h' eb => ⟨rfl, I.turned (t' := s.toks) (fun b o hb q => eb b o hb q) f0 f1 f3 f4 f5⟩
  self := fun A i s Q E st h => by
    obtain ⟨⟨_, he⟩, _⟩ := st
    exact wpAny_pyIter_enum he h
def iEnumT (K : PySem.W.Frag) (ta : TA) : TI := fun σ H R => ta σ H fun vs H1 => ∃ a xs, vs = [.ref a] ∧ SqT K H1 a xs ∧ R (ItTe K a) H1
theorem pi_enumT {X : Cx} {e : Expr} {ta : TA} {p pos tpos : Pos} {elts : List Expr} {kk : Nat} (hg : Gl X "enumerate") (hm : X.mg "enumerate" = none) (ha : PA X [e] ta) (hs : starEach [e] X.env = [(false, eval e X.env)] := by rfl) :
    PI X (.Tuple elts kk tpos) (.Call (.Name "enumerate" p) [e] [] pos) (iEnumT X.K ta) := by
  refine ⟨fun pins s σ H R I h => ?_⟩
  refine Call_ (ld_blt I hg hm boot_enumerate (PyProof.Rows.callWith_type1 (thn (ha.run pos pins s σ H _ I h) fun us s1 z => ?_) hs rfl))
  obtain ⟨vs, H1, J, r1, a, xs, ex, hq, q⟩ := z
  subst ex
  cases r1 with
  | cons r rr =>
    cases rr
    cases r
    obtain ⟨its, rv, p', hz⟩ := J.tuple hq
    have below : a < s1.heap.objs.size := by
      obtain ⟨o, ho, _⟩ := p'
      exact Heap.lt_size ho
    refine enum_call1 (begins_tuple a its.toArray) p' fun h1 he ho hk => wpAny_pyIter_enum he ?_
    have J2 : Inv X pins σ H1 { s1 with heap := h1 } := J.kept (t' := s1.toks) hk
    refine ⟨s1.heap.objs.size + 1, [s1.heap.objs.size + 1, s1.heap.objs.size], _, _, H1, rfl, J2, turn_enumT a (s1.heap.objs.size + 1) s1.heap.objs.size, ⟨⟨.none, he⟩, ⟨_, ho, rfl, rfl⟩, Nat.succ_ne_self _, Nat.ne_of_lt below, fun z => ?_⟩, fun b hb => ?_, q⟩
    · exact absurd (show s1.heap.objs.size + 1 < s1.heap.objs.size by rw [z]; exact below) (by omega)
    · have above : s1.heap.objs.size ≤ b := by
        rcases (show b = s1.heap.objs.size + 1 ∨ b = s1.heap.objs.size by simpa using hb) with z | z <;> rw [z]
        · exact Nat.le_add_right _ _
        · exact Nat.le_refl _
      exact J.fpOk above (J.hok.fresh above)
theorem walk_enumT {K : PySem.W.Frag} {a : Addr} {xs : List V} : Walk (ItTe K a) xs.length (fun H => SqT K H a xs) (YPair (fun i => some (.int (i : Nat))) (fun i => xs[i]?)) := by
  refine ⟨fun i _ hi h => ⟨xs, xs[i], h, List.getElem?_eq_getElem hi⟩, fun _ h => ⟨xs, h, Nat.le_refl _⟩, fun i H v H' _ h y => ?_⟩
  obtain ⟨t, z, e1, e2, e3, e4⟩ := y
  exact ⟨t, .int (i : Nat), z, e1, e2, e3, rfl, e4 xs h⟩
end My
/-! ### rules for the looks at data -/
namespace My
open PySem PySem.Spec PyProof.Rows L2
/-! isinstance of data -/
theorem Rp.tyx {K : PySem.W.Frag} {H : Hp} {x : V} {d : PyData} (h : Rp K H x d) : TyX K H x (.type (kindOf d)) := by
  cases h with
  | non => exact .base .non
  | bl => exact .base (.bl _)
  | int => exact .base (.int _)
  | str => exact .base (.str _)
  | lst h1 _ =>
    rcases h1 with (z | ⟨o, z⟩) | ⟨o, its, n, z, c, _⟩
    · exact .base (.lst z)
    · exact .base (.frz z)
    · exact .kList z c
  | tup h1 _ =>
    rcases h1 with (z | ⟨o, z⟩) | ⟨o, its, n, z, c, _⟩
    · exact .base (.tup z)
    · exact .fTuple z
    · exact .kTuple z c
  | dct h1 => exact .base (.dK h1)
def isInt : PyData → Bool
  | .bool _ => true
  | .int _ => true
  | _ => false
theorem kit_int {K : PySem.W.Frag} (d : PyData) : PySem.W.kitOne K (.type (kindOf d)) (.type "int") = some (isInt d) := by
  cases d with
  | none => exact kit_ty (by decide +kernel : L2.kitB "NoneType" "int" = some false)
  | bool _ => exact kit_ty (by decide +kernel : L2.kitB "bool" "int" = some true)
  | int _ => exact kit_ty (by decide +kernel : L2.kitB "int" "int" = some true)
  | str _ => exact kit_ty (by decide +kernel : L2.kitB "str" "int" = some false)
  | list _ => exact kit_ty (by decide +kernel : L2.kitB "list" "int" = some false)
  | tuple _ => exact kit_ty (by decide +kernel : L2.kitB "tuple" "int" = some false)
  | dict _ => exact kit_ty (by decide +kernel : L2.kitB "dict" "int" = some false)
def isBool : PyData → Bool
  | .bool _ => true
  | _ => false
theorem kit_bool {K : PySem.W.Frag} (d : PyData) : PySem.W.kitOne K (.type (kindOf d)) (.type "bool") = some (isBool d) := by
  cases d with
  | none => exact kit_ty (by decide +kernel : L2.kitB "NoneType" "bool" = some false)
  | bool _ => exact kit_ty (by decide +kernel : L2.kitB "bool" "bool" = some true)
  | int _ => exact kit_ty (by decide +kernel : L2.kitB "int" "bool" = some false)
  | str _ => exact kit_ty (by decide +kernel : L2.kitB "str" "bool" = some false)
  | list _ => exact kit_ty (by decide +kernel : L2.kitB "list" "bool" = some false)
  | tuple _ => exact kit_ty (by decide +kernel : L2.kitB "tuple" "bool" = some false)
  | dict _ => exact kit_ty (by decide +kernel : L2.kitB "dict" "bool" = some false)
def isStr : PyData → Bool
  | .str _ => true
  | _ => false
theorem kit_str {K : PySem.W.Frag} (d : PyData) : PySem.W.kitOne K (.type (kindOf d)) (.type "str") = some (isStr d) := by
  cases d with
  | none => exact kit_ty (by decide +kernel : L2.kitB "NoneType" "str" = some false)
  | bool _ => exact kit_ty (by decide +kernel : L2.kitB "bool" "str" = some false)
  | int _ => exact kit_ty (by decide +kernel : L2.kitB "int" "str" = some false)
  | str _ => exact kit_ty (by decide +kernel : L2.kitB "str" "str" = some true)
  | list _ => exact kit_ty (by decide +kernel : L2.kitB "list" "str" = some false)
  | tuple _ => exact kit_ty (by decide +kernel : L2.kitB "tuple" "str" = some false)
  | dict _ => exact kit_ty (by decide +kernel : L2.kitB "dict" "str" = some false)
def isTup : PyData → Bool
  | .tuple _ => true
  | _ => false
theorem kit_tuple {K : PySem.W.Frag} (d : PyData) : PySem.W.kitOne K (.type (kindOf d)) (.type "tuple") = some (isTup d) := by
  cases d with
  | none => exact kit_ty (by decide +kernel : L2.kitB "NoneType" "tuple" = some false)
  | bool _ => exact kit_ty (by decide +kernel : L2.kitB "bool" "tuple" = some false)
  | int _ => exact kit_ty (by decide +kernel : L2.kitB "int" "tuple" = some false)
  | str _ => exact kit_ty (by decide +kernel : L2.kitB "str" "tuple" = some false)
  | list _ => exact kit_ty (by decide +kernel : L2.kitB "list" "tuple" = some false)
  | tuple _ => exact kit_ty (by decide +kernel : L2.kitB "tuple" "tuple" = some true)
  | dict _ => exact kit_ty (by decide +kernel : L2.kitB "dict" "tuple" = some false)
def isLst : PyData → Bool
  | .list _ => true
  | _ => false
theorem kit_list {K : PySem.W.Frag} (d : PyData) : PySem.W.kitOne K (.type (kindOf d)) (.type "list") = some (isLst d) := by
  cases d with
  | none => exact kit_ty (by decide +kernel : L2.kitB "NoneType" "list" = some false)
  | bool _ => exact kit_ty (by decide +kernel : L2.kitB "bool" "list" = some false)
  | int _ => exact kit_ty (by decide +kernel : L2.kitB "int" "list" = some false)
  | str _ => exact kit_ty (by decide +kernel : L2.kitB "str" "list" = some false)
  | list _ => exact kit_ty (by decide +kernel : L2.kitB "list" "list" = some true)
  | tuple _ => exact kit_ty (by decide +kernel : L2.kitB "tuple" "list" = some false)
  | dict _ => exact kit_ty (by decide +kernel : L2.kitB "dict" "list" = some false)
def isDct : PyData → Bool
  | .dict _ => true
  | _ => false
theorem kit_dict {K : PySem.W.Frag} (d : PyData) : PySem.W.kitOne K (.type (kindOf d)) (.type "dict") = some (isDct d) := by
  cases d with
  | none => exact kit_ty (by decide +kernel : L2.kitB "NoneType" "dict" = some false)
  | bool _ => exact kit_ty (by decide +kernel : L2.kitB "bool" "dict" = some false)
  | int _ => exact kit_ty (by decide +kernel : L2.kitB "int" "dict" = some false)
  | str _ => exact kit_ty (by decide +kernel : L2.kitB "str" "dict" = some false)
  | list _ => exact kit_ty (by decide +kernel : L2.kitB "list" "dict" = some false)
  | tuple _ => exact kit_ty (by decide +kernel : L2.kitB "tuple" "dict" = some false)
  | dict _ => exact kit_ty (by decide +kernel : L2.kitB "dict" "dict" = some true)
/-! x in t, t a tuple of data -/
theorem op_inTD {X : Cx} (hu : X.A.units + 65 < cLine) : OpR X (compareOp .In) (fun x y H Q => ∃ d ds, Dp X.K H x d ∧ Dp X.K H y (.tuple ds) ∧ SeqAt.shaped d = true ∧ SeqAt.shaped (.tuple ds) = true ∧ Q (.bl (ds.any fun z => PyData.eqv z d)) H) := by
  intro pins s σ H x y v u Q I rx ry h
  obtain ⟨d, ds, hd, he, sd, se, q⟩ := h
  obtain ⟨as, r1⟩ := Dp.reads I d x v hd rx
  obtain ⟨bs, r2⟩ := Dp.reads I (.tuple ds) y u he ry
  exact SeqAt.in_tuple_reads r2 r1 (SeqAt.canLay_of_shaped se) (SeqAt.canLay_of_shaped sd) (room_in_shaped sd hu) ⟨.bl _, H, I, rfl, q⟩
/-! len(set(xs)), xs a list of ints -/
def kinds (ns : List Int) : Nat → List Int := PyProof.Rows.firstMet fun i => ns.getD i 0
def tLenSetN (K : PySem.W.Frag) (ta : TE) : TE := fun σ H Q => ta σ H fun x H1 => ∃ (l : Addr) (ns : List Int), x = .ref l ∧ SqL K H1 l (ns.map V.int) ∧ ns.length ≤ 4000 ∧ Q (.int ((kinds ns ns.length).length : Nat)) H1
theorem pe_lenSetN {X : Cx} {a : Expr} {ta : TE} {p p2 q pos : Pos} (hg : Gl X "len") (hm : X.mg "len" = none) (hg2 : Gl X "set") (hm2 : X.mg "set" = none) (ha : PE X a ta) (hc : X.calm = true := by rfl)
    (na : starEach [a] X.env = (false, eval a X.env) :: starEach [] X.env := by rfl) : PE X (.Call (.Name "len" p) [.Call (.Name "set" p2) [a] [] q] [] pos) (tLenSetN X.K ta) := by
  refine ⟨fun pins s σ H Q I h => ?_⟩
  refine Call_ (ld_blt I hg hm boot_len (PyProof.Rows.callWith_builtin1 (PyProof.Rows.args_cons ?_ rfl) rfl rfl))
  refine Call_ (ld_blt I hg2 hm2 boot_set (PyProof.Rows.callWith_type1 (PyProof.Rows.args_cons (thn (ha.run pins s σ H _ I h) fun v s1 z => PyProof.Rows.args_nil ?_) na) na rfl))
  obtain ⟨x, H1, J, r1, l, ns, rfl, hq, hl, q1⟩ := z
  cases r1
  obtain ⟨its, r, pl, hz⟩ := J.list hq
  have same : its.toArray.size = ns.length := by rw [List.size_toArray, ← r.length, List.length_map]
  refine call_set_list (J.ok.hd hc) pl.isList (by simpa using RZ.intsAre_vals r) (by rw [same]; unfold scanBound; omega) fun h' tk hS hk => PyProof.Rows.args_nil ?_
  rw [same] at hS
  obtain ⟨o, es, ep, t, ho, hex, hd, _, _, _, hf, hn⟩ := hS
  have J2 : Inv X pins σ H1 { s1 with heap := h', toks := tk } := J.kept fun b o e => hk b o (Heap.lt_size e) e
  have few : (kinds ns ns.length).length ≤ ns.length := PyProof.Rows.firstMet_length_le (fun i => ns.getD i 0) ns.length
  have hn2 : es.size = (kinds ns ns.length).length := hn
  refine call_len_set ho hex hd hf (by omega) ⟨.int (kinds ns ns.length).length, H1, J2.tok _, ⟨_, by rw [hn2]⟩, q1⟩
/-- as many as there are: none is twice -/
theorem kinds_at {ns : List Int} : ∀ i, i ≤ ns.length → ((kinds ns i).length = i ↔ (ns.take i).Nodup)
  | 0, _ => by simp [kinds, PyProof.Rows.firstMet_zero]
  | i + 1, hi => by
    have ih := @kinds_at ns i (by omega)
    have le : (kinds ns i).length ≤ i := PyProof.Rows.firstMet_length_le (fun i => ns.getD i 0) i
    have hx : ns.getD i 0 = ns[i] := by
      rw [List.getD_eq_getElem?_getD, List.getElem?_eq_getElem (show i < ns.length by omega)]
      rfl
    have pre : (List.range i).map (fun i => ns.getD i 0) = ns.take i := by
      refine List.ext_getElem (by simp; omega) fun j h1 h2 => ?_
      have hj : j < ns.length := by
        rw [List.length_map, List.length_range] at h1
        omega
      rw [List.getElem_map, List.getElem_range, List.getElem_take, List.getD_eq_getElem?_getD, List.getElem?_eq_getElem hj]
      rfl
    have any : (kinds ns i).any (· == ns[i]) = (ns.take i).any (· == ns[i]) := by
      have := PyProof.Rows.firstMet_any (fun i => ns.getD i 0) i ns[i]
      rw [pre] at this
      exact this
    have len : (kinds ns (i + 1)).length = if (kinds ns i).any (· == ns[i]) = true then (kinds ns i).length else (kinds ns i).length + 1 := by
      have e : kinds ns (i + 1) = PyProof.Rows.step_dedup (kinds ns i) (ns.getD i 0) := PyProof.Rows.firstMet_succ (fun i => ns.getD i 0) i
      rw [e, PyProof.Rows.step_length, hx]
    rw [len, any, List.take_succ, List.getElem?_eq_getElem (show i < ns.length by omega)]
    have mem : (ns.take i).any (· == ns[i]) = true ↔ ns[i] ∈ ns.take i := by
      rw [List.any_eq_true]
      constructor
      · rintro ⟨x, hx, e⟩
        rw [beq_iff_eq] at e
        rw [← e]
        exact hx
      · exact fun h => ⟨_, h, beq_self_eq_true _⟩
    have nd : (ns.take i ++ [ns[i]]).Nodup ↔ (ns.take i).Nodup ∧ ¬ ns[i] ∈ ns.take i := by
      rw [List.nodup_append]
      constructor
      · rintro ⟨h1, _, h3⟩
        exact ⟨h1, fun h => h3 _ h _ (List.mem_singleton.mpr rfl) rfl⟩
      · rintro ⟨h1, h2⟩
        refine ⟨h1, by simp, fun a ha b hb e => h2 ?_⟩
        rw [List.mem_singleton.mp hb] at e
        rw [← e]
        exact ha
    show _ ↔ (ns.take i ++ [ns[i]]).Nodup
    rw [nd]
    by_cases h : (ns.take i).any (· == ns[i]) = true
    · rw [if_pos h]
      exact ⟨fun e => by omega, fun e => absurd (mem.mp h) e.2⟩
    · rw [if_neg h]
      have h2 : ¬ ns[i] ∈ ns.take i := fun m => h (mem.mpr m)
      exact ⟨fun e => ⟨ih.mp (by omega), h2⟩, fun e => by rw [ih.mpr e.1]⟩
theorem kinds_all {ns : List Int} : (kinds ns ns.length).length = ns.length ↔ ns.Nodup := by
  have h := kinds_at (ns := ns) ns.length (Nat.le_refl _)
  rw [List.take_length] at h
  exact h
/-! one sign found in the alphabet -/
theorem find_abc (c : Nat) : Txt.find abc ⟨#[c]⟩ = if 97 ≤ c ∧ c ≤ 122 then ((c - 97 : Nat) : Int) else -1 := by
  have there : ∀ n : Nat, n < 26 → Txt.find abc ⟨#[97 + n]⟩ = (n : Int) := by decide +kernel
  by_cases h : 97 ≤ c ∧ c ≤ 122
  · rw [if_pos h]
    have := there (c - 97) (by omega)
    rw [show 97 + (c - 97) = c by omega] at this
    exact this
  · rw [if_neg h]
    have ll : ∀ x ∈ abc.cps.toList, 97 ≤ x ∧ x ≤ 122 := by decide +kernel
    have e := PySem.StrLaws.found_one abc c
    rw [decide_eq_false (fun m => h (ll c m))] at e
    unfold Txt.find
    cases q : Builtin.Str.occurrences abc ⟨#[c]⟩ 0 abc.length 1 with
    | nil => rfl
    | cons a b =>
      rw [q] at e
      cases e
end My
/-! ### t[::-1], t a tuple -/
namespace My
open PySem PySem.Spec PyProof.Rows L2
theorem back_places (n : Nat) : Builtin.Slice.slicePlaces (Builtin.Slice.sliceAdjust none none (-1) (n : Int)).1 (Builtin.Slice.sliceAdjust none none (-1) (n : Int)).2 (-1) = n := by
  unfold Builtin.Slice.sliceAdjust Builtin.Slice.slicePlaces
  simp
  split <;> omega
theorem back_first (n : Nat) : (Builtin.Slice.sliceAdjust none none (-1) (n : Int)).1 = (n : Int) - 1 := by
  unfold Builtin.Slice.sliceAdjust
  simp
theorem run_take {α : Type} (l : List α) : ∀ n, n ≤ l.length → (List.range n).filterMap (fun k => l[k]?) = l.take n
  | 0, _ => by simp
  | n + 1, h => by
    rw [List.range_succ, List.filterMap_append, run_take l n (by omega), List.take_succ, List.getElem?_eq_getElem (by omega)]
    simp [List.getElem?_eq_getElem (show n < l.length by omega)]
theorem fm_congr {α β : Type} {f g : α → Option β} : ∀ {l : List α}, (∀ x ∈ l, f x = g x) → l.filterMap f = l.filterMap g
  | [], _ => rfl
  | x :: l, h => by
    have ih := @fm_congr α β f g l fun y hy => h y (.tail _ hy)
    rw [List.filterMap_cons, List.filterMap_cons, ih, h x (.head _)]
theorem back_pick (xs : Array Value) : ((List.range xs.size).filterMap fun (k : Nat) => xs[(((xs.size : Int) - 1) + (k : Int) * (-1)).toNat]?).toArray = xs.toList.reverse.toArray := by
  have e : (List.range xs.size).filterMap (fun (k : Nat) => xs[(((xs.size : Int) - 1) + (k : Int) * (-1)).toNat]?) = (List.range xs.size).filterMap fun k => xs.toList.reverse[k]? := by
    refine fm_congr fun k hk => ?_
    have hk2 := List.mem_range.mp hk
    rw [List.getElem?_reverse (by simpa using hk2), Array.getElem?_toList, Array.length_toList, show (((xs.size : Int) - 1) + (k : Int) * (-1)).toNat = xs.size - 1 - k by omega]
  rw [e, run_take _ _ (by simp), List.take_of_length_le (by simp)]
section
variable {prog : Program} {w : World} {A : Around} {E : Value → Shared → Prop} {s : Shared}
theorem back_applied {sl : Addr} {t : Tok} {n : Nat} {Q : Int × Int × Nat → Shared → Prop} (hs : s.heap.IsSliceOf sl .none .none (.int (-1) t)) (h : Q ((n : Int) - 1, -1, n) s) : wpAny (model prog w) A (Builtin.Slice.sliceApplied (.ref sl) (pure (n : Int))) Q E s := by
  obtain ⟨os, hos, hcs, hds⟩ := id hs
  unfold Builtin.Slice.sliceApplied Builtin.Slice.sliceFields
  refine wpAny_bind (wpAny_bind (wpAny_field hos hds (x := .none) rfl (wpAny_bind (wpAny_field hos hds (x := .none) rfl (wpAny_bind (wpAny_field hos hds (x := .int (-1) t) rfl (wpAny_pure ?_)))))))
  refine wpAny_bind (HT.slicePart_ (.int _ _) ?_)
  show wpAny _ _ (if ((-1 : Int) == 0) = true then _ else _) _ _ s
  rw [if_neg (by decide)]
  refine wpAny_bind (HT.slicePart_ .none (wpAny_bind (HT.slicePart_ .none (wpAny_bind (wpAny_pure ?_)))))
  have a := back_first n
  have b := back_places n
  show wpAny _ _ (pure ((Builtin.Slice.sliceAdjust none none (-1) (n : Int)).1, (-1 : Int), Builtin.Slice.slicePlaces (Builtin.Slice.sliceAdjust none none (-1) (n : Int)).1 (Builtin.Slice.sliceAdjust none none (-1) (n : Int)).2 (-1))) _ _ s
  rw [b, a]
  exact wpAny_pure h
theorem back_item {t sl : Addr} {items : Array Value} {tk : Tok} {Q : Value → Shared → Prop} (ht : IsTup s.heap t items) (hs : s.heap.IsSliceOf sl .none .none (.int (-1) tk))
    (h : Q (.ref s.heap.objs.size) { s with heap := s.heap.push { cls := .type "tuple", data := .seq items.toList.reverse.toArray } }) (hsz : items.size ≤ sizeLine) : wpAny (model prog w) A (getItem (.ref t) (.ref sl)) Q E s := by
  have fits : sizeOk (.seq items.toList.reverse.toArray) := by
    show items.toList.reverse.toArray.size ≤ sizeLine
    rw [List.size_toArray, List.length_reverse, Array.length_toList]
    exact hsz
  obtain ⟨os, hos, hcs, hds⟩ := id hs
  have kind : s.TypeIs (.ref sl) "slice" := ⟨os, hos, hcs⟩
  unfold getItem
  try with_reducible refine wpAny_holding ?_
  first | refine wpAny_bind (wpAny_pure ?_) | skip
  refine wpAny_bind (wpAny_sequenceKey ht.typeIs (by decide) ?_)
  refine wpAny_bind (wpAny_callSpecial?_slot (name := Str.ofString "__getitem__") ht.typeIs PyProof.Rows.slot_tuple_getitem (wpAny_call_entry PyProof.Rows.slot_tuple_getitem ht.typeIs entry_tuple_getitem ?_ (args_tuple_getitem _ _)))
  show wpAny _ _ (Builtin.Tuple.tupleItemsOf (.ref t) >>= _) _ _ s
  refine wpAny_bind (tupleItemsOf_ ht (wpAny_bind (wpAny_typeOf kind ?_)))
  rw [if_pos (by decide)]
  refine wpAny_bind (back_applied hs ?_)
  have no : ¬ ((((items.size : Int) - 1) == 0 && (-1 : Int) == 1 && items.size == items.size) = true) := by
    intro q
    rw [Bool.and_eq_true, Bool.and_eq_true] at q
    exact absurd q.1.2 (by decide)
  show wpAny _ _ (if (((items.size : Int) - 1) == 0 && (-1 : Int) == 1 && items.size == items.size) = true then _ else _) _ _ s
  rw [if_neg no, back_pick]
  first
    | exact wpAny_bind (m := Builtin.Tuple.tupleExact _) (wpAny_newObj_type (wpAny_pure ⟨_, rfl, wpAny_pure h⟩) fits)
    | exact wpAny_bind (m := Builtin.Tuple.tupleExact _) (wpAny_newObj_type (wpAny_bind (wpAny_pure (wpAny_pure ⟨_, rfl, wpAny_pure h⟩))) fits)
    | exact wpAny_bind (wpAny_bind (m := Builtin.Tuple.tupleExact _) (wpAny_newObj_type (wpAny_pure (wpAny_pure ⟨_, rfl, wpAny_pure h⟩)) fits))
    | exact wpAny_bind (wpAny_bind (m := Builtin.Tuple.tupleExact _) (wpAny_newObj_type (wpAny_pure ⟨_, rfl, wpAny_pure h⟩) fits))
end
def tRevT (K : PySem.W.Frag) (te : TE) : TE := fun σ H Q => te σ H fun x H1 => ∃ a xs, x = .ref a ∧ SqT K H1 a xs ∧ ∀ p, H1 p = none → Q (.ref p) (upd H1 p (.tup xs.reverse))
theorem pe_revT {X : Cx} {e : Expr} {te : TE} {k : Nat} {p1 p2 p3 pos : Pos} (he : PE X e te) : PE X (.Subscript e (.Slice none none (some (.UnaryOp .USub (.Constant (.int 1) k p1) p2)) p3) pos) (tRevT X.K te) := by
  refine ⟨fun pins s σ H Q I h => ?_⟩
  refine Subscript_ (thn (he.run pins s σ H _ I h) fun v s1 z => ?_)
  obtain ⟨x, H1, I1, r1, a, xs, ex, hx, q⟩ := z
  subst ex
  cases r1
  have step : PO X (some (.UnaryOp .USub (.Constant (.int 1) k p1) p2)) (tPart (tUn (rU fun i => .int (-i)) (tC (.int 1)))) := po_some (pe_un un_neg pe_int)
  refine wpAny_Slice (thn (po_none.run pins s1 σ H1 (fun o H2 => o = none ∧ H2 = H1) I1 ⟨rfl, rfl⟩) fun vl s2 z2 => ?_)
  obtain ⟨l, H2, I2, pl, el, e2⟩ := z2
  subst el e2
  refine thn (po_none.run pins s2 σ H2 (fun o H3 => o = none ∧ H3 = H2) I2 ⟨rfl, rfl⟩) fun vu s3 z3 => ?_
  obtain ⟨u, H3, I3, pu, eu, e3⟩ := z3
  subst eu e3
  refine thn (step.run pins s3 σ H3 (fun o H4 => o = some (-1) ∧ H4 = H3) I3 ⟨1, rfl, -1, rfl, rfl, rfl⟩) fun vs s4 z4 => ?_
  obtain ⟨o, H4, I4, ps, eo, e4⟩ := z4
  subst eo e4
  cases pl
  cases pu
  cases ps with
  | int i t =>
    have J : Inv X pins σ H4 { s4 with heap := s4.heap.push { cls := .type "slice", data := .fields #[.none, .none, .int (-1) t] } } := I4.kept (t' := s4.toks) fun b ob q => Heap.get?_push_of_some _ q
    obtain ⟨its, r, ht, hz⟩ := J.tuple hx
    have ln := r.length
    show wpAny (model X.prog X.w) X.A (subscriptTail e (.Slice none none (some (.UnaryOp .USub (.Constant (.int 1) k p1) p2)) p3) (.ref a) (.ref s4.heap.objs.size)) (EP X pins σ Q) X.xe { s4 with heap := s4.heap.push { cls := .type "slice", data := .fields #[.none, .none, .int (-1) t] } }
    refine tail_any (ops := [.ref a, .ref s4.heap.objs.size]) ht.typeIs PyProof.Rows.slot_tuple_getitem.lookup ?_ (by with_unfolding_all rfl)
    refine back_item ht (Heap.IsSliceOf.new _ .none .none (.int (-1) t)) ?_ (by rw [List.size_toArray]; omega)
    refine ⟨.ref _, _, J.laid (t' := s4.toks) (o := .tup xs.reverse) (fun b ob q => Heap.get?_push_of_some _ q) (Nat.le_refl _) ?_, rfl, q _ (J.hok.fresh (Nat.le_refl _))⟩
    exact ⟨by rw [List.length_reverse]; exact hz, _, r.reverse, IsTup.new _ _⟩
end My
/-! ### repr of data, {} among it -/
namespace My
open PySem PySem.Spec PyProof.Rows L2
mutual
/-- no list at any depth -/
def noList : PyData → Bool
  | .list _ => false
  | .tuple xs => noLists xs
  | _ => true
def noLists : List PyData → Bool
  | [] => true
  | x :: xs => noList x && noLists xs
end
section
variable {X : Cx} {pins : List (Addr × Obj)} {σ : L2.St} {H : Hp} {s : Shared}
mutual
theorem Rp.reads (I : Inv X pins σ H s) : ∀ (d : PyData) (v : V) (u : Value), Rp X.K H v d → RelV v u → ∃ as, Reads s.heap u d as ∧ (noList d = true → sysModules ∉ as)
  | .none, _, _, h, r => by
    cases h
    cases r
    exact ⟨_, Reads.none, fun _ z => nomatch z⟩
  | .bool b, _, _, h, r => by
    cases h
    cases r
    exact ⟨_, Reads.bool b, fun _ z => nomatch z⟩
  | .int i, _, _, h, r => by
    cases h
    obtain ⟨t, rfl⟩ := r
    exact ⟨_, Reads.int i t, fun _ z => nomatch z⟩
  | .str x, _, _, h, r => by
    cases h
    obtain ⟨t, rfl⟩ := r
    exact ⟨_, Reads.str x t, fun _ z => nomatch z⟩
  | .list ds, _, _, h, r => by
    cases h with
    | lst hs ha =>
      cases r
      obtain ⟨its, rv, ⟨o, n, ho, hc, _, hd⟩, _⟩ := I.list hs
      obtain ⟨as, hr, _⟩ := RpAll.reads I ds _ its ha rv
      exact ⟨_, Reads.list ho hc hd hr, fun z => by simp [noList] at z⟩
  | .tuple ds, _, _, h, r => by
    cases h with
    | tup hs ha =>
      cases r
      obtain ⟨its, rv, ⟨o, ho, hc, n, hd⟩, _⟩ := I.tuple hs
      obtain ⟨as, hr, no⟩ := RpAll.reads I ds _ its ha rv
      exact ⟨_, Reads.tuple ho hc hd hr, fun z => no (by simpa [noList] using z)⟩
  | .dict kvs, _, _, h, r => by
    cases h with
    | @dct a ha =>
      cases r
      obtain ⟨_, ns, vs, kv, o, es, ep, ho, ex, hd, _, hp, _⟩ := I.hok a _ ha
      cases kv
      have he : es.toList = [] := by
        cases q : es.toList with
        | nil => rfl
        | cons e l =>
          rw [q] at hp
          cases hp
      refine ⟨a :: [] ++ [], Reads.dict ho ex.1 hd (by rw [he]; exact ReadsAll.nil) (by rw [he]; exact ReadsAll.nil), fun _ z => ?_⟩
      simp at z
      rw [z] at ns
      simp at ns
theorem RpAll.reads (I : Inv X pins σ H s) : ∀ (ds : List PyData) (vs : List V) (us : List Value), RpAll X.K H vs ds → Vals vs us → ∃ as, ReadsAll s.heap us ds as ∧ (noLists ds = true → sysModules ∉ as)
  | [], _, _, h, r => by
    cases h
    cases r
    exact ⟨_, ReadsAll.nil, fun _ z => nomatch z⟩
  | d :: ds, _, _, h, r => by
    cases h with
    | cons h1 h2 =>
      cases r with
      | cons r1 r2 =>
        obtain ⟨as, q1, n1⟩ := Rp.reads I d _ _ h1 r1
        obtain ⟨bs, q2, n2⟩ := RpAll.reads I ds _ _ h2 r2
        refine ⟨_, ReadsAll.cons q1 q2, fun z hm => ?_⟩
        rw [noLists, Bool.and_eq_true] at z
        exact (List.mem_append.mp hm).elim (n1 z.1) (n2 z.2)
end
end
def rReprR (K : PySem.W.Frag) : List V → Hp → VK → Prop := fun xs H Q => ∃ x d, xs = [x] ∧ Rp K H x d ∧ (noList d = true ∨ d.hasDict = false) ∧ d.showable = true ∧ d.depth ≤ 60 ∧ d.shown.length ≤ sizeLine ∧ Q (.str d.shown) H
theorem call_reprR {X : Cx} (hgd : X.A.guards = some []) (hu : X.A.units + 64 < cLine) : CallR X (.builtin "repr") (rReprR X.K) := by
  intro pins s σ H xs us Q I r h
  obtain ⟨x, d, rfl, hd, hn, hs, hdep, hz, q⟩ := h
  cases r with
  | @cons _ u _ _ ru rn =>
    cases rn
    obtain ⟨as, hr, no⟩ := Rp.reads I d x u hd ru
    have off : d.hasDict = true → sysModules ∉ as := fun e => by
      rcases hn with h | h
      · exact no h
      · rw [h] at e
        cases e
    cases hd with
    | non =>
      obtain rfl : u = Value.none := ru
      exact PySem.P.repr_of_none ⟨.str _, H, I.tok _, ⟨_, rfl⟩, by simpa only [PyData.shown] using q⟩
    | bl b =>
      obtain rfl : u = Value.bool b := ru
      exact PySem.P.repr_of_bool ⟨.str _, H, I.tok _, ⟨_, rfl⟩, by simpa only [PyData.shown] using q⟩
    | int i =>
      obtain ⟨t, rfl⟩ := ru
      exact PySem.P.repr_of_int (by simpa [PyData.showable] using hs) ⟨.str _, H, I.tok _, ⟨_, rfl⟩, by simpa only [PyData.shown] using q⟩
    | str z _ =>
      obtain ⟨t, rfl⟩ := ru
      exact PySem.P.repr_of_str ⟨.str _, H, I.tok _, ⟨_, rfl⟩, by simpa only [PyData.shown] using q⟩ (by simpa only [PyData.shown] using hz)
    | @lst a _ ds h1 h2 =>
      obtain rfl : u = Value.ref a := ru
      exact PySem.repr_of_reads' hr hs off hgd (by omega) (fun _ _ e => e) (fun h' u tk hk => ⟨.str _, H, I.kept hk, ⟨_, rfl⟩, q⟩) hz
    | @tup a _ ds h1 h2 =>
      obtain rfl : u = Value.ref a := ru
      exact PySem.repr_of_reads' hr hs off hgd (by omega) (fun _ _ e => e) (fun h' u tk hk => ⟨.str _, H, I.kept hk, ⟨_, rfl⟩, q⟩) hz
    | @dct a h1 =>
      obtain rfl : u = Value.ref a := ru
      exact PySem.repr_of_reads' hr hs off hgd (by omega) (fun _ _ e => e) (fun h' u tk hk => ⟨.str _, H, I.kept hk, ⟨_, rfl⟩, q⟩) hz
/-- data of at most that depth and weight, ints of at most 10 ** 39 -/
structure Sd (D W : Nat) (d : PyData) : Prop where
  sh : d.showable = true
  dp : d.depth ≤ D
  lv : d.leavesShort 40 = true
  wt : d.weight ≤ W
theorem Sd.mono {D W D' W' : Nat} {d : PyData} (h : Sd D W d) (a : D ≤ D') (b : W ≤ W') : Sd D' W' d := ⟨h.sh, Nat.le_trans h.dp a, h.lv, Nat.le_trans h.wt b⟩
theorem sd_non : Sd 0 0 .none := ⟨rfl, Nat.le_refl _, rfl, by simp [PyData.weight]⟩
theorem sd_bl (b : Bool) : Sd 0 0 (.bool b) := ⟨rfl, Nat.le_refl _, rfl, by simp [PyData.weight]⟩
theorem sd_dct : Sd 1 0 (.dict []) := ⟨rfl, by simp [PyData.depth, PyData.depthKv], rfl, by simp [PyData.weight, PyData.weightKv]⟩
theorem log_le {n k : Nat} (h : n < 2 ^ k) (hk : 0 < k) : n.log2 + 1 ≤ k := by
  by_cases z : n = 0
  · subst z
    simp
    omega
  · exact (Nat.log2_lt z).mpr h
theorem sd_int {i : Int} (h : i.natAbs < 10 ^ 39) : Sd 0 130 (.int i) := by
  have l : i.natAbs.log2 + 1 ≤ 130 := log_le (Nat.lt_of_lt_of_le h (by decide)) (by decide)
  refine ⟨?_, Nat.le_refl _, ?_, ?_⟩
  · rw [PyData.showable]
    exact decide_eq_true (by omega)
  · rw [PyData.leavesShort]
    refine decide_eq_true ?_
    have e := int_text_length_le10 (k := 39) (by decide) h
    show (Str.ofString (toString i)).length ≤ 40
    rw [PySem.ofString_length]
    exact e
  · rw [PyData.weight]
    split
    · omega
    · exact l
theorem sd_str {z : Str} {n : Nat} (h : ∀ c ∈ z.cps.toList, c ≤ 1000) (l : z.length ≤ n) : Sd 0 n (.str z) := by
  refine ⟨rfl, Nat.le_refl _, ?_, ?_⟩
  · rw [PyData.leavesShort, List.all_eq_true]
    exact fun c hc => decide_eq_true (Nat.lt_of_le_of_lt (h c hc) (by decide))
  · rw [PyData.weight]
    exact l
theorem sd_all {D W : Nat} : ∀ {ds : List PyData}, (∀ d ∈ ds, Sd D W d) → PyData.showableAll ds = true ∧ PyData.depthAll ds ≤ D ∧ PyData.leavesShortAll 40 ds = true ∧ PyData.weightAll ds ≤ ds.length * (W + 1)
  | [], _ => by simp [PyData.showableAll, PyData.depthAll, PyData.leavesShortAll, PyData.weightAll]
  | d :: ds, h => by
    obtain ⟨a1, a2, a4, a5⟩ := h d (.head _)
    obtain ⟨b1, b2, b4, b5⟩ := @sd_all D W ds fun e he => h e (.tail _ he)
    refine ⟨?_, ?_, ?_, ?_⟩
    · rw [PyData.showableAll, a1, b1]
      rfl
    · rw [PyData.depthAll]
      exact Nat.max_le.mpr ⟨a2, b2⟩
    · rw [PyData.leavesShortAll, a4, b4]
      rfl
    · rw [PyData.weightAll, List.length_cons, Nat.succ_mul]
      omega
theorem sd_tup {D W n : Nat} {ds : List PyData} (h : ∀ d ∈ ds, Sd D W d) (l : ds.length ≤ n) : Sd (D + 1) (n * (W + 1)) (.tuple ds) := by
  obtain ⟨b1, b2, b4, b5⟩ := sd_all h
  have m := Nat.mul_le_mul_right (W + 1) l
  exact ⟨by rw [PyData.showable]; exact b1, by rw [PyData.depth]; omega, by rw [PyData.leavesShort]; exact b4, by rw [PyData.weight]; omega⟩
theorem sd_lst {D W n : Nat} {ds : List PyData} (h : ∀ d ∈ ds, Sd D W d) (l : ds.length ≤ n) : Sd (D + 1) (n * (W + 1)) (.list ds) := by
  obtain ⟨b1, b2, b4, b5⟩ := sd_all h
  have m := Nat.mul_le_mul_right (W + 1) l
  exact ⟨by rw [PyData.showable]; exact b1, by rw [PyData.depth]; omega, by rw [PyData.leavesShort]; exact b4, by rw [PyData.weight]; omega⟩
theorem Sd.fits {D W : Nat} {d : PyData} (h : Sd D W d) (w : W ≤ 300000) : d.shown.length ≤ sizeLine := by
  have a := PyData.shown_le 40 (by decide) d h.lv
  have b : (40 + 2) * d.weight ≤ 42 * 300000 := Nat.mul_le_mul_left _ (Nat.le_trans h.wt w)
  rw [sizeLine_eq]
  omega
end My
/-! ### the law's own looks -/
namespace My
open PySem PySem.Spec PyProof.Rows L2
abbrev sXBetween : Stmt := topS 34
abbrev sXAre : Stmt := topS 36
abbrev sXHead : Stmt := topS 37
abbrev sXPair : Stmt := topS 38
abbrev sXChoice : Stmt := topS 39
abbrev sXMachine : Stmt := topS 40
abbrev sXIsRule : Stmt := topS 41
theorem scXBetween : FnScope ["value", "low", "high"] ["value", "low", "high"] (defScope sXBetween) := ⟨rfl, rfl, rfl, by decide +kernel, rfl, by decide +kernel, by decide +kernel⟩
theorem scXAre : FnScope ["value", "alphabet", "places", "letter"] ["value"] (defScope sXAre) := ⟨rfl, rfl, rfl, by decide +kernel, rfl, by decide +kernel, by decide +kernel⟩
theorem scXHead : FnScope ["value", "most"] ["value", "most"] (defScope sXHead) := ⟨rfl, rfl, rfl, by decide +kernel, rfl, by decide +kernel, by decide +kernel⟩
theorem scXPair : FnScope ["value", "many", "most"] ["value", "many", "most"] (defScope sXPair) := ⟨rfl, rfl, rfl, by decide +kernel, rfl, by decide +kernel, by decide +kernel⟩
theorem scXChoice : FnScope ["value", "many", "at", "pair"] ["value", "many"] (defScope sXChoice) := ⟨rfl, rfl, rfl, by decide +kernel, rfl, by decide +kernel, by decide +kernel⟩
theorem scXMachine : FnScope ["value", "plain", "many", "state", "one"] ["value", "plain"] (defScope sXMachine) := ⟨rfl, rfl, rfl, by decide +kernel, rfl, by decide +kernel, by decide +kernel⟩
theorem scXIsRule : FnScope ["value", "state", "kept", "one"] ["value"] (defScope sXIsRule) := ⟨rfl, rfl, rfl, by decide +kernel, rfl, by decide +kernel, by decide +kernel⟩
structure L34 (K : PySem.W.Frag) (mg : Str → Option Value) (x1 x2 x3 x4 x5 x6 x7 : Addr) (y1 y2 y3 y4 y5 y6 y7 : FuncData) : Prop where
  isi : mg "isinstance" = none
  int : mg "int" = none
  bool : mg "bool" = none
  str : mg "str" = none
  tuple : mg "tuple" = none
  len : mg "len" = none
  set : mg "set" = none
  sorted : mg "sorted" = none
  enumerate : mg "enumerate" = none
  FXBetween : Fun K "_law_x_between" "_law_x_between" sXBetween x1 y1
  bXBetween : Binds K y1 ["value", "low", "high"] []
  gXBetween : mg "_law_x_between" = some (.ref x1)
  FXAre : Fun K "_law_x_are_letters" "_law_x_are_letters" sXAre x2 y2
  bXAre : Binds K y2 ["value"] []
  gXAre : mg "_law_x_are_letters" = some (.ref x2)
  FXHead : Fun K "_law_x_is_head" "_law_x_is_head" sXHead x3 y3
  bXHead : Binds K y3 ["value", "most"] []
  gXHead : mg "_law_x_is_head" = some (.ref x3)
  FXPair : Fun K "_law_x_is_pair" "_law_x_is_pair" sXPair x4 y4
  bXPair : Binds K y4 ["value", "many", "most"] []
  gXPair : mg "_law_x_is_pair" = some (.ref x4)
  FXChoice : Fun K "_law_x_is_choice" "_law_x_is_choice" sXChoice x5 y5
  bXChoice : Binds K y5 ["value", "many"] []
  gXChoice : mg "_law_x_is_choice" = some (.ref x5)
  FXMachine : Fun K "_law_x_is_machine" "_law_x_is_machine" sXMachine x6 y6
  bXMachine : Binds K y6 ["value", "plain"] []
  gXMachine : mg "_law_x_is_machine" = some (.ref x6)
  FXIsRule : Fun K "_law_x_is_rule" "_law_x_is_rule" sXIsRule x7 y7
  bXIsRule : Binds K y7 ["value"] []
  gXIsRule : mg "_law_x_is_rule" = some (.ref x7)
/-- o.m(e) within a comprehension: K is given -/
theorem pe_bmK {X : Cx} {K : PySem.W.Frag} {o e : Expr} {es : List Expr} {to : TE} {t : TA} {name : Str} {apos cpos : Pos} {T id : String} {r : V → List V → Hp → VK → Prop} (ek : X.K = K) (pa : PlainAttrs T) (slot : Slot T name id) (hty : typeOf (.builtin id) = pure (.type "method_descriptor")) (hm : MtR X id r) (ho : PE X o to) (ha : PA X (e :: es) t) (h1 : attributeBase o name X.env (eval o X.env) = eval o X.env := by rfl)
    (h2 : ((backTo cpos (starEach (e :: es) X.env)).all (fun x => !x.1) && (backToKw cpos (keywordEach [] X.env)).all (fun x => x.1.isSome) && decide ((e :: es).length + ([] : List Keyword).length + (if ([] : List Keyword).isEmpty then 0 else 1) < 30)) = true := by rfl) (h3 : (apos.endLine == cpos.line) = true := by rfl)
    (h4 : starEach (e :: es) X.env = (false, eval e X.env) :: starEach es X.env := by rfl) (h5 : (backTo cpos (starEach es X.env)).any (·.1) = false := by rfl) : PE X (.Call (.Attribute o name apos) (e :: es) [] cpos) (tBM K T r to t) := by
  subst ek
  exact pe_bm pa slot hty hm ho ha h1 h2 h3 h4 h5
def headD (most : Int) : PyData → Bool
  | .tuple [b, l, s] => betD 2 9 b && (ltrD l && tupD 1 most s)
  | _ => false
theorem headD_not {most : Int} {d : PyData} (z : ¬ tupD 3 3 d = true) : headD most d = false := by
  unfold headD
  split
  · exact absurd (show tupD 3 3 _ = true from rfl) z
  · rfl
theorem Rp.tupOr {K : PySem.W.Frag} {H : Hp} {x : V} {d : PyData} (h : Rp K H x d) : (∃ a xs ds, x = .ref a ∧ d = .tuple ds ∧ SqT K H a xs ∧ RpAll K H xs ds) ∨ My.isTup d = false := by
  cases h with
  | tup h1 h2 => exact .inl ⟨_, _, _, rfl, rfl, h1, h2⟩
  | _ => exact .inr rfl
def spHead (K : PySem.W.Frag) : Sp := fun vs H Q _ => ∃ x d most, vs = [x, .int most] ∧ Rp K H x d ∧ ∀ H', Same H H' → Q (.bl (headD most d)) H'
def spXPair (K : PySem.W.Frag) : Sp := fun vs H Q _ => ∃ x d most many, vs = [x, .int many, .int most] ∧ Rp K H x d ∧ Q (.bl (pairD most many d)) H
/-! ### lists of ints compared -/
theorem eqv_ints : ∀ (a b : List Int), PyData.eqv (.list (a.map .int)) (.list (b.map .int)) = decide (a = b)
  | [], [] => by simp [PyData.eqv, PyData.eqvAll]
  | [], _ :: _ => by simp [PyData.eqv, PyData.eqvAll]
  | _ :: _, [] => by simp [PyData.eqv, PyData.eqvAll]
  | x :: a, y :: b => by
    have ih := eqv_ints a b
    simp only [PyData.eqv] at ih
    simp only [PyData.eqv, PyData.eqvAll, List.map_cons, ih]
    by_cases h : x = y
    · subst h
      simp
    · simp [h]
theorem lay_ints : ∀ a : List Int, PyData.canLayAll0 (a.map .int) = true ∧ PyData.depthAll (a.map .int) = 0
  | [] => by simp [PyData.canLayAll0, PyData.depthAll]
  | x :: a => by
    have ih := lay_ints a
    simp [PyData.canLayAll0, PyData.depthAll, PyData.canLay0, PyData.depth, ih]
theorem shaped_ints (a : List Int) : SeqAt.shaped (.list (a.map .int)) = true := by
  have h := lay_ints a
  simp [SeqAt.shaped, PyData.canLay0, PyData.depth, h]
theorem shaped_intsT (a : List Int) : SeqAt.shaped (.tuple (a.map .int)) = true := by
  have h := lay_ints a
  simp [SeqAt.shaped, PyData.canLay0, PyData.depth, h]
theorem dps_ints {K : PySem.W.Frag} {H : Hp} : ∀ a : List Int, DpAll K H (a.map V.int) (a.map .int)
  | [] => .nil
  | x :: a => .cons (.int x) (dps_ints a)
theorem inV_ints {s : Int} {sts : List Int} : inV (.int s) (sts.map V.int) = decide (s ∈ sts) := by
  unfold inV
  rw [List.any_map, Bool.eq_iff_iff, List.any_eq_true, decide_eq_true_eq]
  constructor
  · rintro ⟨x, hx, h⟩
    have h2 : (x == s) = true := h
    rw [beq_iff_eq] at h2
    rw [← h2]
    exact hx
  · exact fun h => ⟨s, h, show (s == s) = true from beq_self_eq_true s⟩
theorem flats_ints (sts : List Int) : (sts.map V.int).all flatV = true := by
  rw [List.all_map, List.all_eq_true]
  exact fun _ _ => rfl
/-- a sign's place in the alphabet -/
def pl (c : Nat) : Int := if 97 ≤ c ∧ c ≤ 122 then ((c - 97 : Nat) : Int) else -1
theorem pl_or (c : Nat) : (97 ≤ c ∧ c ≤ 122 ∧ pl c = (c : Int) - 97) ∨ ((c < 97 ∨ 122 < c) ∧ pl c = -1) := by
  unfold pl
  by_cases h : 97 ≤ c ∧ c ≤ 122
  · rw [if_pos h]
    exact .inl ⟨h.1, h.2, by omega⟩
  · rw [if_neg h]
    exact .inr ⟨by omega, rfl⟩
theorem letters_pl {l : List Nat} (h : 1 ≤ l.length ∧ l.length ≤ 3) : lettersL l = true ↔ (¬ (-1 : Int) ∈ l.map pl ∧ (l.map pl).Pairwise (· ≤ ·) ∧ (l.map pl).Nodup) := by
  match l, h with
  | [a], _ =>
    rcases pl_or a with ⟨a1, a2, ea⟩ | ⟨a1, ea⟩ <;> simp [lettersL, ea] <;> omega
  | [a, b], _ =>
    rcases pl_or a with ⟨a1, a2, ea⟩ | ⟨a1, ea⟩ <;> rcases pl_or b with ⟨b1, b2, eb⟩ | ⟨b1, eb⟩ <;> simp [lettersL, ea, eb] <;> omega
  | [a, b, c], _ =>
    rcases pl_or a with ⟨a1, a2, ea⟩ | ⟨a1, ea⟩ <;> rcases pl_or b with ⟨b1, b2, eb⟩ | ⟨b1, eb⟩ <;> rcases pl_or c with ⟨c1, c2, ec⟩ | ⟨c1, ec⟩ <;> simp [lettersL, ea, eb, ec] <;> omega
theorem sort_eq {a b : List Int} (p : b.Perm a) (s : b.Pairwise (· ≤ ·)) : a = b ↔ a.Pairwise (· ≤ ·) :=
  ⟨fun e => by rw [e]; exact s, fun h => p.symm.eq_of_pairwise (fun _ _ _ _ h1 h2 => Int.le_antisymm h1 h2) h s⟩
mutual
theorem Rp.dp {K : PySem.W.Frag} {H : Hp} : ∀ {v : V} {d : PyData}, Rp K H v d → d.hasDict = false → Dp K H v d
  | _, _, .non, _ => .non
  | _, _, .bl b, _ => .bl b
  | _, _, .int i, _ => .int i
  | _, _, .str x _, _ => .str x
  | _, _, .lst h t, n => .lst h (RpAll.dp t (by simpa only [PyData.hasDict] using n))
  | _, _, .tup h t, n => .tup h (RpAll.dp t (by simpa only [PyData.hasDict] using n))
  | _, _, .dct _, n => by simp [PyData.hasDict] at n
theorem RpAll.dp {K : PySem.W.Frag} {H : Hp} : ∀ {vs : List V} {ds : List PyData}, RpAll K H vs ds → PyData.hasDictAll ds = false → DpAll K H vs ds
  | _, _, .nil, _ => .nil
  | _, _, .cons h t, n => by
    rw [PyData.hasDictAll, Bool.or_eq_false_iff] at n
    exact .cons (Rp.dp h n.1) (RpAll.dp t n.2)
end
theorem RpAll.take {K : PySem.W.Frag} {H : Hp} : ∀ {vs : List V} {ds : List PyData} (i : Nat), RpAll K H vs ds → RpAll K H (vs.take i) (ds.take i)
  | _, _, 0, _ => by simpa using RpAll.nil
  | _, _, _ + 1, .nil => .nil
  | _, _, i + 1, .cons h t => .cons h (RpAll.take i t)
theorem pair_form {most many : Int} {d : PyData} (h : pairD most many d = true) : ∃ p t, d = .tuple [.int p, .int t] := by
  by_cases z : tupD 2 2 d = true
  · cases d with
    | tuple ds =>
      rw [tupD, Bool.and_eq_true, decide_eq_true_eq, decide_eq_true_eq] at z
      match ds, z, h with
      | [a, b], _, h =>
        rw [pairD, Bool.and_eq_true] at h
        obtain ⟨i, rfl⟩ := betD_int h.1
        obtain ⟨j, rfl⟩ := betD_int h.2
        exact ⟨i, j, rfl⟩
      | [], z, _ => exact absurd z.1 (by decide)
      | [_], z, _ => exact absurd z.1 (by simp)
      | _ :: _ :: _ :: _, z, _ => exact absurd z.2 (by simp; omega)
    | _ => simp [tupD] at z
  · rw [pairD_not z] at h
    cases h
theorem eqv_pair (p t i j : Int) : PyData.eqv (.tuple [.int p, .int t]) (.tuple [.int i, .int j]) = decide (keyD (.tuple [.int p, .int t]) = keyD (.tuple [.int i, .int j])) := by
  simp [PyData.eqv, PyData.eqvAll, keyD]
  by_cases h : p = i <;> by_cases h2 : t = j <;> simp [h, h2]
theorem lay_pairs {most many : Int} : ∀ l : List PyData, (∀ e ∈ l, pairD most many e = true) → PyData.canLayAll0 l = true ∧ PyData.depthAll l ≤ 1 ∧ PyData.hasDictAll l = false
  | [], _ => by simp [PyData.canLayAll0, PyData.depthAll, PyData.hasDictAll]
  | x :: a, h => by
    have ih := lay_pairs a fun e he => h e (.tail _ he)
    obtain ⟨p, t, rfl⟩ := pair_form (h x (.head _))
    simp [PyData.canLayAll0, PyData.depthAll, PyData.canLay0, PyData.depth, PyData.hasDictAll, PyData.hasDict, ih]
theorem any_pairs {most many : Int} {d : PyData} (hd : pairD most many d = true) : ∀ l : List PyData, (∀ e ∈ l, pairD most many e = true) → (l.any fun z => PyData.eqv z d) = decide (keyD d ∈ l.map keyD)
  | [], _ => by simp
  | x :: a, h => by
    have ih := any_pairs hd a fun e he => h e (.tail _ he)
    obtain ⟨p, t, rfl⟩ := pair_form (h x (.head _))
    obtain ⟨i, j, rfl⟩ := pair_form hd
    rw [List.any_cons, ih, eqv_pair]
    by_cases e : keyD (.tuple [.int p, .int t]) = keyD (.tuple [.int i, .int j])
    · simp [e]
    · have e2 : ¬ keyD (.tuple [.int i, .int j]) = keyD (.tuple [.int p, .int t]) := fun h => e h.symm
      simp [e, e2]
theorem cut_take (xs : List V) (i : Nat) (h : i ≤ xs.length) : cutV xs none (some (i : Int)) = xs.take i := by
  show (xs.drop _).take _ = _
  rw [HT.sIx_nat, show HT.sIx xs.length 0 none = 0 from rfl, List.drop_zero, Nat.min_eq_left h]
  rfl
def okD (plain : Bool) (many : Int) (e : PyData) : Bool := if plain = true then pairD ((10 : Int) ^ (30 : Int).toNat) many e else chD many e
def wayM (plain : Bool) (n : Nat) (many : Int) (st : PyData) : Bool := tupD (n : Int) (n : Int) st && (elems st).all (okD plain many)
def resD (plain : Bool) (d : PyData) : Bool := if plain = true then plnD d else mchD d
theorem flat_all {f : PyData → Bool} (ss : List PyData) : (ss.flatMap fun st => (elems st).map f).all id = ss.all fun st => (elems st).all f := by
  rw [List.all_flatMap]
  congr 1
  funext st
  rw [all_map]
theorem all_and {α : Type} (f g : α → Bool) : ∀ l : List α, (l.all f && l.all g) = l.all fun x => f x && g x
  | [] => rfl
  | x :: l => by
    rw [List.all_cons, List.all_cons, List.all_cons, ← all_and f g l]
    cases f x <;> cases g x <;> cases l.all f <;> cases l.all g <;> rfl
theorem res_tup (plain : Bool) (b l : PyData) (ss : List PyData) : resD plain (.tuple [b, l, .tuple ss]) = (headD (if plain = true then 300 else 4) (.tuple [b, l, .tuple ss]) && ss.all (wayM plain (lenD l) (ss.length : Int))) := by
  have e : ∀ (f : PyData → Bool) (most : Int), (frmD most (.tuple [b, l, .tuple ss]) && (ss.flatMap fun st => (elems st).map f).all id) = (headD most (.tuple [b, l, .tuple ss]) && ss.all fun st => tupD (lenD l : Int) (lenD l : Int) st && (elems st).all f) := fun f most => by
    rw [flat_all, ← all_and, frmD, headD, tabD]
    simp only [Bool.and_assoc]
  cases plain with
  | true => exact e _ 300
  | false => exact e _ 4
theorem res_not {plain : Bool} {d : PyData} (h : headD (if plain = true then 300 else 4) d = false) : resD plain d = false := by
  by_cases z : tupD 3 3 d = true
  · cases d with
    | tuple ds =>
      rw [tupD, Bool.and_eq_true, decide_eq_true_eq, decide_eq_true_eq] at z
      match ds, z, h with
      | [b, l, .tuple ss], _, h => rw [res_tup, h, Bool.false_and]
      | [_, _, .none], _, _ => cases plain <;> rfl
      | [_, _, .bool _], _, _ => cases plain <;> rfl
      | [_, _, .int _], _, _ => cases plain <;> rfl
      | [_, _, .str _], _, _ => cases plain <;> rfl
      | [_, _, .list _], _, _ => cases plain <;> rfl
      | [_, _, .dict _], _, _ => cases plain <;> rfl
      | [], z, _ => exact absurd z.1 (by decide)
      | [_], z, _ => exact absurd z.1 (by simp)
      | [_, _], z, _ => exact absurd z.1 (by simp)
      | _ :: _ :: _ :: _ :: _, z, _ => exact absurd z.2 (by simp; omega)
    | _ => simp [tupD] at z
  · cases plain with
    | true => exact plnD_not (by rw [frmD_not z]; decide)
    | false => exact mchD_not (by rw [frmD_not z]; decide)
theorem head_of {K : PySem.W.Frag} {H : Hp} {x : V} {d : PyData} {most : Int} (h : Rp K H x d) (z : headD most d = true) : ∃ a u v c b l ss xs, x = .ref a ∧ d = .tuple [b, l, .tuple ss] ∧ SqT K H a [u, v, .ref c] ∧ SqT K H c xs ∧ RpAll K H xs ss ∧ Rp K H v l ∧ ltrD l = true := by
  by_cases y : tupD 3 3 d = true
  · obtain ⟨a, xs, ds, rfl, rfl, hS, hA, l1, l2⟩ := tup_of h y
    obtain ⟨u, v, t, b, l, e, rfl, rfl, hb, hl, he⟩ := hA.three (by omega)
    rw [headD, Bool.and_eq_true, Bool.and_eq_true] at z
    obtain ⟨c, ys, ss, rfl, rfl, hS2, hA2, l3, l4⟩ := tup_of he z.2.2
    exact ⟨a, u, v, c, b, l, ss, ys, rfl, rfl, hS, hS2, hA2, hl, z.2.1⟩
  · rw [headD_not y] at z
    cases z
def spXMachine (K : PySem.W.Frag) : Sp := fun vs H Q _ => ∃ x d plain, vs = [x, .bl plain] ∧ Rp K H x d ∧ ∀ H', Same H H' → Q (.bl (resD plain d)) H'
theorem ix_tupK {X : Cx} {K : PySem.W.Frag} (e : X.K = K) : IxR X (rIxT K) := by
  subst e
  exact ix_tup
theorem op_eqNil {X : Cx} (hu : X.A.units < cLine) : OpR X (compareOp .Eq) (fun x y H Q => ∃ a b xs, x = .ref a ∧ y = .ref b ∧ SqL X.K H a xs ∧ SqL X.K H b [] ∧ Q (.bl (decide (xs.length = 0))) H) := by
  intro pins s σ H x y v u Q I rx ry h
  obtain ⟨a, b, xs, rfl, rfl, h1, h2, q⟩ := h
  cases rx
  cases ry
  obtain ⟨its, r, pl, hz⟩ := I.list h1
  obtain ⟨its2, r2, pl2, hz2⟩ := I.list h2
  have l1 := r.length
  have l2 := r2.length
  have e2 : its2.toArray.size = 0 := by rw [List.size_toArray, ← l2]; rfl
  have e1 : its.toArray.size = xs.length := by rw [List.size_toArray, ← l1]
  by_cases z : xs.length = 0
  · refine SeqAt.eq_listAt (e := fun _ => true) pl.isList pl2.isList (by rw [e1, e2, z]) hu (fun j h1 h2 => absurd h2 (by rw [e2]; exact Nat.not_lt_zero _)) ⟨.bl true, H, I, ?_, ?_⟩
    · rw [e1, z]
      rfl
    · rw [decide_eq_true z] at q
      exact q
  · refine SeqAt.eq_list_lengthsAt pl.isList pl2.isList ?_ hu ⟨.bl false, H, I, rfl, ?_⟩
    · rw [e1, e2, bne_iff_ne]
      exact z
    · rw [decide_eq_false z] at q
      exact q
def wayR (n : Nat) (many : Int) (st : PyData) : Bool := tupD (n : Int) (n : Int) st && wayD many st
theorem rul_form (l : PyData) (ss : List PyData) : rulD (.tuple [l, .tuple ss]) = (ltrD l && (tupD 1 4 (.tuple ss) && ss.all (wayR (lenD l) (ss.length : Int)))) := by
  rw [rulD, tabD, Bool.and_assoc (tupD 1 4 _), all_and]
  rfl
theorem inV_bools : ∀ l : List Bool, inV (.bl false) (l.map V.bl) = !(l.all id)
  | [] => rfl
  | b :: l => by
    have ih := inV_bools l
    unfold inV at ih ⊢
    rw [List.map_cons, List.any_cons, ih, List.all_cons]
    cases b <;> rfl
theorem flats_bools (l : List Bool) : (l.map V.bl).all flatV = true := by
  rw [List.all_map, List.all_eq_true]
  exact fun _ _ => rfl
section
variable {P : Program} {w : World} {K : PySem.W.Frag} {mg : Str → Option Value} {base : Heap} {x1 x2 x3 x4 x5 x6 x7 : Addr} {y1 y2 y3 y4 y5 y6 y7 : FuncData}
theorem ok_xBetween (T : L34 K mg x1 x2 x3 x4 x5 x6 x7 y1 y2 y3 y4 y5 y6 y7) {k : Nat} : FnOk P w K mg base CX0 (k + 1) x1 y1 ["value", "low", "high"] (spBetween K) := by
  refine T.FXBetween.ok scXBetween (fun vs H Q E h => ?_) (fun cdv A outer s H vs Q E hr h => ?_)
  · obtain ⟨x, t, lo, hi, rfl, _⟩ := h
    rfl
  · obtain ⟨x, d, lo, hi, rfl, hd, q⟩ := h
    refine ⟨_, (pss_one (ps_ret (pe_and (pe_callB call_isi (by rfl) T.isi (by decide +kernel) (pa_cons (pv 0) (pa_cons (pe_bltn (v := .ty "int") (by rfl) T.int (by decide +kernel) rfl) pa_nil))) (pe_and (pe_not (pe_callB call_isi (by rfl) T.isi (by decide +kernel) (pa_cons (pv 0) (pa_cons (pe_bltn (v := .ty "bool") (by rfl) T.bool (by decide +kernel) rfl) pa_nil)))) (pe_one (pe_chain op_le op_le (pv 1) (pv 0) (pv 2))))))), ?_⟩
    refine ⟨_, rfl, x, _, _, _, _, rfl, .ty _, hd.tyx, kit_int d, _, rfl, ?_⟩
    cases hd with
    | int i =>
      refine ite2 (fun _ => ?_) (fun z => absurd rfl z)
      refine ⟨_, rfl, _, _, _, _, _, rfl, .ty _, (Rp.int i).tyx, kit_bool _, _, rfl, _, rfl, ?_⟩
      refine ite2 (fun _ => ?_) (fun z => absurd rfl z)
      refine ⟨_, rfl, _, rfl, _, _, rfl, rfl, _, rfl, ite2 (fun z => ?_) (fun z => ?_)⟩
      · refine ⟨_, rfl, _, _, rfl, rfl, ?_⟩
        rw [betD, z, Bool.true_and] at q
        exact q
      · rw [betD, eq_false_of_ne_true z, Bool.false_and] at q
        exact q
    | bl b =>
      refine ite2 (fun _ => ?_) (fun z => absurd rfl z)
      refine ⟨_, rfl, _, _, _, _, _, rfl, .ty _, (Rp.bl b).tyx, kit_bool _, _, rfl, _, rfl, ?_⟩
      exact ite2 (fun z => absurd z (by simp [isBool])) (fun _ => q)
    | _ => exact ite2 (fun z => absurd z (by simp [isInt])) (fun _ => q)
theorem ok_xAre (T : L34 K mg x1 x2 x3 x4 x5 x6 x7 y1 y2 y3 y4 y5 y6 y7) {k : Nat} : FnOk P w K mg base CX0 (k + 1) x2 y2 ["value"] (spLetters K) := by
  refine T.FXAre.ok scXAre (fun vs H Q E h => ?_) (fun cdv A outer s H vs Q E hr h => ?_)
  · obtain ⟨x, t, rfl, _⟩ := h
    rfl
  · obtain ⟨x, d, rfl, hd, q⟩ := h
    have hu : (A.deeper (envOfC "_law_x_are_letters" (defScope sXAre) s.heap.objs.size x2 cdv)).units + 64 < cLine := by have := hr.un; omega
    refine ⟨_, (pss_cons (ps_if (PW.pt (pw_or (pt_not (pt_val (pe_callB call_isi (by rfl) T.isi (by decide +kernel) (pa_cons (pv 0) (pa_cons (pe_bltn (v := .ty "str") (by rfl) T.str (by decide +kernel) rfl) pa_nil))))) (pw_or1 (pt_not (pt_chain op_le op_le pe_int (pe_callB call_len_str (by rfl) T.len PySem.boot_len (pa_cons (pv 0) pa_nil)) pe_int))))) (pss_one (ps_ret pe_bl)) pss_nil)
 (pss_cons (ps_set (i := 1) scXAre.nd rfl (.inr rfl) pe_str)
 (pss_cons (ps_setLc (i := 2) (own := [("letter", 3)]) (g := gName 3) (tt := tYes) (by rfl) scXAre.nd rfl rfl (sw_true rfl rfl rfl (by decide +kernel)) (pi_str (pv 0)) (blkOk_by (N := ["value", "alphabet", "places", "letter"]) (sc := defScope sXAre) (by decide +kernel)) (fun _ _ _ _ _ => pg_name (i := 3) scXAre.nd rfl (Or.inl rfl)) (fun _ _ _ _ _ => pts_nil) (fun _ _ _ _ _ => (pe_bmK (K := K) rfl PySem.F.plainAttrs_str PySem.F.slot_str_find PySem.F.type_str_find mt_find (pv 1) (pa_cons (pv 3) pa_nil))))
 (pss_one (ps_ret (pe_and (pe_cmpR op_notIn_seq (pe_un un_neg pe_int) (pv 2) (by rfl)) (pe_and (pe_cmpR (op_eqD hu) (pv 2) (pe_callB cr_sorted (by rfl) T.sorted (by decide +kernel) (pa_cons (pv 2) pa_nil)) (nomark _)) (pe_one (pe_cmpR op_eq (pe_lenSetN (by rfl) T.len (by rfl) T.set (pv 2)) (pe_callB call_len_seq (by rfl) T.len PySem.boot_len (pa_cons (pv 2) pa_nil)) (nomark _)))))))))), ?_⟩
    refine ⟨_, rfl, x, _, _, _, _, rfl, .ty _, hd.tyx, kit_str d, _, rfl, ?_⟩
    by_cases hk : kindOf d = "str"
    · obtain ⟨z, rfl, rfl, hz⟩ := hd.isStr hk
      refine ite2 (fun y => absurd y (by simp [isStr])) (fun _ => ?_)
      refine ⟨_, rfl, z, rfl, hz, _, _, rfl, rfl, _, rfl, ?_⟩
      by_cases hl : 1 ≤ z.length ∧ z.length ≤ 3
      · have e1 : (1 : Int) ≤ (z.length : Int) := by omega
        have e3 : (z.length : Int) ≤ 3 := by omega
        refine ite2 (fun _ => ?_) (fun y => absurd (decide_eq_true e1) y)
        refine ⟨_, _, rfl, rfl, _, rfl, ?_⟩
        refine ite2 (fun y => absurd y (by rw [decide_eq_true e3]; decide)) (fun _ => ?_)
        refine ⟨_, rfl, z, rfl, fun D nD => ?_⟩
        have ll : z.cps.toList.length = z.length := Array.length_toList
        refine lc_it walk_str (fun j H' => Same H H' ∧ H' D = some (.lst (((z.cps.toList.take j).map pl).map V.int))) ⟨same_upd nD, upd_same⟩ (fun _ _ _ _ => trivial) ?_ ?_
        · rintro j u H' H2 hj ⟨sm, hD⟩ ⟨rfl, c, hc, rfl⟩
          have hc2 : z.cps.toList[j]? = some c := by rw [Array.getElem?_toList]; exact hc
          refine ⟨rfl, ?_⟩
          refine ⟨_, rfl, rfl, _, rfl, abc, ⟨#[c]⟩, rfl, rfl, _, hD, ?_, same_new sm nD, ?_⟩
          · rw [List.length_map, List.length_map]
            have h1 := List.length_take_le' j z.cps.toList
            exact Nat.lt_of_le_of_lt (show _ ≤ 100 by omega) (by decide)
          · rw [upd_same, find_abc, List.take_succ, hc2, List.map_append, List.map_append]
            rfl
        · rintro H' ⟨sm, hD⟩
          rw [show z.cps.size = z.cps.toList.length from ll.symm, List.take_length] at hD
          have hlen : 1 ≤ z.cps.toList.length ∧ z.cps.toList.length ≤ 3 := by rw [ll]; exact hl
          have key := letters_pl hlen
          have lm : (z.cps.toList.map pl).length = z.cps.toList.length := List.length_map ..
          refine ⟨_, rfl, _, rfl, D, _, rfl, .inl (SqL.of hD), rfl, flats_ints _, _, rfl, ?_⟩
          rw [if_pos rfl, inV_ints]
          by_cases hm : (-1 : Int) ∈ z.cps.toList.map pl
          · have q1 := q H' sm
            have no : ltrD (.str z) = false := by
              cases e : ltrD (.str z) with
              | false => rfl
              | true => exact absurd hm (key.mp e).1
            rw [no] at q1
            refine ite2 (fun y => absurd y (by rw [decide_eq_true hm]; decide)) (fun _ => q1)
          · refine ite2 (fun _ => ?_) (fun y => absurd (by rw [decide_eq_false hm]; rfl) y)
            refine ⟨_, rfl, _, rfl, D, _, rfl, SqL.of hD, by omega, fun ns' p perm ris hp => ?_⟩
            have xp := same_upd (o := HO.lst (ns'.map V.int)) hp
            have hD2 := xp _ _ hD
            refine ⟨_, _, .lst (SqL.of hD2) (dps_ints _), .lst (SqL.of upd_same) (dps_ints _), shaped_ints _, shaped_ints _, _, rfl, ?_⟩
            rw [eqv_ints]
            have se := sort_eq perm ris
            by_cases hs : z.cps.toList.map pl = ns'
            · refine ite2 (fun _ => ?_) (fun y => absurd (decide_eq_true hs) y)
              refine ⟨_, rfl, D, _, rfl, SqL.of hD2, by omega, _, rfl, D, _, rfl, .inl (SqL.of hD2), rfl, ?_⟩
              have q1 := q _ (sm.trans xp)
              have ka := kinds_all (ns := z.cps.toList.map pl)
              have lv : (List.map V.int (z.cps.toList.map pl)).length = (z.cps.toList.map pl).length := List.length_map ..
              by_cases hn : (z.cps.toList.map pl).Nodup
              · have yes : ltrD (.str z) = true := key.mpr ⟨hm, se.mp hs, hn⟩
                rw [yes] at q1
                rw [lv, ka.mpr hn, decide_eq_true rfl]
                exact q1
              · have no : ltrD (.str z) = false := by
                  cases e : ltrD (.str z) with
                  | false => rfl
                  | true => exact absurd (key.mp e).2.2 hn
                rw [no] at q1
                rw [lv, decide_eq_false (fun e => hn (ka.mp (by have := V.int.inj e; omega)))]
                exact q1
            · have no : ltrD (.str z) = false := by
                cases e : ltrD (.str z) with
                | false => rfl
                | true => exact absurd (se.mpr (key.mp e).2.1) hs
              have q1 := q _ (sm.trans xp)
              rw [no] at q1
              refine ite2 (fun y => absurd (of_decide_eq_true y) hs) (fun _ => q1)
      · have q0 := q H (Same.refl H)
        rw [ltrD, lettersL_not hl] at q0
        refine ite2 (fun y => ?_) (fun y => ?_)
        · refine ⟨_, _, rfl, rfl, _, rfl, ?_⟩
          refine ite2 (fun _ => q0) (fun z3 => absurd ?_ z3)
          have y1 := of_decide_eq_true y
          rw [decide_eq_false (by omega)]
          rfl
        · exact ⟨_, rfl, ite2 (fun _ => q0) (fun u => absurd rfl u)⟩
    · have e : isStr d = false := by
        cases d with
        | str z => exact absurd rfl hk
        | _ => rfl
      refine ite2 (fun _ => ?_) (fun y => absurd (by rw [e]; rfl) y)
      have q0 := q H (Same.refl H)
      rw [ltrD_not hk] at q0
      exact q0
theorem ok_xPair (T : L34 K mg x1 x2 x3 x4 x5 x6 x7 y1 y2 y3 y4 y5 y6 y7) {k : Nat} : FnOk P w K mg base CX0 (k + 2) x4 y4 ["value", "many", "most"] (spXPair K) := by
  have GB : FnOk P w K mg base CX0 (k + 1) x1 y1 ["value", "low", "high"] (spBetween K) := ok_xBetween T
  refine T.FXPair.ok scXPair (fun vs H Q E h => ?_) (fun cdv A outer s H vs Q E hr h => ?_)
  · obtain ⟨x, d, lo, hi, rfl, _⟩ := h
    rfl
  · obtain ⟨x, d, most, many, rfl, hd, q⟩ := h
    refine ⟨_, (pss_cons (ps_if (PW.pt (pw_or (pt_not (pt_val (pe_callB call_isi (by rfl) T.isi (by decide +kernel) (pa_cons (pv 0) (pa_cons (pe_bltn (v := .ty "tuple") (by rfl) T.tuple (by decide +kernel) rfl) pa_nil))))) (pw_or1 (pt_cmpR op_ne (pe_callB call_len_seq (by rfl) T.len PySem.boot_len (pa_cons (pv 0) pa_nil)) pe_int (nomark _))))) (pss_one (ps_ret pe_bl)) pss_nil)
 (pss_one (ps_ret (pe_and (pe_call GB hr (by rfl) T.gXBetween T.FXBetween.kp T.bXBetween .nil pass0 (pa_cons (pe_ix ix_tup (pv 0) pe_int (fun _ _ => rfl)) (pa_cons (pe_un un_neg (pv 2)) (pa_cons (pv 2) pa_nil)))) (pe_one (pe_call GB hr (by rfl) T.gXBetween T.FXBetween.kp T.bXBetween .nil pass0 (pa_cons (pe_ix ix_tup (pv 0) pe_int (fun _ _ => rfl)) (pa_cons pe_int (pa_cons (pe_op op_sub (pv 1) pe_int) pa_nil))))))))), ?_⟩
    refine ⟨_, rfl, x, _, _, _, _, rfl, .ty _, hd.tyx, kit_tuple d, _, rfl, ?_⟩
    rcases hd.tupOr with ⟨a, xs, ds, rfl, rfl, hS, hA⟩ | no
    · refine ite2 (fun y => absurd y (by simp [isTup])) (fun _ => ?_)
      refine ⟨_, rfl, a, xs, rfl, .inr hS, rfl, _, rfl, ?_⟩
      rw [hA.len]
      by_cases l2 : ds.length = 2
      · refine ite2 (fun y => absurd y (by rw [l2]; decide)) (fun _ => ?_)
        obtain ⟨u, v, p, t, rfl, rfl, hp, ht⟩ := hA.two l2
        refine ⟨_, rfl, a, _, 0, _, rfl, rfl, hS, atI_nat (j := 0) rfl, _, rfl, _, rfl, _, rfl, u, p, _, _, rfl, hp, _, rfl, ?_⟩
        refine ite2 (fun y => ?_) (fun y => ?_)
        · refine ⟨_, rfl, a, _, 1, _, rfl, rfl, hS, atI_nat (j := 1) rfl, _, rfl, _, _, rfl, rfl, v, t, _, _, rfl, ht, ?_⟩
          rw [pairD, y, Bool.true_and] at q
          exact q
        · rw [pairD, eq_false_of_ne_true y, Bool.false_and] at q
          exact q
      · have z : ¬ tupD 2 2 (.tuple ds) = true := fun e => by
          rw [tupD, Bool.and_eq_true, decide_eq_true_eq, decide_eq_true_eq] at e
          omega
        rw [pairD_not z] at q
        refine ite2 (fun _ => q) (fun y => absurd ?_ y)
        rw [decide_eq_false (fun e => l2 (by have := V.int.inj e; omega))]
        rfl
    · have z : ¬ tupD 2 2 d = true := fun e => by
        cases d with
        | tuple ds => cases no
        | _ => simp [tupD] at e
      rw [pairD_not z] at q
      exact ite2 (fun _ => q) (fun y => absurd (by rw [no]; rfl) y)
theorem ok_xHead (T : L34 K mg x1 x2 x3 x4 x5 x6 x7 y1 y2 y3 y4 y5 y6 y7) {k : Nat} : FnOk P w K mg base CX0 (k + 2) x3 y3 ["value", "most"] (spHead K) := by
  have GB : FnOk P w K mg base CX0 (k + 1) x1 y1 ["value", "low", "high"] (spBetween K) := ok_xBetween T
  have GA : FnOk P w K mg base CX0 (k + 1) x2 y2 ["value"] (spLetters K) := ok_xAre T
  refine T.FXHead.ok scXHead (fun vs H Q E h => ?_) (fun cdv A outer s H vs Q E hr h => ?_)
  · obtain ⟨x, d, most, rfl, _⟩ := h
    rfl
  · obtain ⟨x, d, most, rfl, hd, q⟩ := h
    refine ⟨_, (pss_cons (ps_if (PW.pt (pw_or (pt_not (pt_val (pe_callB call_isi (by rfl) T.isi (by decide +kernel) (pa_cons (pv 0) (pa_cons (pe_bltn (v := .ty "tuple") (by rfl) T.tuple (by decide +kernel) rfl) pa_nil))))) (pw_or (pt_cmpR op_ne (pe_callB call_len_seq (by rfl) T.len PySem.boot_len (pa_cons (pv 0) pa_nil)) pe_int (nomark _)) (pw_or1 (pt_not (pt_val (pe_call GB hr (by rfl) T.gXBetween T.FXBetween.kp T.bXBetween .nil pass0 (pa_cons (pe_ix ix_tup (pv 0) pe_int (fun _ _ => rfl)) (pa_cons pe_int (pa_cons pe_int pa_nil)))))))))) (pss_one (ps_ret pe_bl)) pss_nil)
 (pss_one (ps_ret (pe_and (pe_call GA hr (by rfl) T.gXAre T.FXAre.kp T.bXAre .nil pass0 (pa_cons (pe_ix ix_tup (pv 0) pe_int (fun _ _ => rfl)) pa_nil)) (pe_and (pe_callB call_isi (by rfl) T.isi (by decide +kernel) (pa_cons (pe_ix ix_tup (pv 0) pe_int (fun _ _ => rfl)) (pa_cons (pe_bltn (v := .ty "tuple") (by rfl) T.tuple (by decide +kernel) rfl) pa_nil))) (pe_one (pe_chain op_le op_le pe_int (pe_callB call_len_seq (by rfl) T.len PySem.boot_len (pa_cons (pe_ix ix_tup (pv 0) pe_int (fun _ _ => rfl)) pa_nil)) (pv 1)))))))), ?_⟩
    have q0 := q H (Same.refl H)
    refine ⟨_, rfl, x, _, _, _, _, rfl, .ty _, hd.tyx, kit_tuple d, _, rfl, ?_⟩
    rcases hd.tupOr with ⟨a, xs, ds, rfl, rfl, hS, hA⟩ | no
    · refine ite2 (fun y => absurd y (by simp [isTup])) (fun _ => ?_)
      refine ⟨_, rfl, a, xs, rfl, .inr hS, rfl, _, rfl, ?_⟩
      rw [hA.len]
      by_cases l3 : ds.length = 3
      · refine ite2 (fun y => absurd y (by rw [l3]; decide)) (fun _ => ?_)
        obtain ⟨u, v, t, b, l, e, rfl, rfl, hb, hl, he⟩ := hA.three l3
        refine ⟨_, rfl, a, _, 0, _, rfl, rfl, hS, atI_nat (j := 0) rfl, u, b, _, _, rfl, hb, _, rfl, ?_⟩
        by_cases z : betD 2 9 b = true
        · refine ite2 (fun y => absurd y (by rw [z]; decide)) (fun _ => ?_)
          refine ⟨_, rfl, a, _, 1, _, rfl, rfl, hS, atI_nat (j := 1) rfl, v, l, rfl, hl, fun H1 s1 => ⟨_, rfl, ?_⟩⟩
          have q1 := q H1 s1
          rw [headD, z, Bool.true_and] at q1
          refine ite2 (fun zl => ?_) (fun zl => ?_)
          · rw [zl, Bool.true_and] at q1
            refine ⟨_, rfl, a, _, 2, _, rfl, rfl, same_tup s1 hS, atI_nat (j := 2) rfl, t, _, _, _, _, rfl, .ty _, (he.go s1).tyx, kit_tuple e, _, rfl, ?_⟩
            rcases (he.go s1).tupOr with ⟨a2, ys, es, rfl, rfl, hS2, hA2⟩ | no
            · refine ite2 (fun _ => ?_) (fun y => absurd rfl y)
              refine ⟨_, rfl, a, _, 2, _, rfl, rfl, same_tup s1 hS, atI_nat (j := 2) rfl, a2, ys, rfl, .inr hS2, _, _, rfl, rfl, _, rfl, ?_⟩
              rw [hA2.len]
              refine ite2 (fun y1 => ?_) (fun y1 => ?_)
              · refine ⟨_, rfl, _, _, rfl, rfl, ?_⟩
                rw [tupD, y1, Bool.true_and] at q1
                exact q1
              · rw [tupD, eq_false_of_ne_true y1, Bool.false_and] at q1
                exact q1
            · have z2 : tupD 1 most e = false := by
                cases e with
                | tuple ds => cases no
                | _ => rfl
              rw [z2] at q1
              exact ite2 (fun y => absurd y (by rw [no]; decide)) (fun _ => q1)
          · rw [eq_false_of_ne_true zl, Bool.false_and] at q1
            exact q1
        · rw [headD, eq_false_of_ne_true z, Bool.false_and] at q0
          exact ite2 (fun _ => q0) (fun y => absurd (by rw [eq_false_of_ne_true z]; rfl) y)
      · have z : ¬ tupD 3 3 (.tuple ds) = true := fun e => by
          rw [tupD, Bool.and_eq_true, decide_eq_true_eq, decide_eq_true_eq] at e
          omega
        rw [headD_not z] at q0
        refine ite2 (fun _ => q0) (fun y => absurd ?_ y)
        rw [decide_eq_false (fun e => l3 (by have := V.int.inj e; omega))]
        rfl
    · have z : ¬ tupD 3 3 d = true := fun e => by
        cases d with
        | tuple ds => cases no
        | _ => simp [tupD] at e
      rw [headD_not z] at q0
      exact ite2 (fun _ => q0) (fun y => absurd (by rw [no]; rfl) y)
theorem ok_xChoice (T : L34 K mg x1 x2 x3 x4 x5 x6 x7 y1 y2 y3 y4 y5 y6 y7) {k : Nat} : FnOk P w K mg base CX0 (k + 3) x5 y5 ["value", "many"] (spChoice K) := by
  have GP : FnOk P w K mg base CX0 (k + 2) x4 y4 ["value", "many", "most"] (spXPair K) := ok_xPair T
  refine T.FXChoice.ok scXChoice (fun vs H Q E h => ?_) (fun cdv A outer s H vs Q E hr h => ?_)
  · obtain ⟨x, d, many, rfl, _⟩ := h
    rfl
  · obtain ⟨x, d, many, rfl, hd, q⟩ := h
    have hu : (A.deeper (envOfC "_law_x_is_choice" (defScope sXChoice) s.heap.objs.size x5 cdv)).units + 65 < cLine := by have := hr.un; omega
    refine ⟨_, (pss_cons (ps_if (PW.pt (pw_or (pt_not (pt_val (pe_callB call_isi (by rfl) T.isi (by decide +kernel) (pa_cons (pv 0) (pa_cons (pe_bltn (v := .ty "tuple") (by rfl) T.tuple (by decide +kernel) rfl) pa_nil))))) (pw_or1 (pt_not (pt_chain op_le op_le pe_int (pe_callB call_len_seq (by rfl) T.len PySem.boot_len (pa_cons (pv 0) pa_nil)) pe_int))))) (pss_one (ps_ret pe_bl)) pss_nil)
 (pss_cons (ps_for PassesOwn.never rfl (pi_enumT (by rfl) T.enumerate (pa_cons (pv 0) pa_nil)) (pg_tup rfl (pgs_cons (pg_name (i := 2) scXChoice.nd rfl (.inl rfl)) (pgs_cons (pg_name (i := 3) scXChoice.nd rfl (.inl rfl)) pgs_nil)))
 (pss_one (ps_if (PW.pt (pw_or (pt_not (pt_val (pe_call GP hr (by rfl) T.gXPair T.FXPair.kp T.bXPair .nil pass0 (pa_cons (pv 3) (pa_cons (pv 1) (pa_cons pe_int pa_nil)))))) (pw_or1 (pt_cmpR (op_inTD hu) (pv 3) (pe_slice sl_tup (pv 0) po_none (po_some (pv 2))) (by rfl))))) (pss_one (ps_ret pe_bl)) pss_nil)))
 (pss_one (ps_ret pe_bl)))), ?_⟩
    refine ⟨_, rfl, x, _, _, _, _, rfl, .ty _, hd.tyx, kit_tuple d, _, rfl, ?_⟩
    have q0 := q H (Same.refl H)
    rcases hd.tupOr with ⟨a, xs, ds, rfl, rfl, hS, hA⟩ | no
    · refine ite2 (fun y => absurd y (by simp [isTup])) (fun _ => ?_)
      refine ⟨_, rfl, a, xs, rfl, .inr hS, _, _, rfl, rfl, _, rfl, ?_⟩
      have ln := hA.len
      by_cases z : tupD 1 3 (.tuple ds) = true
      · have z2 := z
        rw [tupD, Bool.and_eq_true, decide_eq_true_eq, decide_eq_true_eq] at z2
        rw [ln]
        have e1 : (1 : Int) ≤ (ds.length : Int) := z2.1
        have e3 : (ds.length : Int) ≤ 3 := z2.2
        refine ite2 (fun _ => ?_) (fun y => absurd (decide_eq_true e1) y)
        refine ⟨_, _, rfl, rfl, _, rfl, ?_⟩
        refine ite2 (fun y => absurd y (by rw [decide_eq_true e3]; decide)) (fun _ => ?_)
        refine ⟨_, rfl, a, xs, rfl, hS, ?_⟩
        have bad : ∀ H', Same H H' → (∃ e ∈ ds, pairD 20 many e = false) → Q (.bl false) H' := fun H' s' ⟨e, he, f⟩ => by
          have q1 := q H' s'
          have no : chD many (.tuple ds) = false := by
            have : ds.all (pairD 20 many) = false := by
              cases ea : ds.all (pairD 20 many) with
              | false => rfl
              | true => exact absurd (List.all_eq_true.mp ea e he) (by rw [f]; decide)
            rw [chD, this, Bool.false_and, Bool.and_false]
          rw [no] at q1
          exact q1
        refine for_it (walk_enumT (K := K) (a := a) (xs := xs)) (fun i σ H' => ∃ v2 v3, σ = [some (.ref a), some (.int many), v2, v3] ∧ Same H H' ∧ (∀ e ∈ ds.take i, pairD 20 many e = true) ∧ ((ds.take i).map keyD).Nodup) ⟨_, _, rfl, Same.refl H, by simp, by simp⟩ (fun _ σ H' _ h => by obtain ⟨_, _, _, sm, _⟩ := h; exact same_tup sm hS) ?_ ?_
        · rintro i u σ H' H2 hi ⟨v2, v3, rfl, sm, al, nd⟩ ⟨t, x1, y, rfl, nT, rfl, ex, ey⟩
          obtain rfl : V.int (i : Nat) = x1 := Option.some.inj ex
          obtain ⟨e, he, re⟩ := hA.at ey
          have sT : Same H' (upd H' t (.tup [.int (i : Nat), y])) := same_upd nT
          have s2 := sm.trans sT
          refine ⟨t, _, rfl, SqT.of upd_same, rfl, _, _, rfl, _, _, rfl, rfl, ?_⟩
          refine ⟨_, rfl, ?_⟩
          refine ⟨_, rfl, y, e, 20, many, rfl, re.go s2, _, rfl, ?_⟩
          by_cases zp : pairD 20 many e = true
          · refine ite2 (fun u => absurd u (by rw [zp]; decide)) (fun _ => ?_)
            have le : i ≤ xs.length := Nat.le_of_lt hi
            refine ⟨_, rfl, _, rfl, _, rfl, _, rfl, a, xs, rfl, same_tup s2 hS, fun w => ?_, fun p hp => ?_⟩
            · have w2 := w.2
              rw [HT.sIx_nat] at w2
              omega
            · have sp := same_upd (o := HO.tup (cutV xs none (some (i : Int)))) hp
              have s3 := s2.trans sp
              have ali : ∀ x ∈ ds.take i, pairD 20 many x = true := al
              have lay := lay_pairs _ ali
              obtain ⟨i1, i2, ee⟩ := pair_form zp
              have nde : e.hasDict = false := by rw [ee]; simp [PyData.hasDict, PyData.hasDictAll]
              have she : SeqAt.shaped e = true := by rw [ee]; exact shaped_intsT [i1, i2]
              have sht : SeqAt.shaped (.tuple (ds.take i)) = true := by
                have l2 := lay.2.1
                simp [SeqAt.shaped, PyData.canLay0, PyData.depth, lay.1]
                omega
              have hp2 : SqT K (upd (upd H' t (.tup [.int (i : Nat), y])) p (.tup (cutV xs none (some (i : Int))))) p (xs.take i) := by
                rw [cut_take xs i le]
                exact SqT.of upd_same
              refine ⟨e, ds.take i, (re.go s3).dp nde, .tup hp2 (((hA.go s3).take i).dp lay.2.2), she, sht, ?_⟩
              rw [any_pairs zp _ ali]
              have nx : (ds.take (i + 1)).map keyD = (ds.take i).map keyD ++ [keyD e] := by rw [List.take_succ, he, List.map_append]; rfl
              by_cases mm : keyD e ∈ (ds.take i).map keyD
              · rw [decide_eq_true mm]
                refine ⟨_, rfl, ite2 (fun _ => ?_) (fun u => absurd rfl u)⟩
                have q1 := q _ s3
                have no : chD many (.tuple ds) = false := by
                  have : ¬ (ds.map keyD).Nodup := fun nd2 => by
                    have := nd2.sublist ((List.take_sublist (i + 1) ds).map keyD)
                    rw [nx, List.nodup_append] at this
                    exact this.2.2 _ mm _ (List.mem_singleton.mpr rfl) rfl
                  rw [chD, decide_eq_false this, Bool.and_false, Bool.and_false]
                rw [no] at q1
                exact q1
              · rw [decide_eq_false mm]
                refine ⟨_, rfl, ite2 (fun u => absurd u (by decide)) (fun _ => ?_)⟩
                refine ⟨_, _, rfl, s3, ?_, ?_⟩
                · intro x hx
                  rw [List.take_succ, he] at hx
                  rcases List.mem_append.mp hx with h | h
                  · exact al x h
                  · rw [Option.toList_some, List.mem_singleton] at h
                    rw [h]
                    exact zp
                · rw [nx, List.nodup_append]
                  refine ⟨nd, by simp, fun a ha b hb e => mm ?_⟩
                  rw [List.mem_singleton.mp hb] at e
                  rw [← e]
                  exact ha
          · refine ite2 (fun _ => ?_) (fun u => absurd (by rw [eq_false_of_ne_true zp]; rfl) u)
            exact bad _ s2 ⟨e, List.mem_of_getElem? he, eq_false_of_ne_true zp⟩
        · rintro σ H' ⟨v2, v3, rfl, sm, al, nd⟩
          have q1 := q H' sm
          rw [ln, List.take_length] at al nd
          have yes : chD many (.tuple ds) = true := by
            rw [chD, z, List.all_eq_true.mpr al, decide_eq_true nd]
            rfl
          rw [yes] at q1
          exact q1
      · rw [chD_not z] at q0
        rw [ln]
        refine ite2 (fun y => ?_) (fun y => ?_)
        · refine ⟨_, _, rfl, rfl, _, rfl, ?_⟩
          refine ite2 (fun _ => q0) (fun z3 => absurd ?_ z3)
          have y1 := of_decide_eq_true y
          rw [decide_eq_false fun y2 => z (by rw [tupD, decide_eq_true (show (1 : Int) ≤ (ds.length : Int) from y1), decide_eq_true (show (ds.length : Int) ≤ 3 from y2)]; rfl)]
          rfl
        · exact ⟨_, rfl, ite2 (fun _ => q0) (fun u => absurd rfl u)⟩
    · have z : ¬ tupD 1 3 d = true := fun e => by
        cases d with
        | tuple ds => cases no
        | _ => simp [tupD] at e
      rw [chD_not z] at q0
      exact ite2 (fun _ => q0) (fun y => absurd (by rw [no]; rfl) y)
theorem ok_xMachine (T : L34 K mg x1 x2 x3 x4 x5 x6 x7 y1 y2 y3 y4 y5 y6 y7) {k : Nat} : FnOk P w K mg base CX0 (k + 4) x6 y6 ["value", "plain"] (spXMachine K) := by
  have GH : FnOk P w K mg base CX0 (k + 3) x3 y3 ["value", "most"] (spHead K) := ok_xHead T
  have GP : FnOk P w K mg base CX0 (k + 3) x4 y4 ["value", "many", "most"] (spXPair K) := ok_xPair T
  have GC : FnOk P w K mg base CX0 (k + 3) x5 y5 ["value", "many"] (spChoice K) := ok_xChoice T
  refine T.FXMachine.ok scXMachine (fun vs H Q E h => ?_) (fun cdv A outer s H vs Q E hr h => ?_)
  · obtain ⟨x, d, plain, rfl, _⟩ := h
    rfl
  · obtain ⟨x, d, plain, rfl, hd, q⟩ := h
    refine ⟨_, (pss_cons (ps_if (pt_not (pt_val (pe_call GH hr (by rfl) T.gXHead T.FXHead.kp T.bXHead .nil pass0 (pa_cons (pv 0) (pa_cons (pe_ifExp (pt_val (pv 1)) pe_int pe_int) pa_nil))))) (pss_one (ps_ret pe_bl)) pss_nil)
 (pss_cons (ps_set (i := 2) scXMachine.nd rfl (.inl rfl) (pe_callB call_len_seq (by rfl) T.len PySem.boot_len (pa_cons (pe_ix ix_tup (pv 0) pe_int (fun _ _ => rfl)) pa_nil)))
 (pss_cons (ps_for PassesOwn.never rfl (pi_tup (pe_ix ix_tup (pv 0) pe_int (fun _ _ => rfl))) (pg_name (i := 3) scXMachine.nd rfl (.inl rfl))
 (pss_cons (ps_if (PW.pt (pw_or (pt_not (pt_val (pe_callB call_isi (by rfl) T.isi (by decide +kernel) (pa_cons (pv 3) (pa_cons (pe_bltn (v := .ty "tuple") (by rfl) T.tuple (by decide +kernel) rfl) pa_nil))))) (pw_or1 (pt_cmpR op_ne (pe_callB call_len_seq (by rfl) T.len PySem.boot_len (pa_cons (pv 3) pa_nil)) (pe_callB call_len_str (by rfl) T.len PySem.boot_len (pa_cons (pe_ix ix_tup (pv 0) pe_int (fun _ _ => rfl)) pa_nil)) (nomark _))))) (pss_one (ps_ret pe_bl)) pss_nil)
 (pss_one (ps_for PassesOwn.never rfl (pi_tup (pv 3)) (pg_name (i := 4) scXMachine.nd rfl (.inl rfl))
 (pss_one (ps_if (PW.pt (pw_or (PW.pt (pw_and (pt_val (pv 1)) (pw_and1 (pt_not (pt_val (pe_call GP hr (by rfl) T.gXPair T.FXPair.kp T.bXPair .nil pass0 (pa_cons (pv 4) (pa_cons (pv 2) (pa_cons (pe_op op_pow pe_int pe_int) pa_nil))))))))) (pw_or1 (PW.pt (pw_and (pt_not (pt_val (pv 1))) (pw_and1 (pt_not (pt_val (pe_call GC hr (by rfl) T.gXChoice T.FXChoice.kp T.bXChoice .nil pass0 (pa_cons (pv 4) (pa_cons (pv 2) pa_nil))))))))))) (pss_one (ps_ret pe_bl)) pss_nil))))))
 (pss_one (ps_ret pe_bl))))), ?_⟩
    cases plain with
    | true =>
      refine ⟨_, rfl, _, rfl, _, rfl, ite2 (fun _ => ?_) (fun u => absurd rfl u)⟩
      refine ⟨x, d, 300, rfl, hd, fun H1 s1 => ⟨_, rfl, ?_⟩⟩
      by_cases y : headD 300 d = true
      · refine ite2 (fun u => absurd u (by rw [y]; decide)) (fun _ => ?_)
        obtain ⟨a, u, v, c, b, l, ss, xs, rfl, rfl, hS, hS2, hA, hl, zl⟩ := head_of hd y
        obtain ⟨w1, rfl, rfl, hw⟩ := hl.isStr (ltrD_str zl)
        have ln := hA.len
        have rt : resD true (.tuple [b, .str w1, .tuple ss]) = ss.all (wayM true w1.length (ss.length : Int)) := by
          rw [res_tup]
          exact (congrArg (· && _) y).trans (Bool.true_and _)
        have bad : ∀ H', Same H H' → (∃ e ∈ ss, wayM true w1.length (ss.length : Int) e = false) → Q (.bl false) H' := fun H' s' ⟨e, he, f⟩ => by
          have q1 := q H' s'
          have no : ss.all (wayM true w1.length (ss.length : Int)) = false := by
            cases ea : ss.all (wayM true w1.length (ss.length : Int)) with
            | false => rfl
            | true => exact absurd (List.all_eq_true.mp ea e he) (by rw [f]; decide)
          rw [rt, no] at q1
          exact q1
        refine ⟨_, rfl, a, _, 2, _, rfl, rfl, same_tup s1 hS, rfl, c, xs, rfl, .inr (same_tup s1 hS2), ?_⟩
        refine ⟨_, rfl, a, _, 2, _, rfl, rfl, same_tup s1 hS, rfl, c, rfl, ⟨xs, same_tup s1 hS2⟩, ?_⟩
        refine for_it (walk_tup (K := K) (a := c) (xs := xs)) (fun i σ H' => ∃ v3 v4, σ = [some (.ref a), some (.bl true), some (.int (xs.length : Nat)), v3, v4] ∧ Same H H' ∧ (∀ e ∈ ss.take i, wayM true w1.length (ss.length : Int) e = true)) ⟨_, _, rfl, s1, by simp⟩ (fun _ σ H' _ h => by obtain ⟨_, _, _, sm, _⟩ := h; exact same_tup sm hS2) ?_ ?_
        · rintro i u2 σ H' H2 hi ⟨v3, v4, rfl, sm, al⟩ ⟨rfl, hu⟩
          obtain ⟨e, he, re⟩ := hA.at hu
          have me := List.mem_of_getElem? he
          refine ⟨_, rfl, u2, _, _, _, _, rfl, .ty _, (re.go sm).tyx, kit_tuple e, _, rfl, ?_⟩
          rcases re.tupOr with ⟨a2, ys, es, rfl, rfl, hS3, hA3⟩ | no
          · refine ite2 (fun y => absurd y (by simp [isTup])) (fun _ => ?_)
            refine ⟨_, rfl, a2, ys, rfl, .inr (same_tup sm hS3), _, rfl, a, _, 1, _, rfl, rfl, same_tup sm hS, rfl, w1, rfl, hw, rfl, ?_⟩
            rw [hA3.len]
            by_cases l2 : es.length = w1.length
            · have tt : tupD (w1.length : Int) (w1.length : Int) (.tuple es) = true := by
                rw [tupD, l2, decide_eq_true (Int.le_refl _)]
                rfl
              have wy : wayM true w1.length (ss.length : Int) (.tuple es) = es.all (okD true (ss.length : Int)) := by
                rw [wayM, tt, Bool.true_and]
                rfl
              refine ⟨_, rfl, ite2 (fun y => absurd y (by rw [l2]; simp)) (fun _ => ?_)⟩
              refine ⟨_, rfl, a2, rfl, ⟨ys, same_tup sm hS3⟩, ?_⟩
              refine for_it (walk_tup (K := K) (a := a2) (xs := ys)) (fun j σ H' => ∃ v4, σ = [some (.ref a), some (.bl true), some (.int (xs.length : Nat)), some (.ref a2), v4] ∧ Same H H' ∧ (∀ e ∈ es.take j, okD true (ss.length : Int) e = true)) ⟨_, rfl, sm, by simp⟩ (fun _ σ H' _ h => by obtain ⟨_, _, sm, _⟩ := h; exact same_tup sm hS3) ?_ ?_
              · rintro j u3 σ H' H3 hj ⟨v4, rfl, sm3, al3⟩ ⟨rfl, hu3⟩
                obtain ⟨e3, he3, re3⟩ := hA3.at hu3
                have me3 := List.mem_of_getElem? he3
                have nx : ∀ (H' : Hp), okD true (ss.length : Int) e3 = true → ∀ e ∈ es.take (j + 1), okD true (ss.length : Int) e = true := fun _ ok x hx => by
                  rw [List.take_succ, he3] at hx
                  rcases List.mem_append.mp hx with h | h
                  · exact al3 x h
                  · rw [Option.toList_some, List.mem_singleton] at h
                    rw [h]
                    exact ok
                have bad3 : ∀ H', Same H H' → okD true (ss.length : Int) e3 = false → Q (.bl false) H' := fun H' s' f => by
                  refine bad H' s' ⟨_, me, ?_⟩
                  rw [wy]
                  cases ea : es.all (okD true (ss.length : Int)) with
                  | false => rfl
                  | true => exact absurd (List.all_eq_true.mp ea e3 me3) (by rw [f]; decide)
                have ez : okD true (ss.length : Int) e3 = pairD ((10 : Int) ^ (30 : Int).toNat) (xs.length : Int) e3 := by rw [ln]; rfl
                refine ⟨_, rfl, _, rfl, ite2 (fun _ => ?_) (fun u => absurd rfl u)⟩
                refine ⟨_, rfl, _, rfl, _, _, rfl, rfl, (by exact ⟨by decide, by decide, by decide⟩), u3, e3, _, _, rfl, re3.go sm3, _, rfl, ?_⟩
                rw [← ez]
                by_cases z : okD true (ss.length : Int) e3 = true
                · refine ite2 (fun u => absurd u (by rw [z]; decide)) (fun _ => ?_)
                  refine ⟨_, rfl, _, rfl, ite2 (fun u => absurd u (by decide)) (fun _ => ?_)⟩
                  exact ite2 (fun u => absurd u (by decide)) (fun _ => ⟨_, rfl, sm3, nx H z⟩)
                · refine ite2 (fun _ => ?_) (fun u => absurd (by rw [eq_false_of_ne_true z]; rfl) u)
                  exact ite2 (fun _ => bad3 _ sm3 (eq_false_of_ne_true z)) (fun u => absurd rfl u)
              · rintro σ H' ⟨v4, rfl, sm3, al3⟩
                refine ⟨_, _, rfl, sm3, fun x hx => ?_⟩
                rw [List.take_succ, he] at hx
                rcases List.mem_append.mp hx with h | h
                · exact al x h
                · rw [Option.toList_some, List.mem_singleton] at h
                  rw [h, wy, List.all_eq_true]
                  rw [hA3.len, List.take_length] at al3
                  exact al3
            · have wn : wayM true w1.length (ss.length : Int) (.tuple es) = false := by
                have : tupD (w1.length : Int) (w1.length : Int) (.tuple es) = false := by
                  cases ea : tupD (w1.length : Int) (w1.length : Int) (.tuple es) with
                  | false => rfl
                  | true =>
                    rw [tupD, Bool.and_eq_true, decide_eq_true_eq, decide_eq_true_eq] at ea
                    omega
                rw [wayM, this, Bool.false_and]
              refine ⟨_, rfl, ite2 (fun _ => bad _ sm ⟨_, me, wn⟩) (fun y => absurd ?_ y)⟩
              rw [decide_eq_false (fun e => l2 (by have := V.int.inj e; omega))]
              rfl
          · have wn : wayM true w1.length (ss.length : Int) e = false := by
              have : tupD (w1.length : Int) (w1.length : Int) e = false := by
                cases e with
                | tuple ds => cases no
                | _ => rfl
              rw [wayM, this, Bool.false_and]
            exact ite2 (fun _ => bad _ sm ⟨_, me, wn⟩) (fun y => absurd (by rw [no]; rfl) y)
        · rintro σ H' ⟨v3, v4, rfl, sm, al⟩
          have q1 := q H' sm
          rw [ln, List.take_length] at al
          rw [rt, List.all_eq_true.mpr al] at q1
          exact q1
      · have q1 := q H1 s1
        rw [res_not (show headD (if (true : Bool) = true then 300 else 4) d = false from eq_false_of_ne_true y)] at q1
        exact ite2 (fun _ => q1) (fun u => absurd (by rw [eq_false_of_ne_true y]; rfl) u)
    | false =>
      refine ⟨_, rfl, _, rfl, _, rfl, ite2 (fun u => absurd u (by decide)) (fun _ => ?_)⟩
      refine ⟨x, d, 4, rfl, hd, fun H1 s1 => ⟨_, rfl, ?_⟩⟩
      by_cases y : headD 4 d = true
      · refine ite2 (fun u => absurd u (by rw [y]; decide)) (fun _ => ?_)
        obtain ⟨a, u, v, c, b, l, ss, xs, rfl, rfl, hS, hS2, hA, hl, zl⟩ := head_of hd y
        obtain ⟨w1, rfl, rfl, hw⟩ := hl.isStr (ltrD_str zl)
        have ln := hA.len
        have rt : resD false (.tuple [b, .str w1, .tuple ss]) = ss.all (wayM false w1.length (ss.length : Int)) := by
          rw [res_tup]
          exact (congrArg (· && _) y).trans (Bool.true_and _)
        have bad : ∀ H', Same H H' → (∃ e ∈ ss, wayM false w1.length (ss.length : Int) e = false) → Q (.bl false) H' := fun H' s' ⟨e, he, f⟩ => by
          have q1 := q H' s'
          have no : ss.all (wayM false w1.length (ss.length : Int)) = false := by
            cases ea : ss.all (wayM false w1.length (ss.length : Int)) with
            | false => rfl
            | true => exact absurd (List.all_eq_true.mp ea e he) (by rw [f]; decide)
          rw [rt, no] at q1
          exact q1
        refine ⟨_, rfl, a, _, 2, _, rfl, rfl, same_tup s1 hS, rfl, c, xs, rfl, .inr (same_tup s1 hS2), ?_⟩
        refine ⟨_, rfl, a, _, 2, _, rfl, rfl, same_tup s1 hS, rfl, c, rfl, ⟨xs, same_tup s1 hS2⟩, ?_⟩
        refine for_it (walk_tup (K := K) (a := c) (xs := xs)) (fun i σ H' => ∃ v3 v4, σ = [some (.ref a), some (.bl false), some (.int (xs.length : Nat)), v3, v4] ∧ Same H H' ∧ (∀ e ∈ ss.take i, wayM false w1.length (ss.length : Int) e = true)) ⟨_, _, rfl, s1, by simp⟩ (fun _ σ H' _ h => by obtain ⟨_, _, _, sm, _⟩ := h; exact same_tup sm hS2) ?_ ?_
        · rintro i u2 σ H' H2 hi ⟨v3, v4, rfl, sm, al⟩ ⟨rfl, hu⟩
          obtain ⟨e, he, re⟩ := hA.at hu
          have me := List.mem_of_getElem? he
          refine ⟨_, rfl, u2, _, _, _, _, rfl, .ty _, (re.go sm).tyx, kit_tuple e, _, rfl, ?_⟩
          rcases re.tupOr with ⟨a2, ys, es, rfl, rfl, hS3, hA3⟩ | no
          · refine ite2 (fun y => absurd y (by simp [isTup])) (fun _ => ?_)
            refine ⟨_, rfl, a2, ys, rfl, .inr (same_tup sm hS3), _, rfl, a, _, 1, _, rfl, rfl, same_tup sm hS, rfl, w1, rfl, hw, rfl, ?_⟩
            rw [hA3.len]
            by_cases l2 : es.length = w1.length
            · have tt : tupD (w1.length : Int) (w1.length : Int) (.tuple es) = true := by
                rw [tupD, l2, decide_eq_true (Int.le_refl _)]
                rfl
              have wy : wayM false w1.length (ss.length : Int) (.tuple es) = es.all (okD false (ss.length : Int)) := by
                rw [wayM, tt, Bool.true_and]
                rfl
              refine ⟨_, rfl, ite2 (fun y => absurd y (by rw [l2]; simp)) (fun _ => ?_)⟩
              refine ⟨_, rfl, a2, rfl, ⟨ys, same_tup sm hS3⟩, ?_⟩
              refine for_it (walk_tup (K := K) (a := a2) (xs := ys)) (fun j σ H' => ∃ v4, σ = [some (.ref a), some (.bl false), some (.int (xs.length : Nat)), some (.ref a2), v4] ∧ Same H H' ∧ (∀ e ∈ es.take j, okD false (ss.length : Int) e = true)) ⟨_, rfl, sm, by simp⟩ (fun _ σ H' _ h => by obtain ⟨_, _, sm, _⟩ := h; exact same_tup sm hS3) ?_ ?_
              · rintro j u3 σ H' H3 hj ⟨v4, rfl, sm3, al3⟩ ⟨rfl, hu3⟩
                obtain ⟨e3, he3, re3⟩ := hA3.at hu3
                have me3 := List.mem_of_getElem? he3
                have nx : ∀ (H' : Hp), okD false (ss.length : Int) e3 = true → ∀ e ∈ es.take (j + 1), okD false (ss.length : Int) e = true := fun _ ok x hx => by
                  rw [List.take_succ, he3] at hx
                  rcases List.mem_append.mp hx with h | h
                  · exact al3 x h
                  · rw [Option.toList_some, List.mem_singleton] at h
                    rw [h]
                    exact ok
                have bad3 : ∀ H', Same H H' → okD false (ss.length : Int) e3 = false → Q (.bl false) H' := fun H' s' f => by
                  refine bad H' s' ⟨_, me, ?_⟩
                  rw [wy]
                  cases ea : es.all (okD false (ss.length : Int)) with
                  | false => rfl
                  | true => exact absurd (List.all_eq_true.mp ea e3 me3) (by rw [f]; decide)
                have ez : okD false (ss.length : Int) e3 = chD (xs.length : Int) e3 := by rw [ln]; rfl
                refine ⟨_, rfl, _, rfl, ite2 (fun u => absurd u (by decide)) (fun _ => ?_)⟩
                refine ite2 (fun u => absurd u (by decide)) (fun _ => ?_)
                refine ⟨_, rfl, _, rfl, ite2 (fun _ => ?_) (fun u => absurd rfl u)⟩
                refine ⟨_, rfl, _, rfl, u3, e3, _, rfl, re3.go sm3, fun H4 s4 => ⟨_, rfl, ?_⟩⟩
                rw [← ez]
                by_cases z : okD false (ss.length : Int) e3 = true
                · exact ite2 (fun u => absurd u (by rw [z]; decide)) (fun _ => ⟨_, rfl, sm3.trans s4, nx H z⟩)
                · exact ite2 (fun _ => bad3 _ (sm3.trans s4) (eq_false_of_ne_true z)) (fun u => absurd (by rw [eq_false_of_ne_true z]; rfl) u)
              · rintro σ H' ⟨v4, rfl, sm3, al3⟩
                refine ⟨_, _, rfl, sm3, fun x hx => ?_⟩
                rw [List.take_succ, he] at hx
                rcases List.mem_append.mp hx with h | h
                · exact al x h
                · rw [Option.toList_some, List.mem_singleton] at h
                  rw [h, wy, List.all_eq_true]
                  rw [hA3.len, List.take_length] at al3
                  exact al3
            · have wn : wayM false w1.length (ss.length : Int) (.tuple es) = false := by
                have : tupD (w1.length : Int) (w1.length : Int) (.tuple es) = false := by
                  cases ea : tupD (w1.length : Int) (w1.length : Int) (.tuple es) with
                  | false => rfl
                  | true =>
                    rw [tupD, Bool.and_eq_true, decide_eq_true_eq, decide_eq_true_eq] at ea
                    omega
                rw [wayM, this, Bool.false_and]
              refine ⟨_, rfl, ite2 (fun _ => bad _ sm ⟨_, me, wn⟩) (fun y => absurd ?_ y)⟩
              rw [decide_eq_false (fun e => l2 (by have := V.int.inj e; omega))]
              rfl
          · have wn : wayM false w1.length (ss.length : Int) e = false := by
              have : tupD (w1.length : Int) (w1.length : Int) e = false := by
                cases e with
                | tuple ds => cases no
                | _ => rfl
              rw [wayM, this, Bool.false_and]
            exact ite2 (fun _ => bad _ sm ⟨_, me, wn⟩) (fun y => absurd (by rw [no]; rfl) y)
        · rintro σ H' ⟨v3, v4, rfl, sm, al⟩
          have q1 := q H' sm
          rw [ln, List.take_length] at al
          rw [rt, List.all_eq_true.mpr al] at q1
          exact q1
      · have q1 := q H1 s1
        rw [res_not (show headD (if (false : Bool) = true then 300 else 4) d = false from eq_false_of_ne_true y)] at q1
        exact ite2 (fun _ => q1) (fun u => absurd (by rw [eq_false_of_ne_true y]; rfl) u)
theorem ok_xIsRule (T : L34 K mg x1 x2 x3 x4 x5 x6 x7 y1 y2 y3 y4 y5 y6 y7) {k : Nat} : FnOk P w K mg base CX0 (k + 4) x7 y7 ["value"] (spRule K) := by
  have GL : FnOk P w K mg base CX0 (k + 3) x2 y2 ["value"] (spLetters K) := ok_xAre T
  have GB : FnOk P w K mg base CX0 (k + 3) x1 y1 ["value", "low", "high"] (spBetween K) := ok_xBetween T
  refine T.FXIsRule.ok scXIsRule (fun vs H Q E h => ?_) (fun cdv A outer s H vs Q E hr h => ?_)
  · obtain ⟨x, d, rfl, _⟩ := h
    rfl
  · obtain ⟨x, d, rfl, hd, q⟩ := h
    have hu : (A.deeper (envOfC "_law_x_is_rule" (defScope sXIsRule) s.heap.objs.size x7 cdv)).units < cLine := by have := hr.un; omega
    refine ⟨_, (pss_cons (ps_if (PW.pt (pw_or (pt_not (pt_val (pe_callB call_isi (by rfl) T.isi (by decide +kernel) (pa_cons (pv 0) (pa_cons (pe_bltn (v := .ty "tuple") (by rfl) T.tuple (by decide +kernel) rfl) pa_nil))))) (pw_or (pt_cmpR op_ne (pe_callB call_len_seq (by rfl) T.len PySem.boot_len (pa_cons (pv 0) pa_nil)) pe_int (nomark _)) (pw_or1 (pt_not (pt_val (pe_call GL hr (by rfl) T.gXAre T.FXAre.kp T.bXAre .nil pass0 (pa_cons (pe_ix ix_tup (pv 0) pe_int (fun _ _ => rfl)) pa_nil)))))))) (pss_one (ps_ret pe_bl)) pss_nil)
 (pss_cons (ps_if (PW.pt (pw_or (pt_not (pt_val (pe_callB call_isi (by rfl) T.isi (by decide +kernel) (pa_cons (pe_ix (ix_tupK (K := K) rfl) (pv 0) pe_int (fun _ _ => rfl)) (pa_cons (pe_bltn (v := .ty "tuple") (by rfl) T.tuple (by decide +kernel) rfl) pa_nil))))) (pw_or1 (pt_not (pt_chain op_le op_le pe_int (pe_callB (len_seqK (K := K) rfl) (by rfl) T.len PySem.boot_len (pa_cons (pe_ix (ix_tupK (K := K) rfl) (pv 0) pe_int (fun _ _ => rfl)) pa_nil)) pe_int))))) (pss_one (ps_ret pe_bl)) pss_nil)
 (pss_cons (ps_for PassesOwn.never rfl (pi_tup (pe_ix (ix_tupK (K := K) rfl) (pv 0) pe_int (fun _ _ => rfl))) (pg_name (i := 1) scXIsRule.nd rfl (.inl rfl))
 (pss_cons (ps_if (PW.pt (pw_or (pt_not (pt_val (pe_callB call_isi (by rfl) T.isi (by decide +kernel) (pa_cons (pv 1) (pa_cons (pe_bltn (v := .ty "tuple") (by rfl) T.tuple (by decide +kernel) rfl) pa_nil))))) (pw_or1 (pt_cmpR op_ne (pe_callB call_len_seq (by rfl) T.len PySem.boot_len (pa_cons (pv 1) pa_nil)) (pe_callB call_len_str (by rfl) T.len PySem.boot_len (pa_cons (pe_ix ix_tup (pv 0) pe_int (fun _ _ => rfl)) pa_nil)) (nomark _))))) (pss_one (ps_ret pe_bl)) pss_nil)
 (pss_cons (ps_setLc (i := 2) (own := [("one", 3)]) (g := gName 3) (by rfl) scXIsRule.nd rfl rfl (sw_true rfl rfl rfl (by decide +kernel)) (pi_tup (pv 1)) (blkOk_by (N := ["value", "state", "kept", "one"]) (sc := defScope sXIsRule) (by decide +kernel)) (fun _ _ _ _ _ => pg_name (i := 3) scXIsRule.nd rfl (Or.inl rfl)) (fun _ _ _ _ _ => (pts_one (pt_cmpR op_notN (pv 3) pe_non (nomark _)))) (fun _ _ _ _ _ => (pv 3)))
 (pss_one (ps_if (PW.pt (pw_or (pt_cmpR (op_eqNil hu) (pv 2) (pe_lst pa_nil) (nomark _)) (pw_or1 (pt_cmpR op_in_seq pe_bl (pe_lc (own := [("one", 3)]) (g := gName 3) (tt := tYes) (by rfl) scXIsRule.nd (pi_list (pv 2)) (blkOk_by (N := ["value", "state", "kept", "one"]) (sc := defScope sXIsRule) (by decide +kernel)) (fun _ _ _ _ _ => pg_name (i := 3) scXIsRule.nd rfl (Or.inl rfl)) (fun _ _ _ _ _ => pts_nil) (fun _ _ _ _ _ => (pe_call GB hr (by rfl) T.gXBetween T.FXBetween.kp T.bXBetween .nil pass0 (pa_cons (pv 3) (pa_cons pe_int (pa_cons (pe_op op_sub (pe_callB (len_seqK (K := K) rfl) (by rfl) T.len PySem.boot_len (pa_cons (pe_ix (ix_tupK (K := K) rfl) (pv 0) pe_int (fun _ _ => rfl)) pa_nil)) pe_int) pa_nil)))))) (by rfl))))) (pss_one (ps_ret pe_bl)) pss_nil)))))
 (pss_one (ps_ret pe_bl))))), ?_⟩
    have q0 := q H (Same.refl H)
    refine ⟨_, rfl, x, _, _, _, _, rfl, .ty _, hd.tyx, kit_tuple d, _, rfl, ?_⟩
    by_cases y : tupD 2 2 d = true
    · obtain ⟨a, u, v, l, st, rfl, rfl, hS, hl, hst⟩ := hd.two y
      refine ite2 (fun y => absurd y (by simp [isTup])) (fun _ => ?_)
      refine ⟨_, rfl, a, _, rfl, .inr hS, rfl, _, rfl, ?_⟩
      refine ite2 (fun y => absurd y (by simp)) (fun _ => ?_)
      refine ⟨_, rfl, a, _, 0, _, rfl, rfl, hS, rfl, u, l, rfl, hl, fun H1 s1 => ⟨_, rfl, ?_⟩⟩
      have bad0 : ∀ H', Same H H' → (ltrD l && tupD 1 4 st) = false → Q (.bl false) H' := fun H' s' e => by
        have q1 := q H' s'
        have : rulD (.tuple [l, st]) = false := by
          cases st with
          | tuple ss => rw [rul_form, ← Bool.and_assoc, e, Bool.false_and]
          | _ => rfl
        rw [this] at q1
        exact q1
      by_cases zl : ltrD l = true
      · obtain ⟨w1, rfl, rfl, hw⟩ := hl.isStr (ltrD_str zl)
        have w3 : w1.length ≤ 3 := ltrD_len zl
        refine ite2 (fun u => absurd u (by rw [zl]; decide)) (fun _ => ?_)
        refine ⟨_, rfl, a, _, 1, _, rfl, rfl, same_tup s1 hS, rfl, v, _, _, _, _, rfl, .ty _, (hst.go s1).tyx, kit_tuple st, _, rfl, ?_⟩
        rcases (hst.go s1).tupOr with ⟨c, xs, ss, rfl, rfl, hS2, hA⟩ | no
        · refine ite2 (fun y => absurd y (by simp [isTup])) (fun _ => ?_)
          have ln := hA.len
          refine ⟨_, rfl, a, _, 1, _, rfl, rfl, same_tup s1 hS, rfl, c, xs, rfl, .inr hS2, _, _, rfl, rfl, _, rfl, ?_⟩
          by_cases zt : tupD 1 4 (.tuple ss) = true
          · have z2 := zt
            rw [tupD, Bool.and_eq_true, decide_eq_true_eq, decide_eq_true_eq] at z2
            have e1 : (1 : Int) ≤ (ss.length : Int) := z2.1
            have e4 : (ss.length : Int) ≤ 4 := z2.2
            rw [ln]
            refine ite2 (fun _ => ?_) (fun y => absurd (decide_eq_true e1) y)
            refine ⟨_, _, rfl, rfl, _, rfl, ?_⟩
            refine ite2 (fun y => absurd y (by rw [decide_eq_true e4]; decide)) (fun _ => ?_)
            have rt : rulD (.tuple [.str w1, .tuple ss]) = ss.all (wayR w1.length (ss.length : Int)) := by
              rw [rul_form, zl, zt]
              rfl
            have bad : ∀ H', Same H H' → (∃ e ∈ ss, wayR w1.length (ss.length : Int) e = false) → Q (.bl false) H' := fun H' s' ⟨e, he, f⟩ => by
              have q1 := q H' s'
              have no : ss.all (wayR w1.length (ss.length : Int)) = false := by
                cases ea : ss.all (wayR w1.length (ss.length : Int)) with
                | false => rfl
                | true => exact absurd (List.all_eq_true.mp ea e he) (by rw [f]; decide)
              rw [rt, no] at q1
              exact q1
            refine ⟨_, rfl, a, _, 1, _, rfl, rfl, same_tup s1 hS, rfl, c, rfl, ⟨xs, hS2⟩, ?_⟩
            refine for_it (walk_tup (K := K) (a := c) (xs := xs)) (fun i σ H' => ∃ v1 v2, σ = [some (.ref a), v1, v2, none] ∧ Same H1 H' ∧ (∀ e ∈ ss.take i, wayR w1.length (ss.length : Int) e = true)) ⟨_, _, rfl, Same.refl H1, by simp⟩ (fun _ σ H' _ h => by obtain ⟨_, _, _, sm, _⟩ := h; exact same_tup sm hS2) ?_ ?_
            · rintro i u2 σ H' H2 hi ⟨v1, v2, rfl, sm, al⟩ ⟨rfl, hu2⟩
              obtain ⟨e, he, re⟩ := hA.at hu2
              have me := List.mem_of_getElem? he
              refine ⟨_, rfl, u2, _, _, _, _, rfl, .ty _, (re.go sm).tyx, kit_tuple e, _, rfl, ?_⟩
              rcases re.tupOr with ⟨a2, ys, es, rfl, rfl, hS3, hA3⟩ | no
              · refine ite2 (fun y => absurd y (by simp [isTup])) (fun _ => ?_)
                refine ⟨_, rfl, a2, ys, rfl, .inr (same_tup sm hS3), _, rfl, a, _, 0, _, rfl, rfl, same_tup (s1.trans sm) hS, rfl, w1, rfl, hw, rfl, ?_⟩
                rw [hA3.len]
                by_cases l2 : es.length = w1.length
                · have tt : tupD (w1.length : Int) (w1.length : Int) (.tuple es) = true := by
                    rw [tupD, l2, decide_eq_true (Int.le_refl _)]
                    rfl
                  have wy : wayR w1.length (ss.length : Int) (.tuple es) = wayD (ss.length : Int) (.tuple es) := by
                    rw [wayR, tt, Bool.true_and]
                  refine ⟨_, rfl, ite2 (fun y => absurd y (by rw [l2]; simp)) (fun _ => ?_)⟩
                  have s3 : Same H1 H2 := sm
                  have hT3 := same_tup sm hS3
                  refine ⟨_, rfl, a2, rfl, ⟨ys, hT3⟩, fun D nD => ?_⟩
                  refine lc_tupO (xs := ys) (fun j H' => Same H2 H' ∧ H' D = some (.lst ((ys.take j).filter someV))) ⟨same_upd nD, upd_same⟩ (fun i H' h => same_tup h.1 hT3) ?_ ?_
                  · rintro j u3 H' hu ⟨sm2, hD⟩
                    refine ⟨rfl, ?_⟩
                    refine ⟨_, rfl, rfl, _, rfl, ite2 (fun z => ?_) (fun z => ?_)⟩
                    · refine ⟨_, rfl, _, hD, ?_, same_new sm2 nD, ?_⟩
                      · have h1 := List.length_filter_le someV (ys.take j)
                        have h2 := List.length_take_le' j ys
                        have h3 := hA3.len
                        exact Nat.lt_of_le_of_lt (show _ ≤ 1000 by omega) (by decide)
                      · rw [upd_same, List.take_succ, hu, List.filter_append]
                        show _ = some (HO.lst (_ ++ [u3].filter someV))
                        rw [List.filter_cons, someV_eq, z]
                        rfl
                    · refine ⟨sm2, ?_⟩
                      rw [hD, List.take_succ, hu, List.filter_append]
                      show _ = some (HO.lst (_ ++ [u3].filter someV))
                      rw [List.filter_cons, someV_eq, eq_false_of_ne_true z]
                      simp
                  · rintro H3 ⟨sm2, hD⟩
                    rw [List.take_length] at hD
                    have hF := hA3.some
                    have hl2 : (es.filter someD).length ≤ 1000 := Nat.le_trans (List.length_filter_le _ _) (by omega)
                    have s4 := sm.trans sm2
                    refine ⟨_, rfl, (by show 0 ≤ sizeLine; decide), fun L nL => ?_⟩
                    have xL := same_upd (o := HO.lst []) nL
                    refine ⟨D, L, _, rfl, rfl, SqL.of (xL _ _ hD), SqL.of upd_same, _, rfl, ?_⟩
                    rw [hF.len]
                    have hDL := xL _ _ hD
                    have s5 := s4.trans xL
                    by_cases zf : (es.filter someD).length = 0
                    · rw [decide_eq_true zf]
                      refine ite2 (fun _ => bad _ (s1.trans s5) ⟨_, me, ?_⟩) (fun u => absurd rfl u)
                      rw [wy, wayD, zf]
                      rfl
                    · rw [decide_eq_false zf]
                      refine ite2 (fun u => absurd u (by decide)) (fun _ => ?_)
                      have wz : wayD (ss.length : Int) (.tuple es) = (es.filter someD).all (betD 0 ((ss.length : Int) - 1)) := by
                        rw [wayD, decide_eq_true (show (0 : Int) < ((es.filter someD).length : Int) by omega), Bool.true_and]
                      refine ⟨_, rfl, D, rfl, ⟨_, SqL.of hDL⟩, fun D2 nD2 => ?_⟩
                      refine lc_lstO (xs := ys.filter someV) (fun j H2 => (Same H1 H2 ∧ Same (upd H3 L (.lst [])) H2) ∧ H2 D2 = some (.lst ((((es.filter someD).take j).map (betD 0 ((ss.length : Int) - 1))).map V.bl))) ⟨⟨s5.trans (same_upd nD2), same_upd nD2⟩, upd_same⟩ (fun i H2 h => h.1.2.seq (SqL.of hDL)) ?_ ?_
                      · rintro j u4 H4 hu4 ⟨⟨s6, s7⟩, hD2⟩
                        obtain ⟨e4, he4, re4⟩ := hF.at hu4
                        refine ⟨rfl, ?_⟩
                        refine ⟨_, rfl, _, rfl, a, _, 1, _, rfl, rfl, same_tup (s1.trans s6) hS, rfl, c, xs, rfl, .inr (same_tup s6 hS2), _, _, rfl, rfl, u4, e4, _, _, rfl, re4.go s6, _, hD2, ?_, ⟨s5.trans (same_new s7 nD2), same_new s7 nD2⟩, ?_⟩
                        · rw [List.length_map, List.length_map]
                          have := List.length_take_le' j (es.filter someD)
                          exact Nat.lt_of_le_of_lt (show _ ≤ 1000 by omega) (by decide)
                        · rw [upd_same, take_all he4, List.map_append, ln]
                          rfl
                      · rintro H4 ⟨⟨s6, s7⟩, hD2⟩
                        rw [hF.len, List.take_length] at hD2
                        refine ⟨D2, _, rfl, .inl (SqL.of hD2), rfl, flats_bools _, _, rfl, ?_⟩
                        rw [if_neg (by decide), inV_bools, all_map, ← wz, ← wy]
                        by_cases ok : wayR w1.length (ss.length : Int) (.tuple es) = true
                        · rw [ok]
                          refine ite2 (fun u => absurd u (by decide)) (fun _ => ⟨_, _, rfl, s6, fun x hx => ?_⟩)
                          rw [List.take_succ, he] at hx
                          rcases List.mem_append.mp hx with h | h
                          · exact al x h
                          · rw [Option.toList_some, List.mem_singleton] at h
                            rw [h]
                            exact ok
                        · rw [eq_false_of_ne_true ok]
                          exact ite2 (fun _ => bad _ (s1.trans s6) ⟨_, me, eq_false_of_ne_true ok⟩) (fun u => absurd rfl u)
                · have wn : wayR w1.length (ss.length : Int) (.tuple es) = false := by
                    have : tupD (w1.length : Int) (w1.length : Int) (.tuple es) = false := by
                      cases ea : tupD (w1.length : Int) (w1.length : Int) (.tuple es) with
                      | false => rfl
                      | true =>
                        rw [tupD, Bool.and_eq_true, decide_eq_true_eq, decide_eq_true_eq] at ea
                        omega
                    rw [wayR, this, Bool.false_and]
                  refine ⟨_, rfl, ite2 (fun _ => bad _ (s1.trans sm) ⟨_, me, wn⟩) (fun y => absurd ?_ y)⟩
                  rw [decide_eq_false (fun e => l2 (by have := V.int.inj e; omega))]
                  rfl
              · have wn : wayR w1.length (ss.length : Int) e = false := by
                  have : tupD (w1.length : Int) (w1.length : Int) e = false := by
                    cases e with
                    | tuple ds => cases no
                    | _ => rfl
                  rw [wayR, this, Bool.false_and]
                exact ite2 (fun _ => bad _ (s1.trans sm) ⟨_, me, wn⟩) (fun y => absurd (by rw [no]; rfl) y)
            · rintro σ H' ⟨v3, v4, rfl, sm, al⟩
              have q1 := q H' (s1.trans sm)
              rw [ln, List.take_length] at al
              rw [rt, List.all_eq_true.mpr al] at q1
              exact q1
          · have q1 := bad0 H1 s1 (by rw [eq_false_of_ne_true zt, Bool.and_false])
            rw [ln]
            refine ite2 (fun y => ?_) (fun y => ?_)
            · refine ⟨_, _, rfl, rfl, _, rfl, ?_⟩
              refine ite2 (fun _ => q1) (fun z3 => absurd ?_ z3)
              have y1 := of_decide_eq_true y
              rw [decide_eq_false fun y2 => zt (by rw [tupD, decide_eq_true (show (1 : Int) ≤ (ss.length : Int) from y1), decide_eq_true (show (ss.length : Int) ≤ 4 from y2)]; rfl)]
              rfl
            · exact ⟨_, rfl, ite2 (fun _ => q1) (fun u => absurd rfl u)⟩
        · have z4 : tupD 1 4 st = false := by
            cases st with
            | tuple ds => cases no
            | _ => rfl
          have q1 := bad0 H1 s1 (by rw [z4, Bool.and_false])
          exact ite2 (fun _ => q1) (fun y => absurd (by rw [no]; rfl) y)
      · refine ite2 (fun _ => ?_) (fun u => absurd (by rw [eq_false_of_ne_true zl]; rfl) u)
        exact bad0 H1 s1 (by rw [eq_false_of_ne_true zl, Bool.false_and])
    · rw [rulD_not y] at q0
      rcases hd.tupOr with ⟨a, xs, ds, rfl, rfl, hS, hA⟩ | no
      · refine ite2 (fun y => absurd y (by simp [isTup])) (fun _ => ?_)
        refine ⟨_, rfl, a, xs, rfl, .inr hS, rfl, _, rfl, ?_⟩
        rw [hA.len]
        refine ite2 (fun _ => q0) (fun z => absurd ?_ z)
        rw [decide_eq_false fun e => y (by have := V.int.inj e; rw [tupD, show (ds.length : Int) = 2 from this]; rfl)]
        rfl
      · exact ite2 (fun _ => q0) (fun y => absurd (by rw [no]; rfl) y)
end
end My
/-! ### data that is bent -/
namespace My
open PySem PySem.Spec PyProof.Rows L2
mutual
/-- ints below 10 ** B, small letters, no dict but {} -/
def lf (B : Nat) : PyData → Bool
  | .int i => decide (i.natAbs < 10 ^ B)
  | .str z => z.cps.toList.all fun c => decide (c ≤ 1000)
  | .tuple ds => lfs B ds
  | .list ds => lfs B ds
  | .dict ds => ds.isEmpty
  | .none => true
  | .bool _ => true
def lfs (B : Nat) : List PyData → Bool
  | [] => true
  | x :: xs => lf B x && lfs B xs
end
mutual
theorem lf_sd : ∀ d : PyData, lf 39 d = true → d.showable = true ∧ d.leavesShort 40 = true
  | .none, _ => ⟨rfl, rfl⟩
  | .bool _, _ => ⟨rfl, rfl⟩
  | .int i, h => by
    rw [lf, decide_eq_true_eq] at h
    have := sd_int h
    exact ⟨this.sh, this.lv⟩
  | .str z, h => by
    rw [lf, List.all_eq_true] at h
    have := sd_str (z := z) (n := z.length) (fun c hc => of_decide_eq_true (h c hc)) (Nat.le_refl _)
    exact ⟨this.sh, this.lv⟩
  | .tuple ds, h => by
    rw [lf] at h
    have := lfs_sd ds h
    exact ⟨by rw [PyData.showable]; exact this.1, by rw [PyData.leavesShort]; exact this.2⟩
  | .list ds, h => by
    rw [lf] at h
    have := lfs_sd ds h
    exact ⟨by rw [PyData.showable]; exact this.1, by rw [PyData.leavesShort]; exact this.2⟩
  | .dict ds, h => by
    rw [lf] at h
    cases ds with
    | nil => exact ⟨rfl, rfl⟩
    | cons a b => cases h
theorem lfs_sd : ∀ ds : List PyData, lfs 39 ds = true → PyData.showableAll ds = true ∧ PyData.leavesShortAll 40 ds = true
  | [], _ => ⟨rfl, rfl⟩
  | x :: xs, h => by
    rw [lfs, Bool.and_eq_true] at h
    have h1 := lf_sd x h.1
    have h2 := lfs_sd xs h.2
    exact ⟨by rw [PyData.showableAll, h1.1, h2.1]; rfl, by rw [PyData.leavesShortAll, h1.2, h2.2]; rfl⟩
end
mutual
theorem lf_mono : ∀ d : PyData, lf 38 d = true → lf 39 d = true
  | .none, _ => rfl
  | .bool _, _ => rfl
  | .int i, h => by
    rw [lf, decide_eq_true_eq] at h ⊢
    exact Nat.lt_trans h (by decide)
  | .str z, h => by
    rw [lf] at h ⊢
    exact h
  | .tuple ds, h => by
    rw [lf] at h ⊢
    exact lfs_mono ds h
  | .list ds, h => by
    rw [lf] at h ⊢
    exact lfs_mono ds h
  | .dict ds, h => by
    rw [lf] at h ⊢
    exact h
theorem lfs_mono : ∀ ds : List PyData, lfs 38 ds = true → lfs 39 ds = true
  | [], _ => rfl
  | x :: xs, h => by
    rw [lfs, Bool.and_eq_true] at h ⊢
    exact ⟨lf_mono x h.1, lfs_mono xs h.2⟩
end
theorem lfs_all {B : Nat} : ∀ ds : List PyData, lfs B ds = true ↔ ∀ d ∈ ds, lf B d = true
  | [] => by simp [lfs]
  | x :: xs => by
    rw [lfs, Bool.and_eq_true, lfs_all xs]
    simp
theorem nl_all : ∀ ds : List PyData, noLists ds = true ↔ ∀ d ∈ ds, noList d = true
  | [] => by simp [noLists]
  | x :: xs => by
    rw [noLists, Bool.and_eq_true, nl_all xs]
    simp
theorem nd_all : ∀ ds : List PyData, PyData.hasDictAll ds = false ↔ ∀ d ∈ ds, d.hasDict = false
  | [] => by simp [PyData.hasDictAll]
  | x :: xs => by
    rw [PyData.hasDictAll, Bool.or_eq_false_iff, nd_all xs]
    simp
theorem dp_all {D : Nat} : ∀ ds : List PyData, PyData.depthAll ds ≤ D ↔ ∀ d ∈ ds, d.depth ≤ D
  | [] => by simp [PyData.depthAll]
  | x :: xs => by
    rw [PyData.depthAll, Nat.max_le, dp_all xs]
    simp
theorem wt_app : ∀ a b : List PyData, PyData.weightAll (a ++ b) = PyData.weightAll a + PyData.weightAll b
  | [], b => by simp [PyData.weightAll]
  | x :: a, b => by
    rw [List.cons_append, PyData.weightAll, PyData.weightAll, wt_app a b]
    omega
theorem wt_rev : ∀ a : List PyData, PyData.weightAll a.reverse = PyData.weightAll a
  | [] => rfl
  | x :: a => by
    rw [List.reverse_cons, wt_app, wt_rev a, PyData.weightAll, PyData.weightAll, PyData.weightAll]
    omega
theorem wt_cut (ds : List PyData) (k : Nat) : PyData.weightAll (ds.take k) + PyData.weightAll (ds.drop k) = PyData.weightAll ds := by
  rw [← wt_app, List.take_append_drop]
theorem wt_at {ds : List PyData} {k : Nat} {e : PyData} (h : ds[k]? = some e) : PyData.weightAll (ds.take k) + (e.weight + 1) + PyData.weightAll (ds.drop (k + 1)) = PyData.weightAll ds := by
  obtain ⟨hk, he⟩ := List.getElem?_eq_some_iff.mp h
  have := wt_cut ds k
  rw [List.drop_eq_getElem_cons hk, he, PyData.weightAll] at this
  omega
/-- what may be bent -/
structure In (d : PyData) : Prop where
  lf : lf 38 d = true
  nl : noList d = true
  nd : d.hasDict = false
/-- what comes of it -/
structure Ob (D W : Nat) (d : PyData) : Prop where
  lf : lf 39 d = true
  dp : d.depth ≤ D
  wt : d.weight ≤ W
  no : noList d = true ∨ d.hasDict = false
theorem Ob.mono {D W D' W' : Nat} {d : PyData} (h : Ob D W d) (a : D ≤ D') (b : W ≤ W') : Ob D' W' d := ⟨h.lf, Nat.le_trans h.dp a, Nat.le_trans h.wt b, h.no⟩
theorem Ob.sd {D W : Nat} {d : PyData} (h : Ob D W d) : Sd D W d := ⟨(lf_sd d h.lf).1, h.dp, (lf_sd d h.lf).2, h.wt⟩
theorem In.ob {d : PyData} (h : In d) : Ob d.depth d.weight d := ⟨lf_mono d h.lf, Nat.le_refl _, Nat.le_refl _, .inl h.nl⟩
def obB (D W : Nat) (d : PyData) : Bool := lf 39 d && (decide (d.depth ≤ D) && (decide (d.weight ≤ W) && (noList d || !d.hasDict)))
theorem obB_ob {D W : Nat} {d : PyData} (h : obB D W d = true) : Ob D W d := by
  rw [obB, Bool.and_eq_true, Bool.and_eq_true, Bool.and_eq_true, decide_eq_true_eq, decide_eq_true_eq, Bool.or_eq_true] at h
  refine ⟨h.1, h.2.1, h.2.2.1, h.2.2.2.imp id fun e => ?_⟩
  cases q : d.hasDict with
  | false => rfl
  | true =>
    rw [q] at e
    cases e
theorem in_tup {ds : List PyData} (h : In (.tuple ds)) : ∀ d ∈ ds, In d := fun d hd => by
  have h1 := h.lf
  rw [My.lf, lfs_all] at h1
  have h2 := h.nl
  rw [noList, nl_all] at h2
  have h3 := h.nd
  rw [PyData.hasDict, nd_all] at h3
  exact ⟨h1 d hd, h2 d hd, h3 d hd⟩
theorem ob_tup {D W : Nat} {ds : List PyData} (h : ∀ d ∈ ds, In d ∧ d.depth ≤ D) (w : PyData.weightAll ds ≤ W) : Ob (D + 1) W (.tuple ds) := by
  refine ⟨?_, ?_, ?_, .inl ?_⟩
  · rw [My.lf, lfs_all]
    exact fun d hd => lf_mono d (h d hd).1.lf
  · rw [PyData.depth]
    exact Nat.succ_le_succ ((dp_all ds).mpr fun d hd => (h d hd).2)
  · rw [PyData.weight]
    exact w
  · rw [noList, nl_all]
    exact fun d hd => (h d hd).1.nl
theorem ob_lst {D W : Nat} {ds : List PyData} (h : ∀ d ∈ ds, In d ∧ d.depth ≤ D) (w : PyData.weightAll ds ≤ W) : Ob (D + 1) W (.list ds) := by
  refine ⟨?_, ?_, ?_, .inr ?_⟩
  · rw [My.lf, lfs_all]
    exact fun d hd => lf_mono d (h d hd).1.lf
  · rw [PyData.depth]
    exact Nat.succ_le_succ ((dp_all ds).mpr fun d hd => (h d hd).2)
  · rw [PyData.weight]
    exact w
  · rw [PyData.hasDict, nd_all]
    exact fun d hd => (h d hd).1.nd
theorem ob_rep {D : Nat} {ds : List PyData} {k : Nat} {e b : PyData} (h : ∀ d ∈ ds, In d ∧ d.depth ≤ D) (hk : ds[k]? = some e) (hb : Ob (D + 2) (2 * e.weight + 200) b) : Ob (D + 3) (2 * PyData.weightAll ds + 200) (.tuple (ds.take k ++ b :: ds.drop (k + 1))) := by
  have mem : ∀ d ∈ ds.take k ++ b :: ds.drop (k + 1), d = b ∨ (In d ∧ d.depth ≤ D) := fun d hd => by
    rcases List.mem_append.mp hd with m | m
    · exact .inr (h d (List.mem_of_mem_take m))
    · rcases List.mem_cons.mp m with m | m
      · exact .inl m
      · exact .inr (h d (List.mem_of_mem_drop m))
  refine ⟨?_, ?_, ?_, ?_⟩
  · rw [My.lf, lfs_all]
    intro d hd
    rcases mem d hd with rfl | m
    · exact hb.lf
    · exact lf_mono d m.1.lf
  · rw [PyData.depth]
    refine Nat.succ_le_succ ((dp_all _).mpr fun d hd => ?_)
    rcases mem d hd with rfl | m
    · exact hb.dp
    · have := m.2
      omega
  · rw [PyData.weight, wt_app, PyData.weightAll]
    have := wt_at hk
    have := hb.wt
    omega
  · refine hb.no.imp (fun z => ?_) fun z => ?_
    · rw [noList, nl_all]
      intro d hd
      rcases mem d hd with rfl | m
      · exact z
      · exact m.1.nl
    · rw [PyData.hasDict, nd_all]
      intro d hd
      rcases mem d hd with rfl | m
      · exact z
      · exact m.1.nd
/-! data of tuples, that stays while tuples stay -/
def ButT (H H' : Hp) : Prop := ∀ b xs, H b = some (.tup xs) → H' b = some (.tup xs)
theorem ButT.trans {H H1 H2 : Hp} (a : ButT H H1) (b : ButT H1 H2) : ButT H H2 := fun c xs e => b c xs (a c xs e)
theorem ButT.refl (H : Hp) : ButT H H := fun _ _ e => e
theorem butT_same {H H' : Hp} (s : Same H H') : ButT H H' := fun b xs e => s b _ e
theorem butT_but {p : Addr} {n : Nat} {H H' : Hp} (h : Pen H p n) (s : But p H H') : ButT H H' := fun b xs e => by
  obtain ⟨ys, hp⟩ := h.ls
  exact s b _ (ne_of e hp (by intro z; cases z)) e
theorem butT_lst {S : Addr} {ys : List V} {o : HO} {H : Hp} (h : H S = some (.lst ys)) : ButT H (upd H S o) := fun b xs e => by
  rw [upd_ne (ne_of e h (by intro z; cases z))]
  exact e
mutual
inductive Rt (H : Hp) : V → PyData → Prop
  | non : Rt H .non .none
  | bl (b : Bool) : Rt H (.bl b) (.bool b)
  | int (i : Int) : Rt H (.int i) (.int i)
  | str (z : Str) (h : z.length ≤ sizeLine) : Rt H (.str z) (.str z)
  | tup {a : Addr} {xs : List V} {ds : List PyData} (h : H a = some (.tup xs)) (t : RtAll H xs ds) : Rt H (.ref a) (.tuple ds)
inductive RtAll (H : Hp) : List V → List PyData → Prop
  | nil : RtAll H [] []
  | cons {v : V} {d : PyData} {vs : List V} {ds : List PyData} (h : Rt H v d) (t : RtAll H vs ds) : RtAll H (v :: vs) (d :: ds)
end
mutual
theorem Rt.go {H H' : Hp} (s : ButT H H') : ∀ {v : V} {d : PyData}, Rt H v d → Rt H' v d
  | _, _, .non => .non
  | _, _, .bl b => .bl b
  | _, _, .int i => .int i
  | _, _, .str z h => .str z h
  | _, _, .tup h t => .tup (s _ _ h) (RtAll.go s t)
theorem RtAll.go {H H' : Hp} (s : ButT H H') : ∀ {vs : List V} {ds : List PyData}, RtAll H vs ds → RtAll H' vs ds
  | _, _, .nil => .nil
  | _, _, .cons h t => .cons (Rt.go s h) (RtAll.go s t)
end
mutual
theorem Rt.rp {K : PySem.W.Frag} {H : Hp} : ∀ {v : V} {d : PyData}, Rt H v d → Rp K H v d
  | _, _, .non => .non
  | _, _, .bl b => .bl b
  | _, _, .int i => .int i
  | _, _, .str z h => .str z h
  | _, _, .tup h t => .tup (SqT.of h) (RtAll.rp t)
theorem RtAll.rp {K : PySem.W.Frag} {H : Hp} : ∀ {vs : List V} {ds : List PyData}, RtAll H vs ds → RpAll K H vs ds
  | _, _, .nil => .nil
  | _, _, .cons h t => .cons (Rt.rp h) (RtAll.rp t)
end
mutual
theorem Rt.no {H : Hp} : ∀ {v : V} {d : PyData}, Rt H v d → noList d = true ∧ d.hasDict = false
  | _, _, .non => ⟨rfl, by simp [PyData.hasDict]⟩
  | _, _, .bl b => ⟨rfl, by simp [PyData.hasDict]⟩
  | _, _, .int i => ⟨rfl, by simp [PyData.hasDict]⟩
  | _, _, .str z h => ⟨rfl, by simp [PyData.hasDict]⟩
  | _, _, .tup h t => by
    rw [noList, PyData.hasDict]
    exact RtAll.no t
theorem RtAll.no {H : Hp} : ∀ {vs : List V} {ds : List PyData}, RtAll H vs ds → noLists ds = true ∧ PyData.hasDictAll ds = false
  | _, _, .nil => ⟨rfl, by simp [PyData.hasDictAll]⟩
  | _, _, .cons h t => by
    have h1 := Rt.no h
    have h2 := RtAll.no t
    rw [noLists, PyData.hasDictAll, h1.1, h1.2, h2.1, h2.2]
    exact ⟨rfl, rfl⟩
end
theorem Rt.in {H : Hp} {v : V} {d : PyData} (h : Rt H v d) (l : lf 38 d = true) : In d := ⟨l, h.no.1, h.no.2⟩
theorem RtAll.len {H : Hp} : ∀ {vs : List V} {ds : List PyData}, RtAll H vs ds → vs.length = ds.length
  | _, _, .nil => rfl
  | _, _, .cons _ t => by rw [List.length_cons, List.length_cons, t.len]
theorem RtAll.at {H : Hp} : ∀ {vs : List V} {ds : List PyData}, RtAll H vs ds → ∀ {i : Nat} {v : V}, vs[i]? = some v → ∃ d, ds[i]? = some d ∧ Rt H v d
  | _, _, .nil, _, _, e => by simp at e
  | _, _, .cons h t, 0, _, e => by
    cases e
    exact ⟨_, rfl, h⟩
  | _, _, .cons h t, i + 1, _, e => t.at (by simpa using e)
theorem RtAll.app {H : Hp} : ∀ {vs us : List V} {ds es : List PyData}, RtAll H vs ds → RtAll H us es → RtAll H (vs ++ us) (ds ++ es)
  | _, _, _, _, .nil, h => h
  | _, _, _, _, .cons a t, h => .cons a (t.app h)
theorem rtAll_of {H : Hp} {α : Type} {f : α → V} {g : α → PyData} : ∀ {l : List α}, (∀ a ∈ l, Rt H (f a) (g a)) → RtAll H (l.map f) (l.map g)
  | [], _ => .nil
  | a :: l, h => .cons (h a (.head _)) (rtAll_of fun b hb => h b (.tail _ hb))
theorem rtAll_rep {H : Hp} {v : V} {d : PyData} (h : Rt H v d) : ∀ n, RtAll H (List.replicate n v) (List.replicate n d)
  | 0 => .nil
  | n + 1 => .cons h (rtAll_rep h n)
theorem Rt.rs {p : Addr} {K : PySem.W.Frag} {H : Hp} {n : Nat} {x : V} {d : PyData} (h : Rt H x d) (hp : Pen H p n) : Rs p K H x d := fun H' b => by
  refine (h.go fun c xs e => b c _ ?_ e fun _ z => nomatch z).rp
  obtain ⟨ys, hp⟩ := hp.ls
  exact ne_of e hp (by intro z; cases z)
theorem RpAll.app {K : PySem.W.Frag} {H : Hp} : ∀ {vs us : List V} {ds es : List PyData}, RpAll K H vs ds → RpAll K H us es → RpAll K H (vs ++ us) (ds ++ es)
  | _, _, _, _, .nil, h => h
  | _, _, _, _, .cons a t, h => .cons a (t.app h)
theorem RpAll.drop {K : PySem.W.Frag} {H : Hp} : ∀ {vs : List V} {ds : List PyData} (i : Nat), RpAll K H vs ds → RpAll K H (vs.drop i) (ds.drop i)
  | _, _, 0, h => h
  | _, _, _ + 1, .nil => .nil
  | _, _, i + 1, .cons h t => RpAll.drop i t
theorem RpAll.rev {K : PySem.W.Frag} {H : Hp} : ∀ {vs : List V} {ds : List PyData}, RpAll K H vs ds → RpAll K H vs.reverse ds.reverse
  | _, _, .nil => .nil
  | _, _, .cons h t => by
    rw [List.reverse_cons, List.reverse_cons]
    exact t.rev.app (.cons h .nil)
theorem PenC.same {p c : Addr} {n : Nat} {H H' : Hp} (h : PenC H p c n) (s : Same H H') : PenC H' p c n := h.keep (fun o e => s _ _ e) (fun o e => s _ _ e)
theorem ob_int {i : Int} (h : i.natAbs < 10 ^ 39) : Ob 0 200 (.int i) := by
  refine ⟨?_, Nat.le_refl _, ?_, .inl rfl⟩
  · rw [My.lf]
    exact decide_eq_true h
  · exact Nat.le_trans (sd_int h).wt (by decide)
theorem cut_drop (xs : List V) (i : Nat) (h : i ≤ xs.length) : cutV xs (some (i : Int)) none = xs.drop i := by
  show (xs.drop _).take _ = _
  rw [HT.sIx_nat, show HT.sIx xs.length xs.length none = xs.length from rfl, Nat.min_eq_left h]
  exact List.take_of_length_le (by rw [List.length_drop]; omega)
theorem cut_one (xs : List V) (i : Nat) (h : i + 1 ≤ xs.length) : cutV xs (some (i : Int)) (some ((i : Int) + 1)) = (xs.drop i).take 1 := by
  show (xs.drop _).take _ = _
  rw [show (i : Int) + 1 = ((i + 1 : Nat) : Int) by omega, HT.sIx_nat, HT.sIx_nat, Nat.min_eq_left h, Nat.min_eq_left (show i ≤ xs.length by omega)]
  congr 1
  omega
theorem cut_whole (xs : List V) {lo hi : Option Int} (h : HT.sIx xs.length 0 lo = 0 ∧ HT.sIx xs.length xs.length hi = xs.length) : cutV xs lo hi = xs := by
  unfold cutV
  rw [h.1, h.2, List.drop_zero]
  exact List.take_of_length_le (by omega)
theorem sl_any {K : PySem.W.Frag} {a : Addr} {xs : List V} {lo hi : Option Int} {H : Hp} {Q : VK} (hS : SqT K H a xs) (q : ∀ r H', Same H H' → SqT K H' r (cutV xs lo hi) → Q (.ref r) H') : rSlA K (.ref a) lo hi H Q :=
  ⟨a, xs, rfl, hS, fun w => q a H (Same.refl H) (by rw [cut_whole xs w]; exact hS), fun _ p hp => q p _ (same_upd hp) (SqT.of upd_same)⟩
theorem cat_any {K : PySem.W.Frag} {a b : Addr} {xs ys : List V} {H : Hp} {Q : VK} (ha : SqT K H a xs) (hb : SqT K H b ys) (hz : xs.length + ys.length ≤ sizeLine) (q : ∀ r H', Same H H' → SqT K H' r (xs ++ ys) → Q (.ref r) H') : rCatA K (.ref a) (.ref b) H Q :=
  ⟨a, b, xs, ys, rfl, rfl, ha, hb, hz, fun e => q b H (Same.refl H) (by rw [e]; exact hb), fun _ e => q a H (Same.refl H) (by rw [e, List.append_nil]; exact ha), fun _ _ p hp => q p _ (same_upd hp) (SqT.of upd_same)⟩
theorem sl_anyN {K : PySem.W.Frag} {a : Addr} {xs : List V} {lo : Option Int} {σ : L2.St} {H : Hp} {Q : VK} (hS : SqT K H a xs) (q : ∀ r H', Same H H' → SqT K H' r (cutV xs lo none) → Q (.ref r) H') : tNoPart σ H (fun u H3 => rSlA K (.ref a) lo u H3 Q) := sl_any (lo := lo) (hi := none) hS q
end My
/-! ### a value that is bent -/
namespace My
open PySem PySem.Spec PyProof.Rows L2
abbrev sXBent : Stmt := topS 35
theorem scXBent : FnScope ["pen", "value", "some", "k", "way", "bent", "twice", "other"] ["pen", "value"] (defScope sXBent) := ⟨rfl, rfl, rfl, by decide +kernel, rfl, by decide +kernel, by decide +kernel⟩
structure BentTxt (K : PySem.W.Frag) (mg : Str → Option Value) (xb : Addr) (yb : FuncData) : Prop where
  isi : mg "isinstance" = none
  int : mg "int" = none
  bool : mg "bool" = none
  str : mg "str" = none
  dict : mg "dict" = none
  tuple : mg "tuple" = none
  list : mg "list" = none
  len : mg "len" = none
  FXBent : Fun K "_law_x_bent" "_law_x_bent" sXBent xb yb
  bXBent : Binds K yb ["pen", "value"] []
  gXBent : mg "_law_x_bent" = some (.ref xb)
theorem kitA1 {K : PySem.W.Frag} (d : PyData) : PySem.W.kitAny K (.type (kindOf d)) [.type "bool", .type "str", .type "dict"] = some (isBool d || (isStr d || isDct d)) := by
  simp only [PySem.W.kitAny, kit_bool, kit_str, kit_dict]
  cases d <;> rfl
theorem kitA2 {K : PySem.W.Frag} (d : PyData) : PySem.W.kitAny K (.type (kindOf d)) [.type "int", .type "tuple", .type "list"] = some (isInt d || (isTup d || isLst d)) := by
  simp only [PySem.W.kitAny, kit_int, kit_tuple, kit_list]
  cases d <;> rfl
def someL : List PyData := [.none, .bool true, .bool false, .int 0, .int 1, .int (-1), .int 2, .str "a", .str "ba", .str "", .tuple [], .list [], .dict [], .tuple [.int 0], .tuple [.tuple [.int 0, .int 0]], .tuple [.int 0, .int 1], .int 21, .tuple [.none, .int 0]]
theorem someL_ob {d : PyData} (h : d ∈ someL) : Ob 2 60 d := obB_ob (List.all_eq_true.mp (by decide +kernel : someL.all (obB 2 60) = true) d h)
/-- at most 4 takes for each level -/
def spBent (K : PySem.W.Frag) (D : Nat) : Sp := fun vs H Q _ => ∃ (p : Addr) (n : Nat) (x : V) (d : PyData), vs = [.ref p, x] ∧ Pen H p n ∧ n + 4 * D < 1047500 ∧ Rt H x d ∧ In d ∧ d.depth < D ∧ PyData.weight d ≤ 50000 ∧
  ∀ (H' : Hp) (y : V) (e : PyData), But p H H' → Pen H' p (n + 4 * D) → Rp K H' y e → Ob (d.depth + 2) (2 * d.weight + 200) e → Q y H'
section
variable {P : Program} {w : World} {K : PySem.W.Frag} {mg : Str → Option Value} {base : Heap} {f1 f2 f3 f4 : Addr} {d1 d2 d3 d4 : FuncData} {xb : Addr} {yb : FuncData}
theorem ok_bent (TP : PenTxt K mg f1 f2 f3 f4 d1 d2 d3 d4) (T : BentTxt K mg xb yb) {k : Nat} : ∀ D, FnOk P w K mg base CX0 (k + 4 + D) xb yb ["pen", "value"] (spBent K D)
  | 0 => by
    refine T.FXBent.ok scXBent (fun vs H Q E h => ?_) (fun cdv A outer s H vs Q E hr h => ?_)
    · obtain ⟨p, n, x, d, rfl, _⟩ := h
      rfl
    · obtain ⟨p, n, x, d, rfl, _, _, _, _, hd, _⟩ := h
      exact absurd hd (Nat.not_lt_zero _)
  | D + 1 => by
    have GX : FnOk P w K mg base CX0 (k + 4 + D) xb yb ["pen", "value"] (spBent K D) := ok_bent TP T D
    have GT : FnOk P w K mg base CX0 (k + D + 4) f3 d3 ["pen", "many"] spTakeC := ok_takeC TP (k := k + D + 2)
    have GP : FnOk P w K mg base CX0 (k + D + 4) f4 d4 ["pen", "some"] (spPickC K) := ok_pickC TP (k := k + D + 1)
    rw [show k + D + 4 = k + 4 + D by omega] at GT GP
    refine T.FXBent.ok scXBent (fun vs H Q E h => ?_) (fun cdv A outer s H vs Q E hr h => ?_)
    · obtain ⟨p, n, x, d, rfl, _⟩ := h
      rfl
    · obtain ⟨p, n, x, d, rfl, hP, hn, hx, hin, hdp, hwt, q⟩ := h
      refine ⟨_, (Evl.pss_cut (ps_set (i := 2) scXBent.nd rfl (.inl rfl) (pe_lst (pa_cons pe_non (pa_cons pe_bl (pa_cons pe_bl (pa_cons pe_int (pa_cons pe_int (pa_cons (pe_un un_neg pe_int) (pa_cons pe_int (pa_cons pe_str (pa_cons pe_str (pa_cons pe_str (pa_cons (pe_tup pa_nil) (pa_cons (pe_lst pa_nil) (pa_cons pe_dnewK (pa_cons (pe_tup (pa_cons pe_int pa_nil)) (pa_cons (pe_tup (pa_cons (pe_tup (pa_cons pe_int (pa_cons pe_int pa_nil))) pa_nil)) (pa_cons (pe_tup (pa_cons pe_int (pa_cons pe_int pa_nil))) (pa_cons pe_int (pa_cons (pe_tup (pa_cons pe_non (pa_cons pe_int pa_nil))) pa_nil))))))))))))))))))))
 (pss_cons (ps_if (PW.pt (pw_or (pt_val (pe_callB call_isiT (by rfl) T.isi (by decide +kernel) (pa_cons (pv 1) (pa_cons (pe_tup (pa_cons (pe_bltn (v := .ty "bool") (by rfl) T.bool (by decide +kernel) rfl) (pa_cons (pe_bltn (v := .ty "str") (by rfl) T.str (by decide +kernel) rfl) (pa_cons (pe_bltn (v := .ty "dict") (by rfl) T.dict (by decide +kernel) rfl) pa_nil)))) pa_nil)))) (pw_or (pt_not (pt_val (pe_callB call_isiT (by rfl) T.isi (by decide +kernel) (pa_cons (pv 1) (pa_cons (pe_tup (pa_cons (pe_bltn (v := .ty "int") (by rfl) T.int (by decide +kernel) rfl) (pa_cons (pe_bltn (v := .ty "tuple") (by rfl) T.tuple (by decide +kernel) rfl) (pa_cons (pe_bltn (v := .ty "list") (by rfl) T.list (by decide +kernel) rfl) pa_nil)))) pa_nil))))) (pw_or1 (pt_cmpR op_eq (pe_call GT hr (by rfl) TP.gTake TP.FTake.kp TP.bTake .nil pass0 (pa_cons (pv 0) (pa_cons pe_int pa_nil))) pe_int (nomark _)))))) (pss_one (ps_ret (pe_call GP hr (by rfl) TP.gPick TP.FPick.kp TP.bPick .nil pass0 (pa_cons (pv 0) (pa_cons (pv 2) pa_nil))))) pss_nil)
 (pss_cons (ps_if (pt_val (pe_callB call_isi (by rfl) T.isi (by decide +kernel) (pa_cons (pv 1) (pa_cons (pe_bltn (v := .ty "int") (by rfl) T.int (by decide +kernel) rfl) pa_nil)))) (pss_one (ps_ret (pe_call GP hr (by rfl) TP.gPick TP.FPick.kp TP.bPick .nil pass0 (pa_cons (pv 0) (pa_cons (pe_lst (pa_cons (pe_op op_add (pv 1) pe_int) (pa_cons (pe_op op_sub (pv 1) pe_int) (pa_cons (pe_ifExp (pt_chain op_le op_lt pe_int (pv 1) pe_int) (pe_cmpR op_eq (pv 1) pe_int (nomark _)) (pe_op op_add (pv 1) pe_int)) (pa_cons pe_non (pa_cons (pe_op op_pow pe_int pe_int) pa_nil)))))) pa_nil))))) pss_nil)
 (pss_cons (ps_if (pt_cmpR op_eq (pe_callB call_len_seq (by rfl) T.len PySem.boot_len (pa_cons (pv 1) pa_nil)) pe_int (nomark _)) (pss_one (ps_ret (pe_call GP hr (by rfl) TP.gPick TP.FPick.kp TP.bPick .nil pass0 (pa_cons (pv 0) (pa_cons (pv 2) pa_nil))))) pss_nil)
 (pss_cons (ps_par (i := 3) (j := 4) (by rfl) scXBent.nd rfl rfl (by decide) rfl rfl (pa_cons (pe_call GT hr (by rfl) TP.gTake TP.FTake.kp TP.bTake .nil pass0 (pa_cons (pv 0) (pa_cons (pe_callB call_len_seq (by rfl) T.len PySem.boot_len (pa_cons (pv 1) pa_nil)) pa_nil))) (pa_cons (pe_call GT hr (by rfl) TP.gTake TP.FTake.kp TP.bTake .nil pass0 (pa_cons (pv 0) (pa_cons pe_int pa_nil))) pa_nil)) (by rfl))
 (pss_cons (ps_if (pt_cmpR op_gt (pv 4) pe_int (nomark _)) (Evl.pss_cut (ps_set (i := 5) scXBent.nd rfl (.inl rfl) (pe_call GX hr (by rfl) T.gXBent T.FXBent.kp T.bXBent .nil pass0 (pa_cons (pv 0) (pa_cons (pe_ix ix_tup (pv 1) (pv 3) (fun _ _ => rfl)) pa_nil))))
 (pss_one (ps_ret (pe_op op_catA (pe_op op_catA (pe_slice sl_tupA (pv 1) po_none (po_some (pv 3))) (pe_ifExp (pt_val (pe_callB call_isi (by rfl) T.isi (by decide +kernel) (pa_cons (pv 1) (pa_cons (pe_bltn (v := .ty "list") (by rfl) T.list (by decide +kernel) rfl) pa_nil)))) (pe_lst (pa_cons (pv 5) pa_nil)) (pe_tup (pa_cons (pv 5) pa_nil)))) (pe_slice sl_tupA (pv 1) (po_some (pe_op op_add (pv 3) pe_int)) po_none))))) pss_nil)
 (pss_cons (ps_set (i := 6) scXBent.nd rfl (.inl rfl) (pe_op op_catA (pe_op op_catA (pe_slice sl_tupA (pv 1) po_none (po_some (pv 3))) (pe_slice sl_tupA (pv 1) (po_some (pv 3)) (po_some (pe_op op_add (pv 3) pe_int)))) (pe_slice sl_tupA (pv 1) (po_some (pv 3)) po_none)))
 (pss_cons (ps_set (i := 7) scXBent.nd rfl (.inl rfl) (pe_ifExp (pt_val (pe_callB call_isi (by rfl) T.isi (by decide +kernel) (pa_cons (pv 1) (pa_cons (pe_bltn (v := .ty "list") (by rfl) T.list (by decide +kernel) rfl) pa_nil)))) (pe_callTy call_tuple_of (by rfl) T.tuple (by decide +kernel) (pa_cons (pv 1) pa_nil)) (pe_callTy call_list_of (by rfl) T.list (by decide +kernel) (pa_cons (pv 1) pa_nil))))
 (pss_one (ps_ret (pe_ix ix_list (pe_lst (pa_cons (pe_op op_catA (pe_slice sl_tupA (pv 1) po_none (po_some (pv 3))) (pe_slice sl_tupA (pv 1) (po_some (pe_op op_add (pv 3) pe_int)) po_none)) (pa_cons (pv 6) (pa_cons (pv 7) (pa_cons (pe_revT (pv 1)) (pa_cons (pe_op op_catA (pv 1) (pv 1)) pa_nil)))))) (pv 4) (fun _ _ => rfl)))))))))))), ?_⟩
      obtain ⟨c, hPc⟩ := hP.at
      obtain ⟨_, _, _, hp0, hc0, ncp, _⟩ := hPc.ex
      refine ⟨fun σ H' => ∃ (S : Addr) (xs : List V), σ = [some (.ref p), some x, some (.ref S), none, none, none, none, none] ∧ Same H H' ∧ H' S = some (.lst xs) ∧ S ≠ p ∧ xs.length = 18 ∧ (∀ H2, But p H' H2 → RpAll K H2 xs someL), ?_, ?_⟩
      · refine ⟨_, rfl, (by show 0 ≤ sizeLine; decide), fun t1 h1 => ⟨(by show 0 ≤ sizeLine; decide), fun t2 h2 t3 h3 => ⟨(by show 1 ≤ sizeLine; decide), fun t4 h4 => ⟨(by show 2 ≤ sizeLine; decide), fun t5 h5 => ⟨(by show 1 ≤ sizeLine; decide), fun t6 h6 => ⟨(by show 2 ≤ sizeLine; decide), fun t7 h7 => ⟨(by show 2 ≤ sizeLine; decide), fun t8 h8 => ⟨(by show 18 ≤ sizeLine; decide), fun S hS => ?_⟩⟩⟩⟩⟩⟩⟩⟩
        have x1 := same_upd (o := HO.tup []) h1
        have x2 := same_upd (o := HO.lst []) h2
        have x3 := same_upd (o := HO.dK []) h3
        have x4 := same_upd (o := HO.tup [.int 0]) h4
        have x5 := same_upd (o := HO.tup [.int 0, .int 0]) h5
        have x6 := same_upd (o := HO.tup [.ref t5]) h6
        have x7 := same_upd (o := HO.tup [.int 0, .int 1]) h7
        have x8 := same_upd (o := HO.tup [.non, .int 0]) h8
        have x9 := same_upd (o := HO.lst [.non, .bl true, .bl false, .int 0, .int 1, .int (-1), .int 2, .str "a", .str "ba", .str "", .ref t1, .ref t2, .ref t3, .ref t4, .ref t6, .ref t7, .int 21, .ref t8]) hS
        have y8 := x8.trans x9
        have y7 := x7.trans y8
        have y6 := x6.trans y7
        have y5 := x5.trans y6
        have y4 := x4.trans y5
        have y3 := x3.trans y4
        have y2 := x2.trans y3
        have y1 := x1.trans y2
        have z1 := x1
        have z2 := z1.trans x2
        have z3 := z2.trans x3
        have z4 := z3.trans x4
        have z5 := z4.trans x5
        have z6 := z5.trans x6
        have z7 := z6.trans x7
        have z8 := z7.trans x8
        have n1 : t1 ≠ p := (ne_of_none hp0 h1).symm
        have n2 : t2 ≠ p := (ne_of_none (z1 _ _ hp0) h2).symm
        have n3 : t3 ≠ p := (ne_of_none (z2 _ _ hp0) h3).symm
        have n4 : t4 ≠ p := (ne_of_none (z3 _ _ hp0) h4).symm
        have n5 : t5 ≠ p := (ne_of_none (z4 _ _ hp0) h5).symm
        have n6 : t6 ≠ p := (ne_of_none (z5 _ _ hp0) h6).symm
        have n7 : t7 ≠ p := (ne_of_none (z6 _ _ hp0) h7).symm
        have n8 : t8 ≠ p := (ne_of_none (z7 _ _ hp0) h8).symm
        have n9 : S ≠ p := (ne_of_none (z8 _ _ hp0) hS).symm
        refine ⟨S, _, rfl, y1, upd_same, n9, rfl, fun H2 b => ?_⟩
        have c1 := b _ _ n1 (y2 _ _ upd_same)
        have c2 := b _ _ n2 (y3 _ _ upd_same)
        have c3 := b _ _ n3 (y4 _ _ upd_same)
        have c4 := b _ _ n4 (y5 _ _ upd_same)
        have c5 := b _ _ n5 (y6 _ _ upd_same)
        have c6 := b _ _ n6 (y7 _ _ upd_same)
        have c7 := b _ _ n7 (y8 _ _ upd_same)
        have c8 := b _ _ n8 (x9 _ _ upd_same)
        exact .cons .non (.cons (.bl _) (.cons (.bl _) (.cons (.int _) (.cons (.int _) (.cons (.int _) (.cons (.int _) (.cons (.str _ (by show 1 ≤ sizeLine; decide)) (.cons (.str _ (by show 2 ≤ sizeLine; decide)) (.cons (.str _ (by show 0 ≤ sizeLine; decide)) (.cons (.tup (SqT.of c1) .nil) (.cons (.lst (SqL.of c2) .nil) (.cons (.dct c3) (.cons (.tup (SqT.of c4) (.cons (.int _) .nil)) (.cons (.tup (SqT.of c6) (.cons (.tup (SqT.of c5) (.cons (.int _) (.cons (.int _) .nil))) .nil)) (.cons (.tup (SqT.of c7) (.cons (.int _) (.cons (.int _) .nil))) (.cons (.int _) (.cons (.tup (SqT.of c8) (.cons .non (.cons (.int _) .nil))) .nil)))))))))))))))))
      rintro σ H1 ⟨S, xs, rfl, s1, hS, nSp, lx, hL⟩
      have pick : ∀ (Hc : Hp) (j : Nat) (E' : XK), But p H1 Hc → PenC Hc p c (n + j) → j ≤ 3 → spPickC K [.ref p, .ref S] Hc Q E' := fun Hc j E' bc hPj lj => by
        refine ⟨p, c, S, xs, n + j, rfl, hPj, by omega, SqL.of (bc _ _ nSp hS), nSp, by omega, by omega, fun H2 m v b2 hP2 hm => ?_⟩
        have bb := bc.trans b2
        obtain ⟨e, he, re⟩ := (hL H2 bb).at hm
        exact q H2 v e ((But.of s1).trans bb) (hP2.mono (by omega)).pen re ((someL_ob (List.mem_of_getElem? he)).mono (by omega) (by omega))
      have hP1 : PenC H1 p c n := hPc.same s1
      refine ⟨_, rfl, (by show 3 ≤ sizeLine; decide), fun q1 e1 => ⟨x, q1, _, _, _, _, rfl, upd_same, .cons (.ty _) (.cons (.ty _) (.cons (.ty _) .nil)), ((hx.go (butT_same (s1.trans (same_upd e1)))).rp (K := K)).tyx, kitA1 d, _, rfl, ?_⟩⟩
      have sq := same_upd (o := HO.tup [.ty "bool", .ty "str", .ty "dict"]) e1
      cases hx with
      | bl b => exact ite2 (fun _ => ite2 (fun _ => ⟨_, rfl, _, rfl, pick _ 0 E0 (But.of sq) (hP1.same sq) (by omega)⟩) (fun u => absurd rfl u)) (fun u => absurd rfl u)
      | str z hz => exact ite2 (fun _ => ite2 (fun _ => ⟨_, rfl, _, rfl, pick _ 0 E0 (But.of sq) (hP1.same sq) (by omega)⟩) (fun u => absurd rfl u)) (fun u => absurd rfl u)
      | non =>
        refine ite2 (fun u => absurd u (by decide)) (fun _ => ?_)
        refine ⟨_, rfl, (by show 3 ≤ sizeLine; decide), fun q2 e2 => ⟨.non, q2, _, _, _, _, rfl, upd_same, .cons (.ty _) (.cons (.ty _) (.cons (.ty _) .nil)), (Rp.non (K := K)).tyx, kitA2 .none, _, rfl, ?_⟩⟩
        have sr := sq.trans (same_upd (o := HO.tup [.ty "int", .ty "tuple", .ty "list"]) e2)
        exact ite2 (fun _ => ite2 (fun _ => ⟨_, rfl, _, rfl, pick _ 0 E0 (But.of sr) (hP1.same sr) (by omega)⟩) (fun u => absurd rfl u)) (fun u => absurd rfl u)
      | int i =>
        refine ite2 (fun u => absurd u (by simp [isBool, isStr, isDct])) (fun _ => ?_)
        refine ⟨_, rfl, (by show 3 ≤ sizeLine; decide), fun q2 e2 => ⟨.int i, q2, _, _, _, _, rfl, upd_same, .cons (.ty _) (.cons (.ty _) (.cons (.ty _) .nil)), (Rp.int (K := K) i).tyx, kitA2 (.int i), _, rfl, ?_⟩⟩
        have sr := sq.trans (same_upd (o := HO.tup [.ty "int", .ty "tuple", .ty "list"]) e2)
        refine ite2 (fun u => absurd u (by simp [isInt, isTup])) (fun _ => ?_)
        refine ⟨_, rfl, p, c, 9, n, rfl, hP1.same sr, by omega, by decide, by decide, fun H3 k3 b3 hP3 k30 k31 => ?_⟩
        have b13 := (But.of sr).trans b3
        refine ⟨rfl, _, rfl, ite2 (fun _ => ⟨_, rfl, _, rfl, pick _ 1 E0 b13 hP3 (by omega)⟩) (fun _ => ?_)⟩
        refine ⟨_, rfl, .int i, _, _, _, _, rfl, .ty _, (Rp.int (K := K) i).tyx, kit_int (.int i), _, rfl, ite2 (fun _ => ?_) (fun u => absurd rfl u)⟩
        have hi : i.natAbs < 10 ^ 38 := of_decide_eq_true (show decide (i.natAbs < 10 ^ 38) = true from hin.lf)
        have big : (10 : Nat) ^ 39 = 10 * 10 ^ 38 := by rw [Nat.pow_succ, Nat.mul_comm]
        have one : 10 ≤ (10 : Nat) ^ 38 := by decide
        generalize (10 : Nat) ^ 38 = B at hi big one
        have pick5 : ∀ (v : V) (dv : PyData) (L : Addr) (E' : XK), (∀ H', Rp K H' v dv) → Ob 0 200 dv → H3 L = none → spPickC K [.ref p, .ref L] (upd H3 L (.lst [.int (i + 1), .int (i - 1), v, .non, .int ((10 : Int) ^ (31 : Int).toNat)])) Q E' := fun v dv L E' hv ob hL => by
          have xL := same_upd (o := HO.lst [.int (i + 1), .int (i - 1), v, .non, .int ((10 : Int) ^ (31 : Int).toNat)]) hL
          obtain ⟨_, _, _, hp3, _⟩ := hP3.ex
          refine ⟨p, c, L, _, n + 1, rfl, hP3.same xL, by omega, SqL.of upd_same, (ne_of_none hp3 hL).symm, (by show 0 < 5; decide), (by show 5 ≤ 1000; decide), fun H4 m v4 b4 hP4 hm => ?_⟩
          have al : RpAll K H4 [.int (i + 1), .int (i - 1), v, .non, .int ((10 : Int) ^ (31 : Int).toNat)] [.int (i + 1), .int (i - 1), dv, .none, .int ((10 : Int) ^ (31 : Int).toNat)] := .cons (.int _) (.cons (.int _) (.cons (hv _) (.cons .non (.cons (.int _) .nil))))
          obtain ⟨e, he, re⟩ := al.at hm
          have obs : ∀ e ∈ ([.int (i + 1), .int (i - 1), dv, .none, .int ((10 : Int) ^ (31 : Int).toNat)] : List PyData), Ob 0 200 e := by
            intro e he
            rcases List.mem_cons.mp he with rfl | he
            · exact ob_int (by rw [big]; omega)
            rcases List.mem_cons.mp he with rfl | he
            · exact ob_int (by rw [big]; omega)
            rcases List.mem_cons.mp he with rfl | he
            · exact ob
            rcases List.mem_cons.mp he with rfl | he
            · exact obB_ob (by decide +kernel)
            · rw [List.mem_singleton.mp he]
              exact ob_int (by decide)
          exact q H4 v4 e ((But.of s1).trans (b13.trans ((But.of xL).trans b4))) (hP4.mono (by omega)).pen re ((obs e (List.mem_of_getElem? he)).mono (by omega) (by omega))
        have z5 : 5 ≤ sizeLine := by decide
        refine ⟨_, rfl, _, rfl, _, _, rfl, rfl, _, rfl, _, _, rfl, rfl, _, rfl, _, _, rfl, rfl, _, rfl, ite2 (fun _ => ?_) (fun _ => ?_)⟩
        · refine ⟨_, _, rfl, rfl, _, rfl, ite2 (fun _ => ?_) (fun _ => ?_)⟩
          · exact ⟨_, rfl, rfl, _, _, rfl, rfl, (by exact ⟨by decide, by decide, by decide⟩), z5, fun L hL => pick5 (.bl _) (.bool _) L E0 (fun _ => .bl _) (obB_ob (by cases decide (V.int i = V.int 1) <;> decide +kernel)) hL⟩
          · exact ⟨_, rfl, _, _, rfl, rfl, _, _, rfl, rfl, (by exact ⟨by decide, by decide, by decide⟩), z5, fun L hL => pick5 (.int (i + 2)) (.int (i + 2)) L E0 (fun _ => .int _) (ob_int (by rw [big]; omega)) hL⟩
        · refine ⟨_, rfl, ite2 (fun u => absurd u (by decide)) (fun _ => ?_)⟩
          exact ⟨_, rfl, _, _, rfl, rfl, _, _, rfl, rfl, (by exact ⟨by decide, by decide, by decide⟩), z5, fun L hL => pick5 (.int (i + 2)) (.int (i + 2)) L E0 (fun _ => .int _) (ob_int (by rw [big]; omega)) hL⟩
      | @tup a vs ds h t =>
        refine ite2 (fun u => absurd u (by simp [isBool, isStr, isDct])) (fun _ => ?_)
        refine ⟨_, rfl, (by show 3 ≤ sizeLine; decide), fun q2 e2 => ⟨.ref a, q2, _, _, _, _, rfl, upd_same, .cons (.ty _) (.cons (.ty _) (.cons (.ty _) .nil)), ((Rt.tup h t).go (butT_same ((s1.trans sq).trans (same_upd e2))) |>.rp (K := K)).tyx, kitA2 (.tuple ds), _, rfl, ?_⟩⟩
        have sr := sq.trans (same_upd (o := HO.tup [.ty "int", .ty "tuple", .ty "list"]) e2)
        refine ite2 (fun u => absurd u (by simp [isInt, isTup])) (fun _ => ?_)
        refine ⟨_, rfl, p, c, 9, n, rfl, hP1.same sr, by omega, by decide, by decide, fun H3 k3 b3 hP3 k30 k31 => ?_⟩
        have b13 := (But.of sr).trans b3
        refine ⟨rfl, _, rfl, ite2 (fun _ => ⟨_, rfl, _, rfl, pick _ 1 E0 b13 hP3 (by omega)⟩) (fun _ => ?_)⟩
        have bT : ButT H H3 := (butT_same s1).trans (butT_but hP1.pen b13)
        have h3 := bT _ _ h
        have t3 := t.go bT
        have ln := t.len
        have hwt2 : PyData.weightAll ds ≤ 50000 := hwt
        have lw : ds.length ≤ 50000 := Nat.le_trans (PyData.length_le_weightAll ds) hwt2
        have ins := in_tup hin
        have dps : PyData.depthAll ds + 1 ≤ D := Nat.le_of_lt_succ (show PyData.depthAll ds + 1 < D + 1 from hdp)
        have dpe := (dp_all ds).mp (Nat.le_refl (PyData.depthAll ds))
        have both : ∀ d ∈ ds, In d ∧ d.depth ≤ PyData.depthAll ds := fun d hd => ⟨ins d hd, dpe d hd⟩
        have slz : 200000 ≤ sizeLine := by decide
        refine ⟨_, rfl, .ref a, _, _, _, _, rfl, .ty _, ((Rt.tup h3 t3).rp (K := K)).tyx, kit_int (.tuple ds), _, rfl, ite2 (fun u => absurd u (by simp [isInt])) (fun _ => ?_)⟩
        refine ⟨_, rfl, a, vs, rfl, .inr (SqT.of h3), rfl, _, rfl, ?_⟩
        by_cases l0 : vs.length = 0
        · exact ite2 (fun _ => ⟨_, rfl, _, rfl, pick _ 1 E0 b13 hP3 (by omega)⟩) (fun u => absurd (decide_eq_true (by rw [l0]; rfl)) u)
        refine ite2 (fun u => absurd (V.int.inj (of_decide_eq_true u)) (by omega)) (fun _ => ?_)
        refine ⟨_, rfl, _, rfl, a, vs, rfl, .inr (SqT.of h3), p, c, (vs.length : Int), _, rfl, hP3, by omega, by omega, Nat.lt_trans (log_le (k := 17) (show ((vs.length : Nat) : Int).natAbs < 2 ^ 17 by omega) (by decide)) (by decide), fun H4 k4 b4 hP4 k40 k41 => ?_⟩
        refine ⟨_, rfl, p, c, 16, _, rfl, hP4, by omega, by decide, by decide, fun H5 k5 b5 hP5 k50 k51 => ⟨_, _, rfl, ?_⟩⟩
        obtain ⟨j, rfl⟩ : ∃ j : Nat, k4 = (j : Int) := ⟨k4.toNat, by omega⟩
        have hj : j < vs.length := by omega
        have b15 := b13.trans (b4.trans b5)
        have b05 := (But.of s1).trans b15
        have bT5 : ButT H H5 := (butT_same s1).trans (butT_but hP1.pen b15)
        have h5 := bT5 _ _ h
        have t5 := t.go bT5
        refine ⟨_, rfl, _, _, rfl, rfl, _, rfl, ite2 (fun _ => ?_) (fun w4 => ?_)⟩
        · have ev : vs[j]? = some vs[j] := List.getElem?_eq_getElem hj
          obtain ⟨dk, hdk, rk⟩ := t5.at ev
          have mk := List.mem_of_getElem? hdk
          have wk := PyData.weight_le_weightAll ds dk mk
          refine ⟨fun σ H' => ∃ (y : V) (e : PyData), σ = [some (.ref p), some (.ref a), some (.ref S), some (.int (j : Int)), some (.int k5), some y, none, none] ∧ But p H5 H' ∧ Pen H' p (n + 3 + 4 * D) ∧ Rp K H' y e ∧ Ob (dk.depth + 2) (2 * dk.weight + 200) e, ?_, ?_⟩
          · refine ⟨_, rfl, _, rfl, _, rfl, a, vs, (j : Int), _, rfl, rfl, SqT.of h5, atI_nat ev, ?_⟩
            refine ⟨p, n + 3, _, dk, rfl, hP5.pen, by omega, rk, ins dk mk, by have := dpe dk mk; omega, by omega, fun H6 y e b6 hP6 re oe => ⟨y, e, rfl, b6, hP6, re, oe⟩⟩
          · rintro σ H6 ⟨y, e, rfl, b6, hP6, re, oe⟩
            have bT6 : ButT H H6 := bT5.trans (butT_but hP5.pen b6)
            have h6 := bT6 _ _ h
            have t6 := t.go bT6
            refine ⟨_, rfl, _, rfl, _, rfl, sl_any (K := K) (SqT.of h6) fun r1 H7 s7 hr1 => ?_⟩
            rw [cut_take vs j (by omega)] at hr1
            have bT7 := bT6.trans (butT_same s7)
            refine ⟨_, rfl, .ref a, _, _, _, _, rfl, .ty _, ((t.go bT7 |> Rt.tup (bT7 _ _ h)).rp (K := K)).tyx, kit_list (.tuple ds), _, rfl, ite2 (fun u => absurd u (by simp [isLst])) (fun _ => ?_)⟩
            refine ⟨_, rfl, (by show 1 ≤ sizeLine; decide), fun r2 hr2 => ?_⟩
            have s8 := same_upd (o := HO.tup [y]) hr2
            refine cat_any (K := K) (same_tup s8 hr1) (SqT.of upd_same) (by rw [List.length_take]; show _ + 1 ≤ _; omega) fun r3 H9 s9 hr3 => ?_
            have s69 := s7.trans (s8.trans s9)
            refine ⟨_, rfl, _, rfl, _, _, rfl, rfl, _, rfl, sl_anyN (K := K) (same_tup s69 (SqT.of h6)) fun r4 Ha sa hr4 => ?_⟩
            rw [show (j : Int) + 1 = ((j + 1 : Nat) : Int) by omega, cut_drop vs (j + 1) (by omega)] at hr4
            refine cat_any (K := K) (same_tup sa hr3) hr4 (by rw [List.length_append, List.length_take, List.length_drop]; show _ + 1 + _ ≤ _; omega) fun r5 Hb sb hr5 => ?_
            have s6b := s69.trans (sa.trans sb)
            have rp6 := t6.rp (K := K)
            have hd : Rp K Hb (.ref r5) (.tuple (ds.take j ++ e :: ds.drop (j + 1))) := by
              refine .tup (xs := vs.take j ++ y :: vs.drop (j + 1)) ?_ (((rp6.go s6b).take j).app (.cons (re.go s6b) ((rp6.go s6b).drop (j + 1))))
              simpa using hr5
            exact q Hb _ _ (b05.trans (b6.trans (But.of s6b))) ((hP6.mono (by omega)).same s6b) hd (ob_rep both hdk (oe.mono (by have := dpe dk mk; omega) (Nat.le_refl _)))
        · obtain ⟨i5, rfl⟩ : ∃ i : Nat, k5 = (i : Int) := ⟨k5.toNat, by omega⟩
          have i4 : i5 ≤ 4 := by
            refine Nat.le_of_not_lt fun z => w4 (decide_eq_true ?_)
            show (4 : Int) < (i5 : Int)
            omega
          have le1 : j + 1 ≤ vs.length := hj
          refine ⟨_, rfl, _, rfl, _, rfl, sl_any (K := K) (SqT.of h5) fun r1 H6 s6 hr1 => ?_⟩
          rw [cut_take vs j (by omega)] at hr1
          refine ⟨_, rfl, _, rfl, _, rfl, _, rfl, _, _, rfl, rfl, _, rfl, sl_any (K := K) (same_tup s6 (SqT.of h5)) fun r2 H7 s7 hr2 => ?_⟩
          rw [cut_one vs j le1] at hr2
          have e67 := s6.trans s7
          refine cat_any (K := K) (same_tup s7 hr1) hr2 (by rw [List.length_take, List.length_take]; omega) fun r3 H8 s8 hr3 => ?_
          have e68 := e67.trans s8
          refine ⟨_, rfl, _, rfl, _, rfl, sl_anyN (K := K) (same_tup e68 (SqT.of h5)) fun r4 H9 s9 hr4 => ?_⟩
          rw [cut_drop vs j (by omega)] at hr4
          refine cat_any (K := K) (same_tup s9 hr3) hr4 (by rw [List.length_append, List.length_take, List.length_take, List.length_drop]; omega) fun tw Ha sa htw => ?_
          have e6a := (e68.trans s9).trans sa
          have bTa : ButT H Ha := bT5.trans (butT_same e6a)
          refine ⟨_, rfl, .ref a, _, _, _, _, rfl, .ty _, ((t.go bTa |> Rt.tup (bTa _ _ h)).rp (K := K)).tyx, kit_list (.tuple ds), _, rfl, ite2 (fun u => absurd u (by simp [isLst])) (fun _ => ?_)⟩
          refine ⟨_, rfl, a, vs, rfl, .inr (same_tup e6a (SqT.of h5)), fun ol hol => ?_⟩
          have sb := same_upd (o := HO.lst vs) hol
          have e6b := e6a.trans sb
          refine ⟨_, rfl, _, rfl, _, rfl, sl_any (K := K) (same_tup e6b (SqT.of h5)) fun r6 Hc sc hr6 => ?_⟩
          rw [cut_take vs j (by omega)] at hr6
          have e6c := e6b.trans sc
          refine ⟨_, rfl, _, rfl, _, _, rfl, rfl, _, rfl, sl_anyN (K := K) (same_tup e6c (SqT.of h5)) fun r7 Hd sd hr7 => ?_⟩
          rw [show (j : Int) + 1 = ((j + 1 : Nat) : Int) by omega, cut_drop vs (j + 1) le1] at hr7
          have e6d := e6c.trans sd
          refine cat_any (K := K) (same_tup sd hr6) hr7 (by rw [List.length_take, List.length_drop]; omega) fun r8 He se hr8 => ?_
          have e6e := e6d.trans se
          refine ⟨_, rfl, _, rfl, _, rfl, a, vs, rfl, same_tup e6e (SqT.of h5), fun r9 h9 => ?_⟩
          have s9' := same_upd (o := HO.tup vs.reverse) h9
          have e6f := e6e.trans s9'
          refine ⟨_, rfl, _, rfl, cat_any (K := K) (same_tup e6f (SqT.of h5)) (same_tup e6f (SqT.of h5)) (by omega) fun r10 Hg sg hr10 => ?_⟩
          have e6g := e6f.trans sg
          refine ⟨(by show 5 ≤ sizeLine; decide), fun L hL => ?_⟩
          have sh := same_upd (o := HO.lst [.ref r8, .ref tw, .ref ol, .ref r9, .ref r10]) hL
          have e6h := e6g.trans sh
          have rpa := (t5.rp (K := K)).go e6h
          have al : RpAll K _ [.ref r8, .ref tw, .ref ol, .ref r9, .ref r10] [.tuple (ds.take j ++ ds.drop (j + 1)), .tuple (ds.take j ++ (ds.drop j).take 1 ++ ds.drop j), .list ds, .tuple ds.reverse, .tuple (ds ++ ds)] :=
            .cons (.tup (same_tup (s9'.trans (sg.trans sh)) hr8) ((rpa.take j).app (rpa.drop (j + 1)))) (.cons (.tup (same_tup (sb.trans (sc.trans (sd.trans (se.trans (s9'.trans (sg.trans sh)))))) htw) (((rpa.take j).app ((rpa.drop j).take 1)).app (rpa.drop j))) (.cons (.lst ((sc.trans (sd.trans (se.trans (s9'.trans (sg.trans sh))))).seq (SqL.of upd_same)) rpa) (.cons (.tup (same_tup (sg.trans sh) (SqT.of upd_same)) rpa.rev) (.cons (.tup (same_tup sh hr10) (rpa.app rpa)) .nil))))
          have wt : ∀ ds' : List PyData, (∀ x ∈ ds', x ∈ ds) → PyData.weightAll ds' ≤ 2 * PyData.weightAll ds + 200 → Ob (PyData.depthAll ds + 1 + 2) (2 * PyData.weightAll ds + 200) (.tuple ds') := fun ds' sub w => (ob_tup (fun x hx => both x (sub x hx)) w).mono (by omega) (Nat.le_refl _)
          have wc := wt_cut ds j
          have wd := wt_cut (ds.drop j) 1
          rw [List.drop_drop] at wd
          have obs : ∀ e ∈ ([.tuple (ds.take j ++ ds.drop (j + 1)), .tuple (ds.take j ++ (ds.drop j).take 1 ++ ds.drop j), .list ds, .tuple ds.reverse, .tuple (ds ++ ds)] : List PyData), Ob (PyData.depthAll ds + 1 + 2) (2 * PyData.weightAll ds + 200) e := by
            intro e he
            rcases List.mem_cons.mp he with rfl | he
            · refine wt _ (fun x hx => ?_) (by rw [wt_app]; omega)
              rcases List.mem_append.mp hx with m | m
              · exact List.mem_of_mem_take m
              · exact List.mem_of_mem_drop m
            rcases List.mem_cons.mp he with rfl | he
            · refine wt _ (fun x hx => ?_) (by rw [wt_app, wt_app]; omega)
              rcases List.mem_append.mp hx with m | m
              · rcases List.mem_append.mp m with m | m
                · exact List.mem_of_mem_take m
                · exact List.mem_of_mem_drop (List.mem_of_mem_take m)
              · exact List.mem_of_mem_drop m
            rcases List.mem_cons.mp he with rfl | he
            · exact (ob_lst both (Nat.le_refl _)).mono (by omega) (by omega)
            rcases List.mem_cons.mp he with rfl | he
            · exact wt _ (fun x hx => List.mem_reverse.mp hx) (by rw [wt_rev]; omega)
            · rw [List.mem_singleton.mp he]
              exact wt _ (fun x hx => (List.mem_append.mp hx).elim id id) (by rw [wt_app]; omega)
          have ei : ∃ v, ([.ref r8, .ref tw, .ref ol, .ref r9, .ref r10] : List V)[i5]? = some v := by
            match i5, i4 with
            | 0, _ => exact ⟨_, rfl⟩
            | 1, _ => exact ⟨_, rfl⟩
            | 2, _ => exact ⟨_, rfl⟩
            | 3, _ => exact ⟨_, rfl⟩
            | 4, _ => exact ⟨_, rfl⟩
            | i + 5, h => exact absurd h (by omega)
          obtain ⟨v, ev⟩ := ei
          obtain ⟨e, he, re⟩ := al.at ev
          exact ⟨_, rfl, L, _, (i5 : Int), v, rfl, rfl, SqL.of upd_same, atI_nat ev, q _ v e (b05.trans (But.of e6h)) ((hP5.pen.same e6h).mono (by omega)) re (obs e (List.mem_of_getElem? he))⟩
end
end My
/-! ### the law's rule, once more: data of tuples -/
namespace My
open PySem PySem.Spec PyProof.Rows L2

/-- leaves below 10 ** 38, that depth and weight at most -/
structure Gd (D W : Nat) (d : PyData) : Prop where
  lf : lf 38 d = true
  dp : d.depth ≤ D
  wt : d.weight ≤ W
theorem Gd.mono {D W D' W' : Nat} {d : PyData} (h : Gd D W d) (a : D ≤ D') (b : W ≤ W') : Gd D' W' d := ⟨h.lf, Nat.le_trans h.dp a, Nat.le_trans h.wt b⟩
theorem gd_non : Gd 0 130 .none := ⟨rfl, Nat.le_refl _, Nat.zero_le _⟩
theorem gd_int {i : Int} (h : i.natAbs < 10 ^ 38) : Gd 0 130 (.int i) := ⟨by rw [My.lf]; exact decide_eq_true h, Nat.le_refl _, (sd_int (Nat.lt_trans h (by decide))).wt⟩
theorem gd_small {i : Int} (h : i.natAbs < 10000) : Gd 0 130 (.int i) := gd_int (Nat.lt_trans h (by decide))
theorem gd_str {z : Str} (h : ∀ c ∈ z.cps.toList, c ≤ 1000) (l : z.length ≤ 130) : Gd 0 130 (.str z) := by
  refine ⟨?_, Nat.le_refl _, ?_⟩
  · rw [My.lf, List.all_eq_true]
    exact fun c hc => decide_eq_true (h c hc)
  · rw [PyData.weight]
    exact l
theorem gd_tup {D W n : Nat} {ds : List PyData} (h : ∀ d ∈ ds, Gd D W d) (l : ds.length ≤ n) : Gd (D + 1) (n * (W + 1)) (.tuple ds) := by
  refine ⟨?_, ?_, ?_⟩
  · rw [My.lf, lfs_all]
    exact fun d hd => (h d hd).lf
  · rw [PyData.depth]
    exact Nat.succ_le_succ ((dp_all ds).mpr fun d hd => (h d hd).dp)
  · rw [PyData.weight]
    have key : ∀ es : List PyData, (∀ d ∈ es, Gd D W d) → PyData.weightAll es ≤ es.length * (W + 1) := by
      intro es
      induction es with
      | nil => intro _; simp [PyData.weightAll]
      | cons x xs ih =>
        intro h
        have h1 := (h x (.head _)).wt
        have h2 := ih fun d hd => h d (.tail _ hd)
        rw [PyData.weightAll, List.length_cons, Nat.succ_mul]
        omega
    exact Nat.le_trans (key ds h) (Nat.mul_le_mul_right _ l)
theorem gd_two {D W1 W2 : Nat} {a b : PyData} (ha : Gd D W1 a) (hb : Gd D W2 b) : Gd (D + 1) (W1 + W2 + 2) (.tuple [a, b]) := by
  have h1 := ha.wt
  have h2 := hb.wt
  have d1 := ha.dp
  have d2 := hb.dp
  refine ⟨?_, ?_, ?_⟩
  · rw [My.lf, lfs, lfs, lfs, ha.lf, hb.lf]
    rfl
  · rw [PyData.depth, PyData.depthAll, PyData.depthAll, PyData.depthAll]
    omega
  · rw [PyData.weight, PyData.weightAll, PyData.weightAll, PyData.weightAll]
    omega
theorem gd_three {D W1 W2 W3 : Nat} {a b e : PyData} (ha : Gd D W1 a) (hb : Gd D W2 b) (he : Gd D W3 e) : Gd (D + 1) (W1 + W2 + W3 + 3) (.tuple [a, b, e]) := by
  have h1 := ha.wt
  have h2 := hb.wt
  have h3 := he.wt
  have d1 := ha.dp
  have d2 := hb.dp
  have d3 := he.dp
  refine ⟨?_, ?_, ?_⟩
  · rw [My.lf, lfs, lfs, lfs, lfs, ha.lf, hb.lf, he.lf]
    rfl
  · rw [PyData.depth, PyData.depthAll, PyData.depthAll, PyData.depthAll, PyData.depthAll]
    omega
  · rw [PyData.weight, PyData.weightAll, PyData.weightAll, PyData.weightAll, PyData.weightAll]
    omega
theorem RowsAt.rt {p : Addr} {H : Hp} {ts : List Addr} {rows : List (List (Option Int))} (h : RowsAt p H ts rows) : RtAll H (ts.map V.ref) (rowsD rows) := by
  induction h with
  | nil => exact .nil
  | cons a _ ih =>
    refine .cons (.tup a.2 (rtAll_of fun x _ => ?_)) ih
    cases x with
    | none => exact .non
    | some i => exact .int i
theorem ltr_le {z : Str} (h : lettersL z.cps.toList = true) : z.length ≤ 3 ∧ ∀ c ∈ z.cps.toList, c ≤ 1000 := by
  refine ⟨ltrD_len (d := .str z) h, fun c hc => ?_⟩
  have l3 : z.cps.toList.length ≤ 3 := ltrD_len (d := .str z) h
  match e : z.cps.toList, l3 with
  | [], _ => rw [e] at hc; cases hc
  | [a], _ =>
    rw [e] at h hc
    simp [lettersL] at h hc
    omega
  | [a, b], _ =>
    rw [e] at h hc
    simp [lettersL] at h hc
    omega
  | [a, b, d], _ =>
    rw [e] at h hc
    simp [lettersL] at h hc
    omega
  | _ :: _ :: _ :: _ :: _, l3 => exact absurd l3 (by simp)
theorem gd_ltr {z : Str} (h : lettersL z.cps.toList = true) : Gd 0 130 (.str z) := gd_str (ltr_le h).2 (Nat.le_trans (ltr_le h).1 (by decide))
theorem gd_rows {rows : List (List (Option Int))} {n : Nat} (h1 : rows.length ≤ 4) (h3 : n ≤ 3) (h : ∀ r ∈ rows, RowOk n rows.length r) : Gd 2 1576 (.tuple (rowsD rows)) := by
  refine (gd_tup (D := 1) (W := 393) (n := 4) (fun d hd => ?_) (by unfold rowsD; rw [List.length_map]; exact h1)).mono (Nat.le_refl _) (by decide)
  obtain ⟨r, hr, rfl⟩ := List.mem_map.mp hd
  have ok := h r hr
  refine (gd_tup (D := 0) (W := 130) (n := 3) (fun d hd => ?_) (by rw [List.length_map, ok.len]; exact h3)).mono (Nat.le_refl _) (by decide)
  obtain ⟨x, hx, rfl⟩ := List.mem_map.mp hd
  cases x with
  | none => exact gd_non
  | some i =>
    have := ok.range i hx
    exact gd_small (show i.natAbs < 10000 by omega)
def spXRuleT (K : PySem.W.Frag) : Sp := fun vs H Q _ => ∃ (p : Addr) (n : Nat) (z : Str) (most : Int), vs = [.ref p, .str z, .int most] ∧ Pen H p n ∧ n < 1047000 ∧ lettersL z.cps.toList = true ∧ 1 ≤ most ∧ most ≤ 4 ∧
  ∀ (H' : Hp) (t : Addr) (ss : List PyData), But p H H' → Pen H' p (n + 45) → Rt H' (.ref t) (.tuple [.str z, .tuple ss]) → Gd 3 1708 (.tuple [.str z, .tuple ss]) → Q (.ref t) H'
section
variable {P : Program} {w : World} {K : PySem.W.Frag} {mg : Str → Option Value} {base : Heap} {f1 f2 f3 f4 : Addr} {d1 d2 d3 d4 : FuncData} {x2 : Addr} {y2 : FuncData}
theorem ok_xRuleT (TP : PenTxt K mg f1 f2 f3 f4 d1 d2 d3 d4) (T : RulTxt K mg x2 y2) {k : Nat} : FnOk P w K mg base CX0 (k + 4) x2 y2 ["pen", "letters", "most"] (spXRuleT K) := by
  have GT : FnOk P w K mg base CX0 (k + 3) f3 d3 ["pen", "many"] spTake := ok_take TP (k := k + 1)
  have GTC : FnOk P w K mg base CX0 (k + 3) f3 d3 ["pen", "many"] spTakeC := ok_takeC TP (k := k + 1)
  have GP : FnOk P w K mg base CX0 (k + 3) f4 d4 ["pen", "some"] (spPickC K) := ok_pickC TP (k := k)
  refine T.FXRule.ok scXRule (fun vs H Q E h => ?_) (fun cdv A outer s H vs Q E hr h => ?_)
  · obtain ⟨p, n, z, most, rfl, _⟩ := h
    rfl
  · obtain ⟨p, n, z, most, rfl, hP, hn, hl, m1, m4, q⟩ := h
    refine ⟨_, (Evl.pss_cut (ps_asg (pe_tup (pa_cons (pe_op op_add pe_int (pe_call GTC hr (by rfl) TP.gTake TP.FTake.kp TP.bTake .nil pass0 (pa_cons (pv 0) (pa_cons (pv 2) pa_nil)))) (pa_cons (pe_lst pa_nil) pa_nil))) (pg_tup rfl (pgs_cons (pg_name (i := 3) scXRule.nd rfl (.inr rfl)) (pgs_cons (pg_name (i := 4) scXRule.nd rfl (.inl rfl)) pgs_nil))))
 (pss_cons (ps_for PassesOwn.never rfl (pi_range1 (by rfl) T.range (pa_cons (pv 3) pa_nil)) (pg_name (i := 5) scXRule.nd rfl (.inl rfl))
 (Evl.pss_cut (ps_setLc (i := 6) (own := [("letter", 7)]) (g := gName 7) (tt := tYes) (by rfl) scXRule.nd rfl rfl (sw_true rfl rfl rfl (by decide +kernel)) (pi_str (pv 1)) (blkOk_by (N := ["pen", "letters", "most", "many", "states", "state", "row", "letter", "after"]) (sc := defScope sXRule) (by decide +kernel)) (fun _ _ _ _ _ => pg_name (i := 7) scXRule.nd rfl (Or.inl rfl)) (fun _ _ _ _ _ => pts_nil) (fun _ _ _ _ _ => (pe_call GP hr (by rfl) TP.gPick TP.FPick.kp TP.bPick .nil pass0 (pa_cons (pv 0) (pa_cons (pe_lst (pa_cons pe_non (pa_cons (pe_call GTC hr (by rfl) TP.gTake TP.FTake.kp TP.bTake .nil pass0 (pa_cons (pv 0) (pa_cons (pv 3) pa_nil))) (pa_cons (pe_call GTC hr (by rfl) TP.gTake TP.FTake.kp TP.bTake .nil pass0 (pa_cons (pv 0) (pa_cons (pv 3) pa_nil))) pa_nil)))) pa_nil)))))
 (Evl.pss_cut (ps_if (pt_cmpR op_notIn_seq pe_bl (pe_lc (own := [("after", 8)]) (g := gName 8) (tt := tYes) (by rfl) scXRule.nd (pi_list (pv 6)) (blkOk_by (N := ["pen", "letters", "most", "many", "states", "state", "row", "letter", "after"]) (sc := defScope sXRule) (by decide +kernel)) (fun _ _ _ _ _ => pg_name (i := 8) scXRule.nd rfl (Or.inl rfl)) (fun _ _ _ _ _ => pts_nil) (fun _ _ _ _ _ => (pe_cmpR op_isN (pv 8) pe_non (nomark _)))) (by rfl)) (pss_one (ps_asg (pe_call GTC hr (by rfl) TP.gTake TP.FTake.kp TP.bTake .nil pass0 (pa_cons (pv 0) (pa_cons (pv 3) pa_nil))) (pg_sub (pv 6) (pe_call GTC hr (by rfl) TP.gTake TP.FTake.kp TP.bTake .nil pass0 (pa_cons (pv 0) (pa_cons (pe_callB call_len_seq (by rfl) T.len PySem.boot_len (pa_cons (pv 6) pa_nil)) pa_nil))) set_list))) pss_nil)
 (pss_one (ps_expr (pe_bm PySem.F.plainAttrs_list PySem.F.slot_list_append PySem.F.type_list_append mt_append (pv 4) (pa_cons (pe_callTy call_tuple_of (by rfl) T.tuple (by decide +kernel) (pa_cons (pv 6) pa_nil)) pa_nil)))))))
 (pss_one (ps_ret (pe_tup (pa_cons (pv 1) (pa_cons (pe_callTy call_tuple_of (by rfl) T.tuple (by decide +kernel) (pa_cons (pv 4) pa_nil)) pa_nil))))))), ?_⟩
    obtain ⟨c, hP⟩ := hP.at
    have z3 : z.cps.size ≤ 3 := ltrD_len (d := .str z) hl
    have sl3 : ∀ {m : Nat}, m ≤ 3 → m < sizeLine := fun h => Nat.lt_of_le_of_lt h (by decide)
    refine ⟨fun σ H' => ∃ (mi : Int) (S : Addr), σ = [some (.ref p), some (.str z), some (.int most), some (.int mi), some (.ref S), none, none, none, none] ∧ 1 ≤ mi ∧ mi ≤ 4 ∧ But p H H' ∧ PenC H' p c (n + 1) ∧ H' S = some (.lst []) ∧ S ≠ p ∧ S ≠ c ∧ H S = none, ?_, ?_⟩
    · refine ⟨_, rfl, _, rfl, p, c, most, n, rfl, hP, by omega, by omega, log_small (m := 4) (by omega) (by decide), fun H1 k1 b1 hP1 k10 k11 => ⟨_, _, rfl, rfl, (by show 0 ≤ sizeLine; decide), fun S hS => ⟨(by show 2 ≤ sizeLine; decide), fun t ht => ?_⟩⟩⟩
      have x1 := same_upd (o := HO.lst []) hS
      have x2 := same_upd (o := HO.tup [.int (1 + k1), .ref S]) ht
      obtain ⟨c1, _, _, hp1, hc1, _⟩ := hP1.ex
      refine ⟨t, _, rfl, SqT.of upd_same, rfl, _, _, rfl, _, _, rfl, rfl, 1 + k1, S, rfl, by omega, by omega, b1.trans (But.of (x1.trans x2)), hP1.keep (fun o e => (x1.trans x2) _ _ e) (fun o e => (x1.trans x2) _ _ e), x2 _ _ upd_same, (ne_of_none hp1 hS).symm, (ne_of_none hc1 hS).symm, but_none b1 (ne_of_none hp1 hS).symm hS⟩
    rintro σ H1 ⟨mi, S, rfl, i1, i4, b1, hP1, hS, nSp, nSc, S0⟩
    refine ⟨_, rfl, _, rfl, by omega, by omega, ?_⟩
    have lift : ∀ {i : Nat} {v5 v6 : Option V}, True := trivial
    refine for_range (lo := 0) (n := mi.toNat) (fun i σ H' => ∃ v5 v6 ts rows, σ = [some (.ref p), some (.str z), some (.int most), some (.int mi), some (.ref S), v5, v6, none, none] ∧ But p H H' ∧ PenC H' p c (n + 1 + 11 * i) ∧ H' S = some (.lst (ts.map V.ref)) ∧ RowsAt p H' ts rows ∧ rows.length = i ∧ ts.length = i ∧ ∀ r ∈ rows, RowOk z.length mi.toNat r)
      ⟨none, none, [], [], rfl, b1, hP1, hS, .nil, rfl, rfl, fun _ h => nomatch h⟩ ?_ ?_
    · rintro i σ H2 hi ⟨v5, v6, ts, rows, rfl, b2, hP2, hS2, hR, lr, lt, ok⟩
      -- row
      refine ⟨fun σ H' => ∃ (R : Addr) (r : List (Option Int)), σ = [some (.ref p), some (.str z), some (.int most), some (.int mi), some (.ref S), some (.int (0 + (i : Int))), some (.ref R), none, none] ∧ But p H H' ∧ PenC H' p c (n + 1 + 11 * i + 9) ∧ H' S = some (.lst (ts.map V.ref)) ∧ RowsAt p H' ts rows ∧ H' R = some (.lst (r.map stV)) ∧ r.length = z.length ∧ (∀ j, some j ∈ r → 0 ≤ j ∧ j < mi) ∧ R ≠ p ∧ R ≠ S ∧ R ≠ c ∧ H R = none, ?_, ?_⟩
      · refine ⟨_, rfl, z, rfl, fun D nD => ?_⟩
        obtain ⟨_, _, _, hp2, hc2, _⟩ := hP2.ex
        have nDp : D ≠ p := (ne_of_none hp2 nD).symm
        have nDc : D ≠ c := (ne_of_none hc2 nD).symm
        have nDS : D ≠ S := (ne_of_none hS2 nD).symm
        refine lc_it walk_str (fun j H' => ∃ r : List (Option Int), But p H2 H' ∧ PenC H' p c (n + 1 + 11 * i + 3 * j) ∧ H' D = some (.lst (r.map stV)) ∧ r.length = j ∧ (∀ j, some j ∈ r → 0 ≤ j ∧ j < mi)) ⟨[], But.of (same_upd nD), hP2.keep (fun o e => same_upd nD _ _ e) (fun o e => same_upd nD _ _ e), upd_same, rfl, fun _ h => nomatch h⟩ (fun _ _ _ _ => trivial) ?_ ?_
        · rintro j u H' H3 hj ⟨r, bj, hPj, hD, lj, rj⟩ ⟨rfl, cc, hcc, rfl⟩
          refine ⟨rfl, ?_⟩
          refine ⟨_, rfl, _, rfl, _, rfl, p, c, mi, _, rfl, hPj, by omega, by omega, log_small (m := 4) (by omega) (by decide), fun Ha ka ba hPa ka0 ka1 => ?_⟩
          refine ⟨_, rfl, _, rfl, p, c, mi, _, rfl, hPa, by omega, by omega, log_small (m := 4) (by omega) (by decide), fun Hb kb bb hPb kb0 kb1 => ⟨(by show 3 ≤ sizeLine; decide), fun L hL => ?_⟩⟩
          have xL := same_upd (o := HO.lst [V.non, .int ka, .int kb]) hL
          obtain ⟨_, _, _, hpb, hcb, _⟩ := hPb.ex
          refine ⟨p, c, L, _, _, rfl, hPb.keep (fun o e => xL _ _ e) (fun o e => xL _ _ e), by omega, SqL.of upd_same, (ne_of_none hpb hL).symm, (by show 0 < 3; decide), (by show 3 ≤ 1000; decide), fun Hc m v bc hPc hm => ?_⟩
          have bD : But p H3 Hc := (ba.trans bb).trans ((But.of xL).trans bc)
          have hv : ∃ x : Option Int, v = stV x ∧ ∀ j, x = some j → 0 ≤ j ∧ j < mi := by
            match m, hm with
            | 0, hm => exact ⟨none, (Option.some.inj hm).symm, fun _ e => nomatch e⟩
            | 1, hm => exact ⟨some ka, (Option.some.inj hm).symm, fun j e => by cases e; exact ⟨ka0, ka1⟩⟩
            | 2, hm => exact ⟨some kb, (Option.some.inj hm).symm, fun j e => by cases e; exact ⟨kb0, kb1⟩⟩
            | m + 3, hm => exact absurd hm (by simp)
          obtain ⟨x, rfl, hx⟩ := hv
          refine ⟨_, bD _ _ nDp hD, ?_, r ++ [x], ?_, ?_, ?_, ?_, ?_⟩
          · rw [List.length_map, lj]
            exact sl3 (by omega)
          · intro b o nb e
            rw [upd_ne (ne_of_none e nD)]
            exact bD _ _ nb (bj _ _ nb e)
          · have hk : n + 1 + 11 * i + 3 * (j + 1) = n + 1 + 11 * i + 3 * j + 1 + 1 + 1 := by omega
            rw [hk]
            exact hPc.keep (fun o e => by rw [upd_ne nDp.symm]; exact e) (fun o e => by rw [upd_ne nDc.symm]; exact e)
          · rw [upd_same, List.map_append]
            rfl
          · rw [List.length_append, lj]
            rfl
          · intro j hj
            rcases List.mem_append.mp hj with h | h
            · exact rj j h
            · exact hx j (List.mem_singleton.mp h).symm
        · rintro H' ⟨r, bj, hPj, hD, lj, rj⟩
          refine ⟨D, r, rfl, b2.trans bj, hPj.mono (by omega), bj _ _ nSp hS2, hR.go fun t _ nt e => bj _ _ nt e, hD, lj, rj, nDp, nDS, nDc, but_none b2 nDp nD⟩
      rintro σ H3 ⟨R, r, rfl, b3, hP3, hS3, hR3, hr3, lr3, rg, nRp, nRS, nRc, R0⟩
      -- one that lets a letter by
      refine ⟨fun σ H' => ∃ (R : Addr) (r : List (Option Int)), σ = [some (.ref p), some (.str z), some (.int most), some (.int mi), some (.ref S), some (.int (0 + (i : Int))), some (.ref R), none, none] ∧ But p H H' ∧ PenC H' p c (n + 1 + 11 * i + 11) ∧ H' S = some (.lst (ts.map V.ref)) ∧ RowsAt p H' ts rows ∧ H' R = some (.lst (r.map stV)) ∧ RowOk z.length mi.toNat r ∧ R ≠ p ∧ R ≠ S ∧ R ≠ c ∧ H R = none, ?_, ?_⟩
      · refine ⟨_, rfl, R, rfl, ⟨_, SqL.of hr3⟩, fun D nD => ?_⟩
        obtain ⟨_, _, _, hp3, hc3, _⟩ := hP3.ex
        have xD := same_upd (o := HO.lst []) nD
        refine lc_lstO (xs := r.map stV) (fun j H' => Same H3 H' ∧ H' D = some (.lst ((r.take j).map fun x => V.bl (decide (stV x = V.non))))) ⟨xD, upd_same⟩ (fun i H' h => h.1.seq (SqL.of hr3)) ?_ ?_
        · rintro j u H' hu ⟨sm, hD⟩
          rw [List.getElem?_map] at hu
          cases e : r[j]? with
          | none =>
            rw [e] at hu
            cases hu
          | some x =>
            rw [e] at hu
            cases hu
            refine ⟨rfl, ?_⟩
            refine ⟨_, rfl, rfl, _, hD, ?_, same_new sm nD, ?_⟩
            · rw [List.length_map]
              have := List.length_take_le' j r
              exact sl3 (by have : z.length ≤ 3 := z3; omega)
            · rw [upd_same, List.take_succ, e, List.map_append]
              rfl
        · rintro H' ⟨sm, hD⟩
          rw [List.length_map, List.take_length] at hD
          have fl : (r.map fun x => V.bl (decide (stV x = V.non))).all flatV = true := by
            rw [List.all_map, List.all_eq_true]
            exact fun _ _ => rfl
          have hP4 : PenC H' p c (n + 1 + 11 * i + 9) := hP3.keep (fun o e => sm _ _ e) (fun o e => sm _ _ e)
          refine ⟨D, _, rfl, .inl (SqL.of hD), rfl, fl, _, rfl, ite2 (fun u => ?_) (fun u => ?_)⟩
          · have lr4 : 0 < r.length := by rw [lr3]; exact letters_pos hl
            refine ⟨_, rfl, _, rfl, p, c, mi, _, rfl, hP4, by omega, by omega, log_small (m := 4) (by omega) (by decide), fun Ha ka ba hPa ka0 ka1 => ?_⟩
            have hRa : Ha R = some (.lst (r.map stV)) := ba _ _ nRp (sm _ _ hr3)
            refine ⟨_, rfl, _, rfl, _, rfl, R, _, rfl, .inl (SqL.of hRa), p, c, _, _, rfl, hPa, by omega, by rw [List.length_map]; omega, log_small (m := 4) (by rw [List.length_map]; have : z.length ≤ 3 := z3; omega) (by decide), fun Hb kb bb hPb kb0 kb1 => ?_⟩
            rw [List.length_map] at kb1
            have hRb : Hb R = some (.lst (r.map stV)) := bb _ _ nRp hRa
            have b34 : But p H3 Hb := (But.of sm).trans (ba.trans bb)
            have nxt : But p H3 (upd Hb R (.lst ((r.set kb.toNat (some ka)).map stV))) → True := fun _ => trivial
            refine ⟨R, _, kb, kb.toNat, rfl, rfl, hRb, ixN_of kb0 (by rw [List.length_map]; exact kb1), ?_⟩
            have er : (r.map stV).set kb.toNat (.int ka) = (r.set kb.toNat (some ka)).map stV := by rw [List.map_set]; rfl
            rw [er]
            refine ⟨R, r.set kb.toNat (some ka), rfl, fun b o nb e => ?_, ?_, ?_, ?_, upd_same, ⟨?_, ?_, ?_⟩, nRp, nRS, nRc, R0⟩
            · rw [upd_ne (ne_of_none e R0)]
              exact b34 _ _ nb (b3 _ _ nb e)
            · exact hPb.keep (fun o e => by rw [upd_ne nRp.symm]; exact e) (fun o e => by rw [upd_ne nRc.symm]; exact e)
            · rw [upd_ne nRS.symm]
              exact b34 _ _ nSp hS3
            · refine hR3.go fun t _ nt e => ?_
              rw [upd_ne (ne_of e hr3 (by intro z; cases z))]
              exact b34 _ _ nt e
            · rw [List.length_set, lr3]
            · exact ⟨some ka, List.mem_of_getElem? (i := kb.toNat) (by rw [List.getElem?_set_self (by omega)]), by simp⟩
            · intro j hj
              rcases List.mem_or_eq_of_mem_set hj with h | h
              · have := rg j h
                omega
              · cases h
                omega
          · refine ⟨R, r, rfl, b3.trans (But.of sm), hP4.mono (by omega), sm _ _ hS3, hR3.go fun t _ nt e => sm _ _ e, sm _ _ hr3, ⟨lr3, ?_, fun j hj => ?_⟩, nRp, nRS, nRc, R0⟩
            · have u2 : inV (.bl false) (r.map fun x => V.bl (decide (stV x = V.non))) = true := by
                cases e : inV (.bl false) (r.map fun x => V.bl (decide (stV x = V.non))) with
                | true => rfl
                | false => exact absurd (by rw [e]; rfl) u
              unfold inV at u2
              rw [List.any_map, List.any_eq_true] at u2
              obtain ⟨x, hx, hx2⟩ := u2
              refine ⟨x, hx, fun e => ?_⟩
              subst e
              exact absurd hx2 (by decide)
            · have := rg j hj
              omega
      rintro σ H4 ⟨R, r, rfl, b4, hP4, hS4, hR4, hr4, okr, nRp, nRS, nRc, _⟩
      refine ⟨_, rfl, .inl ⟨rfl, _, SqL.of hS4⟩, _, rfl, R, _, rfl, .inl ⟨SqL.of hr4, fun t ht => ?_⟩⟩
      have xt := same_upd (o := HO.tup (r.map stV)) ht
      obtain ⟨_, _, _, hp4, hc4, _⟩ := hP4.ex
      have ntp : t ≠ p := (ne_of_none hp4 ht).symm
      refine ⟨S, _, _, rfl, rfl, xt _ _ hS4, ?_, ?_⟩
      · rw [List.length_map, lt]
        exact sl3 (by omega)
      · refine ⟨_, _, ts ++ [t], rows ++ [r], rfl, ?_, ?_, ?_, ?_, ?_, ?_, ?_⟩
        · intro b o nb e
          rw [upd_ne (ne_of_none e S0)]
          exact xt _ _ (b4 _ _ nb e)
        · exact (hP4.keep (fun o e => by rw [upd_ne nSp.symm]; exact xt _ _ e) (fun o e => by rw [upd_ne nSc.symm]; exact xt _ _ e)).mono (by omega)
        · rw [upd_same, List.map_append]
          rfl
        · refine RowsAt.snoc (hR4.go fun t' _ nt e => ?_) ntp ?_
          · rw [upd_ne (ne_of e hS4 (by intro z; cases z))]
            exact xt _ _ e
          · rw [upd_ne (ne_of_none hS4 ht).symm]
            exact upd_same
        · rw [List.length_append, lr]
          rfl
        · rw [List.length_append, lt]
          rfl
        · intro r' hr'
          rcases List.mem_append.mp hr' with h | h
          · exact ok r' h
          · rw [List.mem_singleton.mp h]
            exact okr
    · rintro σ H2 ⟨v5, v6, ts, rows, rfl, b2, hP2, hS2, hR, lr, lt, ok⟩
      refine ⟨_, rfl, _, rfl, S, _, rfl, .inl ⟨SqL.of hS2, fun t ht => ⟨(by show 2 ≤ sizeLine; decide), fun u hu => ?_⟩⟩⟩
      have xt := same_upd (o := HO.tup (ts.map V.ref)) ht
      have xu := same_upd (o := HO.tup [V.str z, V.ref t]) hu
      have x2 := xt.trans xu
      obtain ⟨_, _, _, hp2, hc2, _⟩ := hP2.ex
      have ntp : t ≠ p := (ne_of_none hp2 ht).symm
      have nup : u ≠ p := (ne_of_none (xt _ _ hp2) hu).symm
      have hz : z.length ≤ sizeLine := Nat.le_trans (show z.length ≤ 3 from z3) (by decide)
      refine q _ u (rowsD rows) (b2.trans (But.of x2)) ((hP2.keep (fun o e => x2 _ _ e) (fun o e => x2 _ _ e)).mono (by omega)).pen ?_ ?_
      · exact .tup upd_same (.cons (.str z hz) (.cons (.tup (xu _ _ upd_same) (hR.go fun t' _ _ e => x2 _ _ e).rt) .nil))
      · exact (gd_two ((gd_ltr hl).mono (by decide) (Nat.le_refl _)) (gd_rows (by omega) (ltr_le hl).1 (by rw [lr]; exact ok))).mono (by decide) (by decide)
end
end My
/-! ### the law's machine -/
namespace My
open PySem PySem.Spec PyProof.Rows L2
abbrev sXMachineB : Stmt := topS 30
abbrev sXPlainB : Stmt := topS 31
abbrev sXFreeB : Stmt := topS 33
abbrev sXBounds : Stmt := topS 42
theorem scXMachineB : FnScope ["pen", "base", "letters", "most", "wide", "many", "states", "state", "row", "letter", "choice", "again", "pair"] ["pen", "base", "letters", "most", "wide"] (defScope sXMachineB) := ⟨rfl, rfl, rfl, by decide +kernel, rfl, by decide +kernel, by decide +kernel⟩
theorem scXPlainB : FnScope ["pen", "base", "letters", "most", "wide", "many", "states", "state", "letter"] ["pen", "base", "letters", "most", "wide"] (defScope sXPlainB) := ⟨rfl, rfl, rfl, by decide +kernel, rfl, by decide +kernel, by decide +kernel⟩
theorem scXFreeB : FnScope ["letters"] ["letters"] (defScope sXFreeB) := ⟨rfl, rfl, rfl, by decide +kernel, rfl, by decide +kernel, by decide +kernel⟩
theorem scXBounds : FnScope ["pen", "way", "base", "many", "some", "letters", "pay"] ["pen"] (defScope sXBounds) := ⟨rfl, rfl, rfl, by decide +kernel, rfl, by decide +kernel, by decide +kernel⟩
structure BldTxt (K : PySem.W.Frag) (mg : Str → Option Value) (xm xp xf xo : Addr) (ym yp yf yo : FuncData) : Prop where
  range : mg "range" = none
  len : mg "len" = none
  tuple : mg "tuple" = none
  int : mg "int" = none
  FXMachineB : Fun K "_law_x_machine" "_law_x_machine" sXMachineB xm ym
  bXMachineB : Binds K ym ["pen", "base", "letters", "most", "wide"] []
  gXMachineB : mg "_law_x_machine" = some (.ref xm)
  FXPlainB : Fun K "_law_x_plain" "_law_x_plain" sXPlainB xp yp
  bXPlainB : Binds K yp ["pen", "base", "letters", "most", "wide"] []
  gXPlainB : mg "_law_x_plain" = some (.ref xp)
  FXFreeB : Fun K "_law_x_free" "_law_x_free" sXFreeB xf yf
  bXFreeB : Binds K yf ["letters"] []
  gXFreeB : mg "_law_x_free" = some (.ref xf)
  FXBounds : Fun K "_law_x_bounds" "_law_x_bounds" sXBounds xo yo
  bXBounds : Binds K yo ["pen"] []
  gXBounds : mg "_law_x_bounds" = some (.ref xo)
def isP (d : PyData) : Prop := ∃ a b : Int, d = .tuple [.int a, .int b] ∧ a.natAbs < 10 ^ 38 ∧ b.natAbs < 10000
theorem isP_gd {d : PyData} (h : isP d) : Gd 1 262 d := by
  obtain ⟨a, b, rfl, ha, hb⟩ := h
  exact gd_two (gd_int ha) (gd_small hb)
theorem lay_P : ∀ l : List PyData, (∀ e ∈ l, isP e) → PyData.canLayAll0 l = true ∧ PyData.depthAll l ≤ 1 ∧ PyData.hasDictAll l = false
  | [], _ => by simp [PyData.canLayAll0, PyData.depthAll, PyData.hasDictAll]
  | x :: a, h => by
    have ih := lay_P a fun e he => h e (.tail _ he)
    obtain ⟨p, t, rfl, _⟩ := h x (.head _)
    simp [PyData.canLayAll0, PyData.depthAll, PyData.canLay0, PyData.depth, PyData.hasDictAll, PyData.hasDict, ih]
def spMachB (K : PySem.W.Frag) : Sp := fun vs H Q _ => ∃ (p : Addr) (n : Nat) (b : Int) (z : Str) (most wide : Int), vs = [.ref p, .int b, .str z, .int most, .int wide] ∧ Pen H p n ∧ n < 1046000 ∧ lettersL z.cps.toList = true ∧ b.natAbs < 10000 ∧ 1 ≤ most ∧ most ≤ 4 ∧ 1 ≤ wide ∧ wide ≤ 20 ∧
  ∀ (H' : Hp) (t : Addr) (d : PyData), But p H H' → Pen H' p (n + 100) → Rt H' (.ref t) d → Gd 5 9760 d → Q (.ref t) H'
theorem RtAll.snoc {H : Hp} {vs : List V} {ds : List PyData} {v : V} {d : PyData} (h : RtAll H vs ds) (h1 : Rt H v d) : RtAll H (vs ++ [v]) (ds ++ [d]) := h.app (.cons h1 .nil)
theorem mem_snoc {α : Type} {P : α → Prop} {l : List α} {x : α} (h : ∀ y ∈ l, P y) (hx : P x) : ∀ y ∈ l ++ [x], P y := fun y hy => by
  rcases List.mem_append.mp hy with m | m
  · exact h y m
  · rw [List.mem_singleton.mp m]
    exact hx
section
variable {P : Program} {w : World} {K : PySem.W.Frag} {mg : Str → Option Value} {base : Heap} {f1 f2 f3 f4 : Addr} {d1 d2 d3 d4 : FuncData} {xm xp xf xo : Addr} {ym yp yf yo : FuncData}
theorem ok_machB (TP : PenTxt K mg f1 f2 f3 f4 d1 d2 d3 d4) (T : BldTxt K mg xm xp xf xo ym yp yf yo) {k : Nat} : FnOk P w K mg base CX0 (k + 4) xm ym ["pen", "base", "letters", "most", "wide"] (spMachB K) := by
  have GTC : FnOk P w K mg base CX0 (k + 3) f3 d3 ["pen", "many"] spTakeC := ok_takeC TP (k := k + 1)
  have GP : FnOk P w K mg base CX0 (k + 3) f4 d4 ["pen", "some"] (spPickC K) := ok_pickC TP (k := k)
  refine T.FXMachineB.ok scXMachineB (fun vs H Q E h => ?_) (fun cdv A outer s H vs Q E hr h => ?_)
  · obtain ⟨p, n, b, z, most, wide, rfl, _⟩ := h
    rfl
  · obtain ⟨p, n, b, z, most, wide, rfl, hP, hn, hl, hb, m1, m4, w1, w20, q⟩ := h
    have hu : (A.deeper (envOfC "_law_x_machine" (defScope sXMachineB) s.heap.objs.size xm cdv)).units + 65 < cLine := by have := hr.un; omega
    refine ⟨_, (Evl.pss_cut (ps_par (i := 5) (j := 6) (by rfl) scXMachineB.nd rfl rfl (by decide) rfl rfl (pa_cons (pe_op op_add pe_int (pe_call GTC hr (by rfl) TP.gTake TP.FTake.kp TP.bTake .nil pass0 (pa_cons (pv 0) (pa_cons (pv 3) pa_nil)))) (pa_cons (pe_lst pa_nil) pa_nil)) (by rfl))
 (pss_cons (ps_for PassesOwn.never rfl (pi_range1 (by rfl) T.range (pa_cons (pv 5) pa_nil)) (pg_name (i := 7) scXMachineB.nd rfl (.inl rfl))
 (pss_cons (ps_set (i := 8) scXMachineB.nd rfl (.inl rfl) (pe_lst pa_nil))
 (pss_cons (ps_for PassesOwn.never rfl (pi_str (pv 2)) (pg_name (i := 9) scXMachineB.nd rfl (.inl rfl))
 (pss_cons (ps_set (i := 10) scXMachineB.nd rfl (.inl rfl) (pe_lst pa_nil))
 (pss_cons (ps_for PassesOwn.never rfl (pi_range1 (by rfl) T.range (pa_cons (pe_call GP hr (by rfl) TP.gPick TP.FPick.kp TP.bPick .nil pass0 (pa_cons (pv 0) (pa_cons (pe_lst (pa_cons pe_int (pa_cons pe_int (pa_cons pe_int (pa_cons pe_int (pa_cons pe_int pa_nil)))))) pa_nil))) pa_nil)) (pg_name (i := 11) scXMachineB.nd rfl (.inl rfl))
 (pss_cons (ps_set (i := 12) scXMachineB.nd rfl (.inl rfl) (pe_tup (pa_cons (pe_op op_sub (pe_call GTC hr (by rfl) TP.gTake TP.FTake.kp TP.bTake .nil pass0 (pa_cons (pv 0) (pa_cons (pe_op op_add (pe_op op_mul pe_int (pv 4)) pe_int) pa_nil))) (pv 4)) (pa_cons (pe_call GTC hr (by rfl) TP.gTake TP.FTake.kp TP.bTake .nil pass0 (pa_cons (pv 0) (pa_cons (pv 5) pa_nil))) pa_nil))))
 (pss_one (ps_set (i := 10) scXMachineB.nd rfl (.inl rfl) (pe_op op_cat (pv 10) (pe_op op_rep (pe_lst (pa_cons (pv 12) pa_nil)) (pe_callTy call_int1 (by rfl) T.int (by decide +kernel) (pa_cons (pe_cmpR (op_notInD hu) (pv 12) (pv 10) (by rfl)) pa_nil))))))))
 (pss_one (ps_expr (pe_bm PySem.F.plainAttrs_list PySem.F.slot_list_append PySem.F.type_list_append mt_append (pv 8) (pa_cons (pe_callTy call_tuple_of (by rfl) T.tuple (by decide +kernel) (pa_cons (pv 10) pa_nil)) pa_nil)))))))
 (pss_one (ps_expr (pe_bm PySem.F.plainAttrs_list PySem.F.slot_list_append PySem.F.type_list_append mt_append (pv 6) (pa_cons (pe_callTy call_tuple_of (by rfl) T.tuple (by decide +kernel) (pa_cons (pv 8) pa_nil)) pa_nil)))))))
 (pss_one (ps_ret (pe_tup (pa_cons (pv 1) (pa_cons (pv 2) (pa_cons (pe_callTy call_tuple_of (by rfl) T.tuple (by decide +kernel) (pa_cons (pv 6) pa_nil)) pa_nil)))))))), ?_⟩
    obtain ⟨c, hP⟩ := hP.at
    have z3 : z.cps.size ≤ 3 := ltrD_len (d := .str z) hl
    have sl3 : ∀ {m : Nat}, m ≤ 100 → m < sizeLine := fun h => Nat.lt_of_le_of_lt h (by decide)
    refine ⟨fun σ H' => ∃ (mi : Int) (S : Addr), σ = [some (.ref p), some (.int b), some (.str z), some (.int most), some (.int wide), some (.int mi), some (.ref S), none, none, none, none, none, none] ∧ 1 ≤ mi ∧ mi ≤ 4 ∧ But p H H' ∧ PenC H' p c (n + 1) ∧ H' S = some (.lst []) ∧ S ≠ p ∧ S ≠ c ∧ H S = none, ?_, ?_⟩
    · refine ⟨_, rfl, _, rfl, p, c, most, n, rfl, hP, by omega, by omega, log_small (m := 4) (by omega) (by decide), fun H1 k1 b1 hP1 k10 k11 => ⟨_, _, rfl, rfl, (by show 0 ≤ sizeLine; decide), fun S hS => ?_⟩⟩
      have x1 := same_upd (o := HO.lst []) hS
      obtain ⟨c1, _, _, hp1, hc1, _⟩ := hP1.ex
      refine ⟨_, _, rfl, 1 + k1, S, rfl, by omega, by omega, b1.trans (But.of x1), hP1.same x1, upd_same, (ne_of_none hp1 hS).symm, (ne_of_none hc1 hS).symm, but_none b1 (ne_of_none hp1 hS).symm hS⟩
    rintro σ H1 ⟨mi, S, rfl, i1, i4, b1, hP1, hS, nSp, nSc, S0⟩
    refine ⟨_, rfl, _, rfl, by omega, by omega, ?_⟩
    refine for_range (lo := 0) (n := mi.toNat) (fun i σ H' => ∃ v7 v8 v9 v10 v11 v12 vs ds, σ = [some (.ref p), some (.int b), some (.str z), some (.int most), some (.int wide), some (.int mi), some (.ref S), v7, v8, v9, v10, v11, v12] ∧ But p H H' ∧ PenC H' p c (n + 1 + 22 * i) ∧ H' S = some (.lst vs) ∧ RtAll H' vs ds ∧ vs.length = i ∧ ∀ d ∈ ds, Gd 3 2370 d)
      ⟨none, none, none, none, none, none, [], [], rfl, b1, hP1, hS, .nil, rfl, fun _ h => nomatch h⟩ ?_ ?_
    · rintro i σ H2 hi ⟨v7, v8, v9, v10, v11, v12, vs, ds, rfl, b2, hP2, hS2, hV, lv, ok⟩
      refine ⟨(by show 0 ≤ sizeLine; decide), fun R hR => ?_⟩
      have xR := same_upd (o := HO.lst []) hR
      obtain ⟨_, _, _, hp2, hc2, _⟩ := hP2.ex
      have nRp := (ne_of_none hp2 hR).symm
      have nRc := (ne_of_none hc2 hR).symm
      have nRS := (ne_of_none hS2 hR).symm
      have R0 := but_none b2 nRp hR
      refine ⟨_, rfl, z, rfl, ?_⟩
      refine for_it walk_str (fun j σ H' => ∃ v9 v10 v11 v12 us es, σ = [some (.ref p), some (.int b), some (.str z), some (.int most), some (.int wide), some (.int mi), some (.ref S), some (.int (0 + (i : Int))), some (.ref R), v9, v10, v11, v12] ∧ But p H H' ∧ PenC H' p c (n + 1 + 22 * i + 7 * j) ∧ H' S = some (.lst vs) ∧ RtAll H' vs ds ∧ H' R = some (.lst us) ∧ RtAll H' us es ∧ us.length = j ∧ ∀ d ∈ es, Gd 2 789 d)
        ⟨v9, v10, v11, v12, [], [], rfl, b2.trans (But.of xR), hP2.same xR, xR _ _ hS2, hV.go (butT_same xR), upd_same, .nil, rfl, fun _ h => nomatch h⟩ (fun _ _ _ _ _ => trivial) ?_ ?_
      · rintro j u σ H' H3 hj ⟨v9, v10, v11, v12, us, es, rfl, b3, hP3, hS3, hV3, hR3, hU3, lu, oku⟩ ⟨rfl, cc, hcc, rfl⟩
        refine ⟨(by show 0 ≤ sizeLine; decide), fun C hC => ?_⟩
        have xC := same_upd (o := HO.lst []) hC
        have hPC := hP3.same xC
        refine ⟨_, rfl, (by show 5 ≤ sizeLine; decide), fun L hL => ?_⟩
        have xL := same_upd (o := HO.lst [.int 1, .int 1, .int 2, .int 2, .int 3]) hL
        have hPL := hPC.same xL
        obtain ⟨_, _, _, hp3, _⟩ := hPC.ex
        refine ⟨p, c, L, _, _, rfl, hPL, by omega, SqL.of upd_same, (ne_of_none hp3 hL).symm, (by show 0 < 5; decide), (by show 5 ≤ 1000; decide), fun H4 m v b4 hP4 hm => ?_⟩
        have hv : ∃ g : Int, v = .int g ∧ 1 ≤ g ∧ g ≤ 3 := by
          match m, hm with
          | 0, hm => exact ⟨1, (Option.some.inj hm).symm, by omega, by omega⟩
          | 1, hm => exact ⟨1, (Option.some.inj hm).symm, by omega, by omega⟩
          | 2, hm => exact ⟨2, (Option.some.inj hm).symm, by omega, by omega⟩
          | 3, hm => exact ⟨2, (Option.some.inj hm).symm, by omega, by omega⟩
          | 4, hm => exact ⟨3, (Option.some.inj hm).symm, by omega, by omega⟩
          | m + 5, hm => exact absurd hm (by simp)
        obtain ⟨g, rfl, g1, g3⟩ := hv
        have nCp := (ne_of_none (hP3.ex.choose_spec.choose_spec.choose_spec.1) hC).symm
        have bCL : But p H3 H4 := (But.of (xC.trans xL)).trans b4
        have bT4 : ButT H3 H4 := butT_but hP3.pen bCL
        refine ⟨_, rfl, by omega, by omega, ?_⟩
        refine for_range (lo := 0) (n := g.toNat) (fun e σ H' => ∃ v11 v12 C ws fs, σ = [some (.ref p), some (.int b), some (.str z), some (.int most), some (.int wide), some (.int mi), some (.ref S), some (.int (0 + (i : Int))), some (.ref R), some (.str ⟨#[cc]⟩), some (.ref C), v11, v12] ∧ But p H3 H' ∧ PenC H' p c (n + 1 + 22 * i + 7 * j + 1 + 2 * e) ∧ H' C = some (.lst ws) ∧ RtAll H' ws fs ∧ ws.length ≤ e ∧ (∀ d ∈ fs, isP d) ∧ C ≠ p)
          ⟨v11, v12, C, [], [], rfl, bCL, hP4, b4 _ _ nCp (xL _ _ upd_same), .nil, Nat.le_refl _, (fun _ h => nomatch h), nCp⟩ ?_ ?_
        · rintro e σ H5 he ⟨v11, v12, C, ws, fs, rfl, b5, hP5, hC5, hW5, lw, okw, nCp5⟩
          refine ⟨_, rfl, _, rfl, _, _, rfl, rfl, .inl ⟨by decide, by decide⟩, _, _, rfl, rfl, p, c, 2 * wide + 1, _, rfl, hP5, by omega, by omega, log_small (m := 41) (by omega) (by decide), fun H6 k6 b6 hP6 k60 k61 => ?_⟩
          refine ⟨_, rfl, _, _, rfl, rfl, _, rfl, _, rfl, p, c, mi, _, rfl, hP6, by omega, by omega, log_small (m := 4) (by omega) (by decide), fun H7 k7 b7 hP7 k70 k71 => ⟨(by show 2 ≤ sizeLine; decide), fun T hT => ?_⟩⟩
          have b67 := b6.trans b7
          have bT7 : ButT H5 H7 := butT_but hP5.pen b67
          have hC7 := b67 _ _ nCp5 hC5
          have xT := same_upd (o := HO.tup [.int (k6 - wide), .int k7]) hT
          refine ⟨_, rfl, _, rfl, (by show 1 ≤ sizeLine; decide), fun M hM => ?_⟩
          have xM := same_upd (o := HO.lst [.ref T]) hM
          have xTM := xT.trans xM
          have isp : isP (.tuple [.int (k6 - wide), .int k7]) := ⟨_, _, rfl, Nat.lt_trans (show (k6 - wide).natAbs < 10000 by omega) (by decide), by omega⟩
          have rT : Rt _ (.ref T) (.tuple [.int (k6 - wide), .int k7]) := .tup (xM _ _ upd_same) (.cons (.int _) (.cons (.int _) .nil))
          have hCM := xTM _ _ hC7
          have hWM := (hW5.go bT7).go (butT_same xTM)
          have lay := lay_P fs okw
          have sht : SeqAt.shaped (.list fs) = true := by
            have l2 := lay.2.1
            simp [SeqAt.shaped, PyData.canLay0, PyData.depth, lay.1]
            omega
          refine ⟨_, rfl, _, rfl, .tuple [.int (k6 - wide), .int k7], fs, (rT.rp (K := K)).dp rT.no.2, .lst (SqL.of hCM) ((hWM.rp (K := K)).dp lay.2.2), shaped_intsT [k6 - wide, k7], sht, ?_⟩
          generalize (!fs.any fun z => PyData.eqv z (.tuple [.int (k6 - wide), .int k7])) = bb
          cases bb with
          | true =>
            refine .inr ⟨true, rfl, M, 1, [V.ref T], rfl, rfl, upd_same, by decide, by decide, (by show 1 ≤ sizeLine; decide), fun N hN => ?_⟩
            have xN := same_upd (o := HO.lst [V.ref T]) hN
            refine ⟨C, N, ws, [V.ref T], rfl, rfl, xN _ _ hCM, upd_same, (by show ws.length + 1 ≤ sizeLine; exact Nat.le_of_lt (sl3 (by omega))), fun O hO => ?_⟩
            have xO := same_upd (o := HO.lst (ws ++ [V.ref T])) hO
            have x4 := (xTM.trans xN).trans xO
            obtain ⟨_, _, _, hp7, _, _⟩ := hP7.ex
            have nO : O ≠ p := (ne_of_none ((xTM.trans xN) _ _ hp7) hO).symm
            refine ⟨_, _, O, ws ++ [V.ref T], fs ++ [.tuple [.int (k6 - wide), .int k7]], rfl, b5.trans (b67.trans (But.of x4)), (hP7.same x4).mono (by omega), upd_same, ?_, ?_, ?_, nO⟩
            · exact (hWM.go (butT_same (xN.trans xO))).snoc (rT.go (butT_same (xN.trans xO)))
            · rw [List.length_append]
              show ws.length + 1 ≤ e + 1
              omega
            · exact mem_snoc okw isp
          | false =>
            refine .inr ⟨false, rfl, M, 0, [V.ref T], rfl, rfl, upd_same, by decide, by decide, (by show 0 ≤ sizeLine; decide), fun N hN => ?_⟩
            have xN := same_upd (o := HO.lst []) hN
            refine ⟨C, N, ws, [], rfl, rfl, xN _ _ hCM, upd_same, (by show ws.length + 0 ≤ sizeLine; exact Nat.le_of_lt (sl3 (by omega))), fun O hO => ?_⟩
            have xO := same_upd (o := HO.lst (ws ++ [])) hO
            have x4 := (xTM.trans xN).trans xO
            obtain ⟨_, _, _, hp7, _, _⟩ := hP7.ex
            have nO : O ≠ p := (ne_of_none ((xTM.trans xN) _ _ hp7) hO).symm
            refine ⟨_, _, O, ws ++ [], fs ++ [], rfl, b5.trans (b67.trans (But.of x4)), (hP7.same x4).mono (by omega), upd_same, ?_, ?_, ?_, nO⟩
            · exact (hWM.go (butT_same (xN.trans xO))).app .nil
            · rw [List.length_append]
              show ws.length + 0 ≤ e + 1
              omega
            · rw [List.append_nil]
              exact okw
        · rintro σ H5 ⟨v11, v12, C, ws, fs, rfl, b5, hP5, hC5, hW5, lw, okw, nCp5⟩
          have bT5 : ButT H3 H5 := butT_but hP3.pen b5
          have hR5 := b5 _ _ nRp hR3
          have hS5 := b5 _ _ nSp hS3
          refine ⟨_, rfl, .inl ⟨rfl, _, SqL.of hR5⟩, _, rfl, C, _, rfl, .inl ⟨SqL.of hC5, fun t ht => ?_⟩⟩
          have xt := same_upd (o := HO.tup ws) ht
          have bt := butT_lst (o := HO.lst (us ++ [V.ref t])) (xt _ _ hR5)
          have gd : Gd 2 789 (.tuple fs) := gd_tup (n := 3) (fun d hd => isP_gd (okw d hd)) (by rw [← hW5.len]; omega)
          have z9 : z.cps.size ≤ 3 := z3
          refine ⟨R, _, _, rfl, rfl, xt _ _ hR5, sl3 (by omega), ?_⟩
          refine ⟨_, _, _, _, us ++ [V.ref t], es ++ [.tuple fs], rfl, ?_, ?_, ?_, ?_, upd_same, ?_, by rw [List.length_append, lu]; rfl, mem_snoc oku gd⟩
          · intro b o nb e
            rw [upd_ne (ne_of_none e R0)]
            exact xt _ _ (b5 _ _ nb (b3 _ _ nb e))
          · exact (hP5.keep (fun o e => by rw [upd_ne nRp.symm]; exact xt _ _ e) (fun o e => by rw [upd_ne nRc.symm]; exact xt _ _ e)).mono (by omega)
          · rw [upd_ne nRS.symm]
            exact xt _ _ hS5
          · exact ((hV3.go bT5).go (butT_same xt)).go bt
          · exact (((hU3.go bT5).go (butT_same xt)).go bt).snoc (.tup (bt _ _ upd_same) ((hW5.go (butT_same xt)).go bt))
      · rintro σ H4 ⟨v9, v10, v11, v12, us, es, rfl, b4, hP4, hS4, hV4, hR4, hU4, lu, oku⟩
        have lu3 : us.length ≤ 3 := by rw [lu]; exact z3
        refine ⟨_, rfl, .inl ⟨rfl, _, SqL.of hS4⟩, _, rfl, R, _, rfl, .inl ⟨SqL.of hR4, fun t ht => ?_⟩⟩
        have xt := same_upd (o := HO.tup us) ht
        refine ⟨S, _, _, rfl, rfl, xt _ _ hS4, sl3 (by omega), ?_⟩
        have gd : Gd 3 2370 (.tuple es) := gd_tup oku (by rw [← hU4.len]; exact lu3)
        have bt := butT_lst (o := HO.lst (vs ++ [V.ref t])) (xt _ _ hS4)
        refine ⟨_, _, _, _, _, _, vs ++ [V.ref t], ds ++ [.tuple es], rfl, ?_, ?_, upd_same, ?_, by rw [List.length_append, lv]; rfl, mem_snoc ok gd⟩
        · intro b o nb e
          rw [upd_ne (ne_of_none e S0)]
          exact xt _ _ (b4 _ _ nb e)
        · exact (hP4.keep (fun o e => by rw [upd_ne nSp.symm]; exact xt _ _ e) (fun o e => by rw [upd_ne nSc.symm]; exact xt _ _ e)).mono (by have : z.cps.size ≤ 3 := z3; omega)
        · exact ((hV4.go (butT_same xt)).go bt).snoc (.tup (bt _ _ upd_same) ((hU4.go (butT_same xt)).go bt))
    · rintro σ H2 ⟨v7, v8, v9, v10, v11, v12, vs, ds, rfl, b2, hP2, hS2, hV, lv, ok⟩
      refine ⟨_, rfl, _, rfl, _, rfl, S, _, rfl, .inl ⟨SqL.of hS2, fun t ht => ⟨(by show 3 ≤ sizeLine; decide), fun u hu => ?_⟩⟩⟩
      have xt := same_upd (o := HO.tup vs) ht
      have xu := same_upd (o := HO.tup [V.int b, V.str z, V.ref t]) hu
      have x2 := xt.trans xu
      have hz : z.length ≤ sizeLine := Nat.le_trans (show z.length ≤ 3 from z3) (by decide)
      refine q _ u _ (b2.trans (But.of x2)) ((hP2.same x2).mono (by omega)).pen (.tup upd_same (.cons (.int b) (.cons (.str z hz) (.cons (.tup (xu _ _ upd_same) (hV.go (butT_same x2))) .nil)))) ?_
      exact (gd_three ((gd_small hb).mono (Nat.zero_le 4) (Nat.le_refl _)) ((gd_ltr hl).mono (Nat.zero_le 4) (Nat.le_refl _)) (gd_tup (n := 4) ok (by rw [← hV.len, lv]; omega))).mono (by decide) (by decide)
end
end My
/-! ### the law's plain machine -/
namespace My
open PySem PySem.Spec PyProof.Rows L2

def wideI : Int := (10 : Int) ^ (30 : Int).toNat
theorem wide_ok : 0 < wideI ∧ wideI < 2 ^ 100 := by decide +kernel
def spPlnB (K : PySem.W.Frag) : Sp := fun vs H Q _ => ∃ (p : Addr) (n : Nat) (b : Int) (z : Str) (most : Int), vs = [.ref p, .int b, .str z, .int most, .int wideI] ∧ Pen H p n ∧ n < 1046000 ∧ lettersL z.cps.toList = true ∧ b.natAbs < 10000 ∧ 1 ≤ most ∧ most ≤ 6 ∧
  ∀ (H' : Hp) (t : Addr) (d : PyData), But p H H' → Pen H' p (n + 50) → Rt H' (.ref t) d → Gd 4 5010 d → Q (.ref t) H'
section
variable {P : Program} {w : World} {K : PySem.W.Frag} {mg : Str → Option Value} {base : Heap} {f1 f2 f3 f4 : Addr} {d1 d2 d3 d4 : FuncData} {xm xp xf xo : Addr} {ym yp yf yo : FuncData}
theorem ok_plnB (TP : PenTxt K mg f1 f2 f3 f4 d1 d2 d3 d4) (T : BldTxt K mg xm xp xf xo ym yp yf yo) {k : Nat} : FnOk P w K mg base CX0 (k + 4) xp yp ["pen", "base", "letters", "most", "wide"] (spPlnB K) := by
  have GTC : FnOk P w K mg base CX0 (k + 3) f3 d3 ["pen", "many"] spTakeC := ok_takeC TP (k := k + 1)
  refine T.FXPlainB.ok scXPlainB (fun vs H Q E h => ?_) (fun cdv A outer s H vs Q E hr h => ?_)
  · obtain ⟨p, n, b, z, most, rfl, _⟩ := h
    rfl
  · obtain ⟨p, n, b, z, most, rfl, hP, hn, hl, hb, m1, m4, q⟩ := h
    refine ⟨_, (Evl.pss_cut (ps_asg (pe_tup (pa_cons (pe_op op_add pe_int (pe_call GTC hr (by rfl) TP.gTake TP.FTake.kp TP.bTake .nil pass0 (pa_cons (pv 0) (pa_cons (pv 3) pa_nil)))) (pa_cons (pe_lst pa_nil) pa_nil))) (pg_tup rfl (pgs_cons (pg_name (i := 5) scXPlainB.nd rfl (.inr rfl)) (pgs_cons (pg_name (i := 6) scXPlainB.nd rfl (.inl rfl)) pgs_nil))))
 (pss_cons (ps_for PassesOwn.never rfl (pi_range1 (by rfl) T.range (pa_cons (pv 5) pa_nil)) (pg_name (i := 7) scXPlainB.nd rfl (.inl rfl))
 (pss_one (ps_expr (pe_bm PySem.F.plainAttrs_list PySem.F.slot_list_append PySem.F.type_list_append mt_append (pv 6) (pa_cons (pe_callTy call_tuple_of (by rfl) T.tuple (by decide +kernel) (pa_cons (pe_lc (own := [("letter", 8)]) (g := gName 8) (tt := tYes) (by rfl) scXPlainB.nd (pi_str (pv 2)) (blkOk_by (N := ["pen", "base", "letters", "most", "wide", "many", "states", "state", "letter"]) (sc := defScope sXPlainB) (by decide +kernel)) (fun _ _ _ _ _ => pg_name (i := 8) scXPlainB.nd rfl (Or.inl rfl)) (fun _ _ _ _ _ => pts_nil) (fun _ _ _ _ _ => (pe_tup (pa_cons (pe_op op_sub (pe_call GTC hr (by rfl) TP.gTake TP.FTake.kp TP.bTake .nil pass0 (pa_cons (pv 0) (pa_cons (pe_op op_add (pe_op op_mul pe_int (pv 4)) pe_int) pa_nil))) (pv 4)) (pa_cons (pe_call GTC hr (by rfl) TP.gTake TP.FTake.kp TP.bTake .nil pass0 (pa_cons (pv 0) (pa_cons (pv 5) pa_nil))) pa_nil))))) pa_nil)) pa_nil)))))
 (pss_one (ps_ret (pe_tup (pa_cons (pv 1) (pa_cons (pv 2) (pa_cons (pe_callTy call_tuple_of (by rfl) T.tuple (by decide +kernel) (pa_cons (pv 6) pa_nil)) pa_nil)))))))), ?_⟩
    obtain ⟨c, hP⟩ := hP.at
    obtain ⟨wi0, wi1⟩ := wide_ok
    generalize wideI = wide at wi0 wi1
    have z3 : z.cps.size ≤ 3 := ltrD_len (d := .str z) hl
    have sl3 : ∀ {m : Nat}, m ≤ 100 → m < sizeLine := fun h => Nat.lt_of_le_of_lt h (by decide)
    refine ⟨fun σ H' => ∃ (mi : Int) (S : Addr), σ = [some (.ref p), some (.int b), some (.str z), some (.int most), some (.int wide), some (.int mi), some (.ref S), none, none] ∧ 1 ≤ mi ∧ mi ≤ 6 ∧ But p H H' ∧ PenC H' p c (n + 1) ∧ H' S = some (.lst []) ∧ S ≠ p ∧ S ≠ c ∧ H S = none, ?_, ?_⟩
    · refine ⟨_, rfl, _, rfl, p, c, most, n, rfl, hP, by omega, by omega, log_small (m := 6) (by omega) (by decide), fun H1 k1 b1 hP1 k10 k11 => ⟨_, _, rfl, rfl, (by show 0 ≤ sizeLine; decide), fun S hS => ⟨(by show 2 ≤ sizeLine; decide), fun t ht => ?_⟩⟩⟩
      have x1 := same_upd (o := HO.lst []) hS
      have x2 := x1.trans (same_upd (o := HO.tup [.int (1 + k1), .ref S]) ht)
      obtain ⟨c1, _, _, hp1, hc1, _⟩ := hP1.ex
      refine ⟨t, _, rfl, SqT.of upd_same, rfl, _, _, rfl, _, _, rfl, rfl, 1 + k1, S, rfl, by omega, by omega, b1.trans (But.of x2), hP1.same x2, same_upd ht _ _ upd_same, (ne_of_none hp1 hS).symm, (ne_of_none hc1 hS).symm, but_none b1 (ne_of_none hp1 hS).symm hS⟩
    rintro σ H1 ⟨mi, S, rfl, i1, i4, b1, hP1, hS, nSp, nSc, S0⟩
    refine ⟨_, rfl, _, rfl, by omega, by omega, ?_⟩
    refine for_range (lo := 0) (n := mi.toNat) (fun i σ H' => ∃ v7 vs ds, σ = [some (.ref p), some (.int b), some (.str z), some (.int most), some (.int wide), some (.int mi), some (.ref S), v7, none] ∧ But p H H' ∧ PenC H' p c (n + 1 + 6 * i) ∧ H' S = some (.lst vs) ∧ RtAll H' vs ds ∧ vs.length = i ∧ ∀ d ∈ ds, Gd 2 789 d)
      ⟨none, [], [], rfl, b1, hP1, hS, .nil, rfl, fun _ h => nomatch h⟩ ?_ ?_
    · rintro i σ H2 hi ⟨v7, vs, ds, rfl, b2, hP2, hS2, hV, lv, ok⟩
      refine ⟨_, rfl, .inl ⟨rfl, _, SqL.of hS2⟩, _, rfl, z, rfl, fun D nD => ?_⟩
      obtain ⟨_, _, _, hp2, hc2, _⟩ := hP2.ex
      have xD := same_upd (o := HO.lst []) nD
      have nDp := (ne_of_none hp2 nD).symm
      have nDc := (ne_of_none hc2 nD).symm
      refine lc_it walk_str (fun j H' => ∃ us es, But p H2 H' ∧ PenC H' p c (n + 1 + 6 * i + 2 * j) ∧ H' D = some (.lst us) ∧ RtAll H' us es ∧ us.length = j ∧ ∀ d ∈ es, isP d) ⟨[], [], But.of xD, hP2.same xD, upd_same, .nil, rfl, fun _ h => nomatch h⟩ (fun _ _ _ _ => trivial) ?_ ?_
      · rintro j u H' H3 hj ⟨us, es, bj, hPj, hD, hU, lu, oku⟩ ⟨rfl, cc, hcc, rfl⟩
        refine ⟨rfl, ?_⟩
        refine ⟨_, rfl, _, rfl, _, _, rfl, rfl, .inl ⟨by decide, by decide⟩, _, _, rfl, rfl, p, c, 2 * wide + 1, _, rfl, hPj, by omega, by omega, ?_, fun H6 k6 b6 hP6 k60 k61 => ?_⟩
        · exact Nat.lt_trans (log_le (k := 103) (show (2 * wide + 1).natAbs < 2 ^ 103 by omega) (by decide)) (by decide)
        refine ⟨_, rfl, _, _, rfl, rfl, _, rfl, _, rfl, p, c, mi, _, rfl, hP6, by omega, by omega, log_small (m := 6) (by omega) (by decide), fun H7 k7 b7 hP7 k70 k71 => ⟨(by show 2 ≤ sizeLine; decide), fun T hT => ?_⟩⟩
        have b67 := b6.trans b7
        have bT7 : ButT H3 H7 := butT_but hPj.pen b67
        have hD7 := b67 _ _ nDp hD
        have xT := same_upd (o := HO.tup [.int (k6 - wide), .int k7]) hT
        have isp : isP (.tuple [.int (k6 - wide), .int k7]) := ⟨_, _, rfl, Nat.lt_trans (show (k6 - wide).natAbs < 2 ^ 103 by omega) (by decide +kernel), by omega⟩
        have hDT := xT _ _ hD7
        have bt := butT_lst (o := HO.lst (us ++ [V.ref T])) hDT
        have z9 : z.cps.size ≤ 3 := z3
        refine ⟨_, hDT, sl3 (by omega), us ++ [V.ref T], es ++ [.tuple [.int (k6 - wide), .int k7]], ?_, ?_, upd_same, ?_, by rw [List.length_append, lu]; rfl, mem_snoc oku isp⟩
        · intro b o nb e
          rw [upd_ne (ne_of_none e nD)]
          exact xT _ _ (b67 _ _ nb (bj _ _ nb e))
        · exact (hP7.keep (fun o e => by rw [upd_ne nDp.symm]; exact xT _ _ e) (fun o e => by rw [upd_ne nDc.symm]; exact xT _ _ e)).mono (by omega)
        · exact (((hU.go bT7).go (butT_same xT)).go bt).snoc (.tup (bt _ _ upd_same) (.cons (.int _) (.cons (.int _) .nil)))
      · rintro H3 ⟨us, es, bj, hPj, hD, hU, lu, oku⟩
        have lu3 : us.length ≤ 3 := by rw [lu]; exact z3
        refine ⟨D, _, rfl, .inl ⟨SqL.of hD, fun t ht => ?_⟩⟩
        have xt := same_upd (o := HO.tup us) ht
        have hS3 := xt _ _ (bj _ _ nSp hS2)
        refine ⟨S, _, _, rfl, rfl, hS3, sl3 (by omega), ?_⟩
        have gd : Gd 2 789 (.tuple es) := gd_tup (n := 3) (fun d hd => isP_gd (oku d hd)) (by rw [← hU.len]; exact lu3)
        have bt := butT_lst (o := HO.lst (vs ++ [V.ref t])) hS3
        have bT3 : ButT H2 H3 := butT_but hP2.pen bj
        refine ⟨_, vs ++ [V.ref t], ds ++ [.tuple es], rfl, ?_, ?_, upd_same, ?_, by rw [List.length_append, lv]; rfl, mem_snoc ok gd⟩
        · intro b o nb e
          rw [upd_ne (ne_of_none e S0)]
          exact xt _ _ (bj _ _ nb (b2 _ _ nb e))
        · exact (hPj.keep (fun o e => by rw [upd_ne nSp.symm]; exact xt _ _ e) (fun o e => by rw [upd_ne nSc.symm]; exact xt _ _ e)).mono (by have : z.cps.size ≤ 3 := z3; omega)
        · exact (((hV.go bT3).go (butT_same xt)).go bt).snoc (.tup (bt _ _ upd_same) ((hU.go (butT_same xt)).go bt))
    · rintro σ H2 ⟨v7, vs, ds, rfl, b2, hP2, hS2, hV, lv, ok⟩
      refine ⟨_, rfl, _, rfl, _, rfl, S, _, rfl, .inl ⟨SqL.of hS2, fun t ht => ⟨(by show 3 ≤ sizeLine; decide), fun u hu => ?_⟩⟩⟩
      have xt := same_upd (o := HO.tup vs) ht
      have xu := same_upd (o := HO.tup [V.int b, V.str z, V.ref t]) hu
      have x2 := xt.trans xu
      have hz : z.length ≤ sizeLine := Nat.le_trans (show z.length ≤ 3 from z3) (by decide)
      refine q _ u _ (b2.trans (But.of x2)) ((hP2.same x2).mono (by omega)).pen (.tup upd_same (.cons (.int b) (.cons (.str z hz) (.cons (.tup (xu _ _ upd_same) (hV.go (butT_same x2))) .nil)))) ?_
      exact (gd_three ((gd_small hb).mono (Nat.zero_le 3) (Nat.le_refl _)) ((gd_ltr hl).mono (Nat.zero_le 3) (Nat.le_refl _)) (gd_tup (n := 6) ok (by rw [← hV.len, lv]; omega))).mono (by decide) (by decide)
end
end My
/-! ### tuple * 0 -/
namespace My
open PySem PySem.Spec PyProof.Rows L2
theorem tuple_mul0 (l : Addr) (items : Array Value) (n : Nat) (dd : Option Addr) (sl : Array (Option Value)) (u : Tok) (c1 : (items.isEmpty || (0 : Int) == 1) = false) :
    Meets (Builtin.«tuple.__mul__» ⟨[.ref l, .int 0 u], []⟩) (fun _ R s => s.heap.get? l = some { cls := .type "tuple", dict := dd, data := .seq items n, slots := sl } ∧
      R (.ok (.ret (Value.ref s.heap.objs.size))) { s with heap := s.heap.push { cls := Value.type "tuple", data := Data.seq #[] }, toks := s.toks }) :=
  .of_wp fun prog w A R s h => by
    obtain ⟨hp, g, d, tk, os⟩ := s
    obtain ⟨hl, h⟩ := h
    have f1 := AutoSeq1.idx_int
    wp_walk using wpAny_loadPart' hl
    repeat (first
      | (refine wpAny_ite_false (decide_eq_false (by rw [c1]; exact Bool.false_ne_true)) ?_; wp_walk using wpAny_loadPart' hl))
    exact ⟨_, rfl, h⟩
def rRepTa (K : PySem.W.Frag) : R2 := fun x y H Q => ∃ l k xs, x = .ref l ∧ y = .int k ∧ SqT K H l xs ∧ xs ≠ [] ∧ 0 ≤ k ∧ k ≤ 1000 ∧ xs.length ≤ 1000 ∧ (k = 1 → Q (.ref l) H) ∧ ∀ p, H p = none → Q (.ref p) (upd H p (.tup (List.replicate k.toNat xs).flatten))
theorem op_repTa {X : Cx} : OpR X (binaryOp .Mult) (rRepTa X.K) := by
  intro pins s σ H x y v u Q I rx ry h
  obtain ⟨l, k, xs, rfl, rfl, hT, hne, h1, h2, hz, q1, q2⟩ := h
  by_cases e : k = 0
  · subst e
    cases rx
    obtain ⟨t, rfl⟩ := ry
    obtain ⟨its, r, ⟨⟨cls, dd, data, sl⟩, ho, hc, n, hd⟩, hs⟩ := I.tuple hT
    simp only at hc hd
    subst hc hd
    have hi : (its.toArray.isEmpty || (0 : Int) == 1) = false := by
      cases its with
      | nil =>
        cases r
        exact absurd rfl hne
      | cons a b => rfl
    exact wpAny_binaryOp_repeat_ref (T := "tuple") (U := "int") (by decide) ⟨_, ho, rfl⟩ (fun s' => typeIs_int s' 0 t) noFill_tuple_mul F.fills_int_mul F.slot_int_rmul repeat_tuple F.slot_int_index.lookup
      (call_meets F.slot_int_rmul (typeIs_int s 0 t) F.entry_int_rmul (F.args_int_rmul_2 _ _) (int_rmul_tuple 0 t l its.toArray n dd sl)
        ⟨ho, rfl, ⟨_, ho, rfl⟩, call_meets F.slot_tuple_mul ⟨_, ho, rfl⟩ F.entry_tuple_mul (F.args_tuple_mul_2 _ _) (tuple_mul0 l its.toArray n dd sl t hi) ⟨ho, ⟨.ref s.heap.objs.size, _, I.laid (t' := s.toks) (o := .tup []) (fun b ob q => Heap.get?_push_of_some _ q) (Nat.le_refl _) ⟨Nat.zero_le _, [], .nil, IsTup.new _ _⟩, rfl, q2 _ (I.hok.fresh (Nat.le_refl _))⟩⟩⟩)
  · exact op_repT1 pins s σ H (.ref l) (.int k) v u Q I rx ry ⟨l, k, xs, rfl, rfl, hT, hne, by omega, h2, hz, q1, q2⟩
theorem rep_any {K : PySem.W.Frag} {l : Addr} {x : V} {k : Int} {H : Hp} {Q : VK} (hl : H l = some (.tup [x])) (k0 : 0 ≤ k) (k1 : k ≤ 1000) (q : ∀ r H', Same H H' → H' r = some (.tup (List.replicate k.toNat x)) → Q (.ref r) H') : rRepTa K (.ref l) (.int k) H Q := by
  have e : (List.replicate k.toNat [x]).flatten = List.replicate k.toNat x := by simp
  refine ⟨l, k, [x], rfl, rfl, SqT.of hl, by simp, k0, k1, by simp, fun h => ?_, fun p hp => ?_⟩
  · subst h
    exact q l H (Same.refl H) hl
  · rw [e]
    exact q p _ (same_upd hp) upd_same
theorem rep_anyC {K : PySem.W.Frag} {σ : L2.St} {l : Addr} {x : V} {k : Int} {H : Hp} {Q : VK} (hl : H l = some (.tup [x])) (k0 : 0 ≤ k) (k1 : k ≤ 1000) (q : ∀ r H', Same H H' → H' r = some (.tup (List.replicate k.toNat x)) → Q (.ref r) H') : tC (.int k) σ H (fun y H2 => rRepTa K (.ref l) y H2 Q) := rep_any hl k0 k1 q
end My
/-! ### the law's free rule; what stands at a bound -/
namespace My
open PySem PySem.Spec PyProof.Rows L2

def spFreeB : Sp := fun vs H Q _ => ∃ z : Str, vs = [.str z] ∧ z.length ≤ 3 ∧ ∀ H' t, Same H H' → FreeAt H' t z → Q (.ref t) H'
def spBnd : Sp := fun vs H Q _ => ∃ (p : Addr) (n : Nat), vs = [.ref p] ∧ Pen H p n ∧ n < 1046000 ∧ ∀ (H' : Hp) (y : V) (d : PyData), But p H H' → Pen H' p (n + 5) → Rt H' y d → Gd 5 238100 d → Q y H'
theorem gd_one {D W : Nat} {d : PyData} (h : Gd D W d) : Gd (D + 1) (W + 1) (.tuple [d]) := (gd_tup (n := 1) (fun e he => by rw [List.mem_singleton.mp he]; exact h) (Nat.le_refl _)).mono (Nat.le_refl _) (by omega)
theorem gd_rep {D W m : Nat} {n : Nat} {d : PyData} (h : Gd D W d) (l : m ≤ n) : Gd (D + 1) (n * (W + 1)) (.tuple (List.replicate m d)) := gd_tup (fun e he => by rw [List.eq_of_mem_replicate he]; exact h) (by rw [List.length_replicate]; exact l)
theorem Rt.one {H : Hp} {t : Addr} {v : V} {d : PyData} (h : H t = some (.tup [v])) (r : Rt H v d) : Rt H (.ref t) (.tuple [d]) := .tup h (.cons r .nil)
theorem Rt.rep {H : Hp} {t : Addr} {v : V} {d : PyData} {n : Nat} (h : H t = some (.tup (List.replicate n v))) (r : Rt H v d) : Rt H (.ref t) (.tuple (List.replicate n d)) := .tup h (rtAll_rep r n)
section
variable {P : Program} {w : World} {K : PySem.W.Frag} {mg : Str → Option Value} {base : Heap} {f1 f2 f3 f4 : Addr} {d1 d2 d3 d4 : FuncData} {xm xp xf xo : Addr} {ym yp yf yo : FuncData}
theorem ok_freeB (T : BldTxt K mg xm xp xf xo ym yp yf yo) {k : Nat} : FnOk P w K mg base CX0 (k + 1) xf yf ["letters"] spFreeB := by
  refine T.FXFreeB.ok scXFreeB (fun vs H Q E h => ?_) (fun cdv A outer s H vs Q E hr h => ?_)
  · obtain ⟨z, rfl, _⟩ := h
    rfl
  · obtain ⟨z, rfl, hz, q⟩ := h
    refine ⟨_, (pss_one (ps_ret (pe_tup (pa_cons (pv 0) (pa_cons (pe_tup (pa_cons (pe_op op_repTa (pe_tup (pa_cons pe_int pa_nil)) (pe_callB call_len_str (by rfl) T.len PySem.boot_len (pa_cons (pv 0) pa_nil))) pa_nil)) pa_nil))))), ?_⟩
    refine ⟨_, rfl, (by show 1 ≤ sizeLine; decide), fun t1 h1 => ?_⟩
    have x1 := same_upd (o := HO.tup [.int 0]) h1
    refine ⟨_, rfl, z, rfl, Nat.le_trans hz (by decide), rep_any (K := K) upd_same (by omega) (by omega) fun c H2 s2 hc => ?_⟩
    refine ⟨(by show 1 ≤ sizeLine; decide), fun b hb => ⟨(by show 2 ≤ sizeLine; decide), fun t ht => ?_⟩⟩
    have xb := same_upd (o := HO.tup [.ref c]) hb
    have xt := same_upd (o := HO.tup [.str z, .ref b]) ht
    refine q _ t (x1.trans (s2.trans (xb.trans xt))) ⟨b, c, upd_same, xt _ _ upd_same, ?_⟩
    rw [Int.toNat_natCast] at hc
    exact xt _ _ (xb _ _ hc)
theorem ok_bounds (TP : PenTxt K mg f1 f2 f3 f4 d1 d2 d3 d4) (T : BldTxt K mg xm xp xf xo ym yp yf yo) {k : Nat} : FnOk P w K mg base CX0 (k + 4) xo yo ["pen"] spBnd := by
  have GTC : FnOk P w K mg base CX0 (k + 3) f3 d3 ["pen", "many"] spTakeC := ok_takeC TP (k := k + 1)
  have GP : FnOk P w K mg base CX0 (k + 3) f4 d4 ["pen", "some"] (spPickC K) := ok_pickC TP (k := k)
  refine T.FXBounds.ok scXBounds (fun vs H Q E h => ?_) (fun cdv A outer s H vs Q E hr h => ?_)
  · obtain ⟨p, n, rfl, _⟩ := h
    rfl
  · obtain ⟨p, n, rfl, hP, hn, q⟩ := h
    refine ⟨_, (Evl.pss_cut (ps_par (i := 1) (j := 2) (by rfl) scXBounds.nd rfl rfl (by decide) rfl rfl (pa_cons (pe_call GTC hr (by rfl) TP.gTake TP.FTake.kp TP.bTake .nil pass0 (pa_cons (pv 0) (pa_cons pe_int pa_nil))) (pa_cons (pe_call GP hr (by rfl) TP.gPick TP.FPick.kp TP.bPick .nil pass0 (pa_cons (pv 0) (pa_cons (pe_lst (pa_cons pe_int (pa_cons pe_int (pa_cons pe_int (pa_cons pe_int pa_nil))))) pa_nil))) pa_nil)) (by rfl))
 (pss_cons (ps_if (pt_cmpR op_eq (pv 1) pe_int (nomark _)) (pss_one (ps_ret (pe_tup (pa_cons (pv 2) (pa_cons pe_str (pa_cons (pe_tup (pa_cons (pe_tup (pa_cons (pe_tup (pa_cons (pe_tup (pa_cons (pe_op op_add pe_int (pe_call GTC hr (by rfl) TP.gTake TP.FTake.kp TP.bTake .nil pass0 (pa_cons (pv 0) (pa_cons pe_int pa_nil)))) (pa_cons pe_int pa_nil))) pa_nil)) pa_nil)) pa_nil)) pa_nil)))))) pss_nil)
 (pss_cons (ps_if (pt_cmpR op_eq (pv 1) pe_int (nomark _)) (pss_one (ps_ret (pe_tup (pa_cons pe_int (pa_cons pe_str (pa_cons (pe_tup (pa_cons (pe_tup (pa_cons (pe_callTy call_tuple_of (by rfl) T.tuple (by decide +kernel) (pa_cons (pe_lc (own := [("pay", 6)]) (g := gName 6) (tt := tYes) (by rfl) scXBounds.nd (pi_range1 (by rfl) T.range (pa_cons (pe_op op_add pe_int (pe_call GTC hr (by rfl) TP.gTake TP.FTake.kp TP.bTake .nil pass0 (pa_cons (pv 0) (pa_cons pe_int pa_nil)))) pa_nil)) (blkOk_by (N := ["pen", "way", "base", "many", "some", "letters", "pay"]) (sc := defScope sXBounds) (by decide +kernel)) (fun _ _ _ _ _ => pg_name (i := 6) scXBounds.nd rfl (Or.inl rfl)) (fun _ _ _ _ _ => pts_nil) (fun _ _ _ _ _ => (pe_tup (pa_cons (pv 6) (pa_cons pe_int pa_nil))))) pa_nil)) pa_nil)) pa_nil)) pa_nil)))))) pss_nil)
 (pss_cons (ps_if (pt_cmpR op_eq (pv 1) pe_int (nomark _)) (pss_one (ps_ret (pe_tup (pa_cons pe_int (pa_cons pe_str (pa_cons (pe_op op_repTa (pe_tup (pa_cons (pe_tup (pa_cons (pe_tup (pa_cons (pe_tup (pa_cons (pe_op op_sub (pe_un un_neg pe_int) (pe_call GTC hr (by rfl) TP.gTake TP.FTake.kp TP.bTake .nil pass0 (pa_cons (pv 0) (pa_cons pe_int pa_nil)))) (pa_cons pe_int pa_nil))) pa_nil)) pa_nil)) pa_nil)) (pe_op op_add pe_int (pe_call GTC hr (by rfl) TP.gTake TP.FTake.kp TP.bTake .nil pass0 (pa_cons (pv 0) (pa_cons pe_int pa_nil))))) pa_nil)))))) pss_nil)
 (pss_cons (ps_if (pt_cmpR op_eq (pv 1) pe_int (nomark _)) (pss_one (ps_ret (pe_tup (pa_cons (pv 2) (pa_cons pe_str (pa_cons (pe_tup (pa_cons (pe_tup (pa_cons (pe_tup (pa_cons (pe_op op_mul (pe_op op_add (pe_op op_pow pe_int pe_int) (pe_call GTC hr (by rfl) TP.gTake TP.FTake.kp TP.bTake .nil pass0 (pa_cons (pv 0) (pa_cons pe_int pa_nil)))) (pe_call GP hr (by rfl) TP.gPick TP.FPick.kp TP.bPick .nil pass0 (pa_cons (pv 0) (pa_cons (pe_lst (pa_cons pe_int (pa_cons (pe_un un_neg pe_int) pa_nil))) pa_nil)))) (pa_cons pe_int pa_nil))) pa_nil)) pa_nil)) pa_nil)))))) pss_nil)
 (pss_cons (ps_if (pt_cmpR op_eq (pv 1) pe_int (nomark _)) (pss_cons (ps_set (i := 3) scXBounds.nd rfl (.inl rfl) (pe_op op_add pe_int (pe_call GTC hr (by rfl) TP.gTake TP.FTake.kp TP.bTake .nil pass0 (pa_cons (pv 0) (pa_cons pe_int pa_nil)))))
 (pss_cons (ps_set (i := 4) scXBounds.nd rfl (.inl rfl) (pe_lst (pa_cons (pe_tup (pa_cons pe_int (pa_cons pe_str (pa_cons (pe_op op_repTa (pe_tup (pa_cons (pe_tup (pa_cons (pe_tup (pa_cons pe_int (pa_cons pe_int pa_nil))) pa_nil)) pa_nil)) (pv 3)) pa_nil)))) (pa_cons (pe_tup (pa_cons pe_int (pa_cons pe_str (pa_cons (pe_op op_repTa (pe_tup (pa_cons (pe_op op_repTa (pe_tup (pa_cons (pe_tup (pa_cons pe_int (pa_cons pe_int pa_nil))) pa_nil)) pe_int) pa_nil)) (pv 3)) pa_nil)))) pa_nil))))
 (pss_one (ps_ret (pe_call GP hr (by rfl) TP.gPick TP.FPick.kp TP.bPick .nil pass0 (pa_cons (pv 0) (pa_cons (pe_op op_cat (pv 4) (pe_lst (pa_cons (pe_tup (pa_cons pe_int (pa_cons pe_str (pa_cons (pe_op op_repTa (pe_tup (pa_cons (pe_op op_repTa (pe_tup (pa_cons (pe_tup (pa_cons (pe_op op_pow pe_int pe_int) (pa_cons pe_int pa_nil))) pa_nil)) pe_int) pa_nil)) (pv 3)) pa_nil)))) pa_nil))) pa_nil))))))) pss_nil)
 (pss_cons (ps_if (pt_cmpR op_eq (pv 1) pe_int (nomark _)) (pss_one (ps_ret (pe_tup (pa_cons pe_str (pa_cons (pe_op op_repTa (pe_tup (pa_cons (pe_tup (pa_cons (pe_call GP hr (by rfl) TP.gPick TP.FPick.kp TP.bPick .nil pass0 (pa_cons (pv 0) (pa_cons (pe_lst (pa_cons pe_int (pa_cons pe_int (pa_cons pe_int (pa_cons pe_non pa_nil))))) pa_nil))) pa_nil)) pa_nil)) (pe_op op_add pe_int (pe_call GTC hr (by rfl) TP.gTake TP.FTake.kp TP.bTake .nil pass0 (pa_cons (pv 0) (pa_cons pe_int pa_nil))))) pa_nil))))) pss_nil)
 (pss_cons (ps_set (i := 4) scXBounds.nd rfl (.inl rfl) (pe_lst (pa_cons pe_str (pa_cons pe_str (pa_cons pe_str (pa_cons pe_str (pa_cons pe_str (pa_cons pe_str (pa_cons pe_str (pa_cons pe_str (pa_cons pe_str (pa_cons pe_str (pa_cons pe_str (pa_cons pe_str (pa_cons pe_str (pa_cons pe_str (pa_cons pe_str pa_nil)))))))))))))))))
 (pss_cons (ps_set (i := 5) scXBounds.nd rfl (.inl rfl) (pe_call GP hr (by rfl) TP.gPick TP.FPick.kp TP.bPick .nil pass0 (pa_cons (pv 0) (pa_cons (pv 4) pa_nil))))
 (pss_one (ps_ret (pe_call GP hr (by rfl) TP.gPick TP.FPick.kp TP.bPick .nil pass0 (pa_cons (pv 0) (pa_cons (pe_lst (pa_cons (pe_tup (pa_cons pe_int (pa_cons (pv 5) (pa_cons (pe_tup (pa_cons (pe_op op_repTa (pe_tup (pa_cons (pe_tup (pa_cons pe_int (pa_cons pe_int pa_nil))) pa_nil)) (pe_callB call_len_str (by rfl) T.len PySem.boot_len (pa_cons (pv 5) pa_nil))) pa_nil)) pa_nil)))) (pa_cons (pe_tup (pa_cons (pv 5) (pa_cons (pe_tup (pa_cons (pe_op op_repTa (pe_tup (pa_cons pe_int pa_nil)) (pe_callB call_len_str (by rfl) T.len PySem.boot_len (pa_cons (pv 5) pa_nil))) pa_nil)) pa_nil))) pa_nil))) pa_nil)))))))))))))), ?_⟩
    obtain ⟨c, hP⟩ := hP.at
    refine ⟨fun σ H' => ∃ (wy bs : Int), σ = [some (.ref p), some (.int wy), some (.int bs), none, none, none, none] ∧ 1 ≤ bs ∧ bs ≤ 10 ∧ But p H H' ∧ PenC H' p c (n + 2), ?_, ?_⟩
    · refine ⟨_, rfl, p, c, 7, n, rfl, hP, by omega, by decide, by decide, fun H1 k1 b1 hP1 k10 k11 => ⟨_, rfl, (by show 4 ≤ sizeLine; decide), fun L hL => ?_⟩⟩
      have xL := same_upd (o := HO.lst [.int 1, .int 2, .int 9, .int 10]) hL
      refine ⟨p, c, L, _, n + 1, rfl, hP1.same xL, by omega, SqL.of upd_same, new_ne hP1.pen hL, (by show 0 < 4; decide), (by show 4 ≤ 1000; decide), fun H4 m v b4 hP4 hm => ?_⟩
      have hv : ∃ g : Int, v = .int g ∧ 1 ≤ g ∧ g ≤ 10 := by
        match m, hm with
        | 0, hm => exact ⟨1, (Option.some.inj hm).symm, by omega, by omega⟩
        | 1, hm => exact ⟨2, (Option.some.inj hm).symm, by omega, by omega⟩
        | 2, hm => exact ⟨9, (Option.some.inj hm).symm, by omega, by omega⟩
        | 3, hm => exact ⟨10, (Option.some.inj hm).symm, by omega, by omega⟩
        | m + 4, hm => exact absurd hm (by simp)
      obtain ⟨g, rfl, g1, g10⟩ := hv
      exact ⟨_, _, rfl, k1, g, rfl, g1, g10, b1.trans ((But.of xL).trans b4), hP4⟩
    rintro σ H1 ⟨wy, bs, rfl, bs1, bs10, b1, hP1⟩
    have gbs : Gd 0 130 (.int bs) := gd_small (by omega)
    have ga : Gd 0 130 (.str "a") := gd_str (by decide +kernel) (by decide)
    have la : (Str.ofString "a").length ≤ sizeLine := by decide
    refine ⟨_, rfl, rfl, _, rfl, ite2 (fun _ => ?_) (fun _ => ?_)⟩
    · refine ⟨_, rfl, _, rfl, p, c, 2, _, rfl, hP1, by omega, by decide, by decide, fun H2 k2 b2 hP2 k20 k21 => ⟨_, _, rfl, rfl, (by show 2 ≤ sizeLine; decide), fun t1 h1 => ⟨(by show 1 ≤ sizeLine; decide), fun t2 h2 => ⟨(by show 1 ≤ sizeLine; decide), fun t3 h3 => ⟨(by show 1 ≤ sizeLine; decide), fun t4 h4 => ⟨(by show 3 ≤ sizeLine; decide), fun t5 h5 => ?_⟩⟩⟩⟩⟩⟩
      have x1 := same_upd (o := HO.tup [.int (20 + k2), .int 0]) h1
      have x2 := same_upd (o := HO.tup [.ref t1]) h2
      have x3 := same_upd (o := HO.tup [.ref t2]) h3
      have x4 := same_upd (o := HO.tup [.ref t3]) h4
      have x5 := same_upd (o := HO.tup [.int bs, .str "a", .ref t4]) h5
      have r2 : Rt _ _ _ := .one upd_same (.go (butT_same x2) (.tup upd_same (.cons (.int _) (.cons (.int _) .nil))))
      have r4 : Rt _ _ _ := .one upd_same (.go (butT_same x4) (.one upd_same (r2.go (butT_same x3))))
      have xx := x1.trans (x2.trans (x3.trans (x4.trans x5)))
      refine q _ _ _ (b1.trans (b2.trans (But.of xx))) ((hP2.same xx).mono (by omega)).pen (.tup upd_same (.cons (.int bs) (.cons (.str _ la) (.cons (r4.go (butT_same x5)) .nil)))) ?_
      exact (gd_three (gbs.mono (Nat.zero_le 4) (Nat.le_refl _)) (ga.mono (Nat.zero_le 4) (Nat.le_refl _)) (gd_one (gd_one (gd_one (gd_two (gd_small (by omega)) (gd_small (i := 0) (by decide))))))).mono (by decide) (by decide)
    refine ⟨_, rfl, rfl, _, rfl, ite2 (fun _ => ?_) (fun _ => ?_)⟩
    · refine ⟨_, rfl, p, c, 2, _, rfl, hP1, by omega, by decide, by decide, fun H2 k2 b2 hP2 k20 k21 => ⟨_, _, rfl, rfl, _, rfl, by omega, by omega, fun D nD => ?_⟩⟩
      refine lc_range (lo := 0) (n := (3 + k2).toNat) (fun j H' => Same H2 H' ∧ ∃ us es, H' D = some (.lst us) ∧ RtAll H' us es ∧ us.length = j ∧ ∀ d ∈ es, isP d) ⟨same_upd nD, [], [], upd_same, .nil, rfl, fun _ h => nomatch h⟩ ?_ ?_
      · rintro j H' hj ⟨sm, us, es, hD, hU, lu, oku⟩
        refine ⟨rfl, ?_⟩
        refine ⟨_, rfl, (by show 2 ≤ sizeLine; decide), fun T hT => ?_⟩
        have xT := same_upd (o := HO.tup [.int (0 + (j : Int)), .int 0]) hT
        have hDT := xT _ _ hD
        have bt := butT_lst (o := HO.lst (us ++ [V.ref T])) hDT
        have isp : isP (.tuple [.int (0 + (j : Int)), .int 0]) := ⟨_, _, rfl, Nat.lt_trans (show (0 + (j : Int)).natAbs < 10000 by omega) (by decide), by decide⟩
        exact ⟨_, hDT, Nat.lt_of_le_of_lt (show _ ≤ 10 by omega) (by decide), same_new (sm.trans xT) nD, us ++ [V.ref T], es ++ [.tuple [.int (0 + (j : Int)), .int 0]], upd_same, ((hU.go (butT_same xT)).go bt).snoc (.tup (bt _ _ upd_same) (.cons (.int _) (.cons (.int _) .nil))), by rw [List.length_append, lu]; rfl, mem_snoc oku isp⟩
      · rintro H' ⟨sm, us, es, hD, hU, lu, oku⟩
        refine ⟨D, _, rfl, .inl ⟨SqL.of hD, fun t1 h1 => ⟨(by show 1 ≤ sizeLine; decide), fun t2 h2 => ⟨(by show 1 ≤ sizeLine; decide), fun t3 h3 => ⟨(by show 3 ≤ sizeLine; decide), fun t4 h4 => ?_⟩⟩⟩⟩⟩
        have x1 := same_upd (o := HO.tup us) h1
        have x2 := same_upd (o := HO.tup [.ref t1]) h2
        have x3 := same_upd (o := HO.tup [.ref t2]) h3
        have x4 := same_upd (o := HO.tup [.int 2, .str "a", .ref t3]) h4
        have r1 : Rt _ _ _ := .tup upd_same (hU.go (butT_same x1))
        have r3 : Rt _ _ _ := .one upd_same (.go (butT_same x3) (.one upd_same (r1.go (butT_same x2))))
        have xx := sm.trans (x1.trans (x2.trans (x3.trans x4)))
        refine q _ _ _ (b1.trans (b2.trans (But.of xx))) ((hP2.same xx).mono (by omega)).pen (.tup upd_same (.cons (.int 2) (.cons (.str _ la) (.cons (r3.go (butT_same x4)) .nil)))) ?_
        exact (gd_three ((gd_small (i := 2) (by decide)).mono (Nat.zero_le 4) (Nat.le_refl _)) (ga.mono (Nat.zero_le 4) (Nat.le_refl _)) (gd_one (gd_one (gd_tup (n := 5) (fun d hd => isP_gd (oku d hd)) (by rw [← hU.len]; omega))))).mono (by decide) (by decide)
    refine ⟨_, rfl, rfl, _, rfl, ite2 (fun _ => ?_) (fun _ => ?_)⟩
    · refine ⟨_, rfl, _, rfl, p, c, 2, _, rfl, hP1, by omega, by decide, by decide, fun H2 k2 b2 hP2 k20 k21 => ⟨_, _, rfl, rfl, (by show 2 ≤ sizeLine; decide), fun t1 h1 => ⟨(by show 1 ≤ sizeLine; decide), fun t2 h2 => ⟨(by show 1 ≤ sizeLine; decide), fun t3 h3 => ⟨(by show 1 ≤ sizeLine; decide), fun t4 h4 => ?_⟩⟩⟩⟩⟩
      have x1 := same_upd (o := HO.tup [.int (-20 - k2), .int 0]) h1
      have x2 := same_upd (o := HO.tup [.ref t1]) h2
      have x3 := same_upd (o := HO.tup [.ref t2]) h3
      have x4 := same_upd (o := HO.tup [.ref t3]) h4
      have xx := x1.trans (x2.trans (x3.trans x4))
      have r2 : Rt _ _ _ := .one upd_same (.go (butT_same x2) (.tup upd_same (.cons (.int _) (.cons (.int _) .nil))))
      have r3 : Rt _ _ _ := .go (butT_same x4) (.one upd_same (r2.go (butT_same x3)))
      refine ⟨_, rfl, p, c, 2, _, rfl, hP2.same xx, by omega, by decide, by decide, fun H3 k3 b3 hP3 k30 k31 => ⟨_, _, rfl, rfl, ?_⟩⟩
      have bT3 := butT_but (hP2.same xx).pen b3
      refine rep_any (K := K) (bT3 _ _ upd_same) (by omega) (by omega) fun r Ha sa ha => ⟨(by show 3 ≤ sizeLine; decide), fun t5 h5 => ?_⟩
      have x5 := same_upd (o := HO.tup [.int 2, .str "a", .ref r]) h5
      refine q _ _ _ (b1.trans (b2.trans ((But.of xx).trans (b3.trans (But.of (sa.trans x5)))))) ((hP3.same (sa.trans x5)).mono (by omega)).pen (.tup upd_same (.cons (.int 2) (.cons (.str _ la) (.cons (.go (butT_same x5) (.rep ha ((r3.go bT3).go (butT_same sa)))) .nil)))) ?_
      exact (gd_three ((gd_small (i := 2) (by decide)).mono (Nat.zero_le 4) (Nat.le_refl _)) (ga.mono (Nat.zero_le 4) (Nat.le_refl _)) (gd_rep (n := 5) (gd_one (gd_one (gd_two (gd_small (by omega)) (gd_small (i := 0) (by decide))))) (by omega))).mono (by decide) (by decide)
    refine ⟨_, rfl, rfl, _, rfl, ite2 (fun _ => ?_) (fun _ => ?_)⟩
    · refine ⟨_, rfl, _, _, rfl, rfl, (by exact ⟨by decide, by decide, by decide⟩), _, rfl, p, c, 2, _, rfl, hP1, by omega, by decide, by decide, fun H2 k2 b2 hP2 k20 k21 => ⟨_, _, rfl, rfl, _, rfl, _, rfl, (by show 2 ≤ sizeLine; decide), fun L hL => ?_⟩⟩
      have xL := same_upd (o := HO.lst [.int 1, .int (-1)]) hL
      refine ⟨p, c, L, _, _, rfl, hP2.same xL, by omega, SqL.of upd_same, new_ne hP2.pen hL, (by show 0 < 2; decide), (by show 2 ≤ 1000; decide), fun H3 m v b3 hP3 hm => ?_⟩
      have hv : ∃ g : Int, v = .int g ∧ (g = 1 ∨ g = -1) := by
        match m, hm with
        | 0, hm => exact ⟨1, (Option.some.inj hm).symm, .inl rfl⟩
        | 1, hm => exact ⟨-1, (Option.some.inj hm).symm, .inr rfl⟩
        | m + 2, hm => exact absurd hm (by simp)
      obtain ⟨g, rfl, hg⟩ := hv
      have big : (((10 : Int) ^ (30 : Int).toNat + k2) * g).natAbs < 10 ^ 38 := by
        have e1 : (10 : Int) ^ (30 : Int).toNat = 1000000000000000000000000000000 := by decide
        have e2 : (10 : Nat) ^ 38 = 100000000000000000000000000000000000000 := by decide
        rw [e1, e2]
        rcases hg with rfl | rfl <;> omega
      refine ⟨_, _, rfl, rfl, .inr (by rcases hg with rfl | rfl <;> exact ⟨by decide, by decide⟩), (by show 2 ≤ sizeLine; decide), fun t1 h1 => ⟨(by show 1 ≤ sizeLine; decide), fun t2 h2 => ⟨(by show 1 ≤ sizeLine; decide), fun t3 h3 => ⟨(by show 3 ≤ sizeLine; decide), fun t4 h4 => ?_⟩⟩⟩⟩
      have x1 := same_upd (o := HO.tup [.int (((10 : Int) ^ (30 : Int).toNat + k2) * g), .int 0]) h1
      have x2 := same_upd (o := HO.tup [.ref t1]) h2
      have x3 := same_upd (o := HO.tup [.ref t2]) h3
      have x4 := same_upd (o := HO.tup [.int bs, .str "a", .ref t3]) h4
      have xx := x1.trans (x2.trans (x3.trans x4))
      have r2 : Rt _ _ _ := .one upd_same (.go (butT_same x2) (.tup upd_same (.cons (.int _) (.cons (.int _) .nil))))
      have r3 : Rt _ _ _ := .one upd_same (r2.go (butT_same x3))
      refine q _ _ _ (b1.trans (b2.trans ((But.of xL).trans (b3.trans (But.of xx))))) ((hP3.same xx).mono (by omega)).pen (.tup upd_same (.cons (.int bs) (.cons (.str _ la) (.cons (r3.go (butT_same x4)) .nil)))) ?_
      exact (gd_three (gbs.mono (Nat.zero_le 3) (Nat.le_refl _)) (ga.mono (Nat.zero_le 3) (Nat.le_refl _)) (gd_one (gd_one (gd_two (gd_int big) (gd_small (i := 0) (by decide)))))).mono (by decide) (by decide)
    refine ⟨_, rfl, rfl, _, rfl, ite2 (fun _ => ?_) (fun _ => ?_)⟩
    · refine ⟨_, rfl, p, c, 2, _, rfl, hP1, by omega, by decide, by decide, fun H2 k2 b2 hP2 k20 k21 => ⟨_, _, rfl, rfl, ?_⟩⟩
      have labc : (Str.ofString "abc").length ≤ sizeLine := by decide
      have gabc : Gd 0 130 (.str "abc") := gd_str (by decide +kernel) (by decide)
      -- (3, "a", ..)
      refine ⟨(by show 2 ≤ sizeLine; decide), fun t1 h1 => ⟨(by show 1 ≤ sizeLine; decide), fun t2 h2 => ⟨(by show 1 ≤ sizeLine; decide), fun t3 h3 => ⟨_, rfl, ?_⟩⟩⟩⟩
      have x1 := same_upd (o := HO.tup [.int 1, .int 0]) h1
      have x2 := same_upd (o := HO.tup [.ref t1]) h2
      have x3 := same_upd (o := HO.tup [.ref t2]) h3
      have r2 : Rt _ _ _ := .one upd_same (.go (butT_same x2) (.tup upd_same (.cons (.int 1) (.cons (.int 0) .nil))))
      have r2' := r2.go (butT_same x3)
      refine rep_any (K := K) upd_same (by omega) (by omega) fun r4 H4 s4 h4 => ⟨(by show 3 ≤ sizeLine; decide), fun t5 h5 => ?_⟩
      have x5 := same_upd (o := HO.tup [.int 3, .str "a", .ref r4]) h5
      have m5 : Rt _ _ _ := .tup upd_same (.cons (.int 3) (.cons (.str _ la) (.cons (.go (butT_same x5) (.rep h4 (r2'.go (butT_same s4)))) .nil)))
      have z5 := (x1.trans (x2.trans x3)).trans (s4.trans x5)
      -- (3, "abc", ..)
      refine ⟨(by show 2 ≤ sizeLine; decide), fun t6 h6 => ⟨(by show 1 ≤ sizeLine; decide), fun t7 h7 => ?_⟩⟩
      have x6 := same_upd (o := HO.tup [.int 1, .int 0]) h6
      have x7 := same_upd (o := HO.tup [.ref t6]) h7
      have r6 : Rt _ _ _ := .go (butT_same x7) (.tup upd_same (.cons (.int 1) (.cons (.int 0) .nil)))
      refine rep_anyC (K := K) (k := 3) upd_same (by decide) (by decide) fun r8 H8 s8 h8 => ⟨(by show 1 ≤ sizeLine; decide), fun t9 h9 => ⟨_, rfl, ?_⟩⟩
      have x9 := same_upd (o := HO.tup [.ref r8]) h9
      have r8' : Rt _ _ _ := .go (butT_same x9) (.rep h8 (r6.go (butT_same s8)))
      refine rep_any (K := K) upd_same (by omega) (by omega) fun r10 H10 s10 h10 => ⟨(by show 3 ≤ sizeLine; decide), fun t11 h11 => ?_⟩
      have x11 := same_upd (o := HO.tup [.int 3, .str "abc", .ref r10]) h11
      have m11 : Rt _ _ _ := .tup upd_same (.cons (.int 3) (.cons (.str _ labc) (.cons (.go (butT_same x11) (.rep h10 (r8'.go (butT_same s10)))) .nil)))
      have z11 := (x6.trans x7).trans (s8.trans (x9.trans (s10.trans x11)))
      refine ⟨(by show 2 ≤ sizeLine; decide), fun L1 hL1 => ?_⟩
      have xL1 := same_upd (o := HO.lst [.ref t5, .ref t11]) hL1
      -- some + [..]
      refine ⟨_, rfl, _, rfl, _, _, rfl, rfl, (by exact ⟨by decide, by decide, by decide⟩), (by show 2 ≤ sizeLine; decide), fun t12 h12 => ⟨(by show 1 ≤ sizeLine; decide), fun t13 h13 => ?_⟩⟩
      have e1 : (10 : Int) ^ (30 : Int).toNat = 1000000000000000000000000000000 := by decide
      have e2 : (10 : Nat) ^ 38 = 100000000000000000000000000000000000000 := by decide
      have gy : Gd 0 130 (.int ((10 : Int) ^ (30 : Int).toNat)) := gd_int (by rw [e1, e2]; decide)
      have x12 := same_upd (o := HO.tup [.int ((10 : Int) ^ (30 : Int).toNat), .int 299]) h12
      have x13 := same_upd (o := HO.tup [.ref t12]) h13
      have r12 : Rt _ _ _ := .go (butT_same x13) (.tup upd_same (.cons (.int _) (.cons (.int 299) .nil)))
      refine rep_anyC (K := K) (k := 3) upd_same (by decide) (by decide) fun r14 H14 s14 h14 => ⟨(by show 1 ≤ sizeLine; decide), fun t15 h15 => ⟨_, rfl, ?_⟩⟩
      have x15 := same_upd (o := HO.tup [.ref r14]) h15
      have r14' : Rt _ _ _ := .go (butT_same x15) (.rep h14 (r12.go (butT_same s14)))
      refine rep_any (K := K) upd_same (by omega) (by omega) fun r16 H16 s16 h16 => ⟨(by show 3 ≤ sizeLine; decide), fun t17 h17 => ⟨(by show 1 ≤ sizeLine; decide), fun L2 hL2 => ?_⟩⟩
      have x17 := same_upd (o := HO.tup [.int 3, .str "abc", .ref r16]) h17
      have m17 : Rt _ _ _ := .tup upd_same (.cons (.int 3) (.cons (.str _ labc) (.cons (.go (butT_same x17) (.rep h16 (r14'.go (butT_same s16)))) .nil)))
      have xL2 := same_upd (o := HO.lst [.ref t17]) hL2
      have z17 := (x12.trans x13).trans (s14.trans (x15.trans (s16.trans x17)))
      refine ⟨L1, L2, [.ref t5, .ref t11], [.ref t17], rfl, rfl, (z17.trans xL2) _ _ upd_same, upd_same, (by show 3 ≤ sizeLine; decide), fun L3 hL3 => ?_⟩
      have xL3 := same_upd (o := HO.lst ([.ref t5, .ref t11] ++ [.ref t17])) hL3
      have zall := z5.trans (z11.trans (xL1.trans (z17.trans (xL2.trans xL3))))
      refine ⟨p, c, L3, _, _, rfl, hP2.same zall, by omega, SqL.of upd_same, new_ne ((hP2.same (z5.trans (z11.trans (xL1.trans (z17.trans xL2))))).pen) hL3, (by show 0 < 3; decide), (by show 3 ≤ 1000; decide), fun H9 m v b9 hP9 hm => ?_⟩
      have bT9 := butT_but (hP2.same zall).pen b9
      have al : RtAll _ _ _ := .cons (m5.go ((butT_same (z11.trans (xL1.trans (z17.trans (xL2.trans xL3))))).trans bT9)) (.cons (m11.go ((butT_same (xL1.trans (z17.trans (xL2.trans xL3)))).trans bT9)) (.cons (m17.go ((butT_same (xL2.trans xL3)).trans bT9)) .nil))
      obtain ⟨e, he, re⟩ := al.at hm
      have g3 : Gd 0 130 (.int 3) := gd_small (by decide)
      have g10 : Gd 1 262 (.tuple [.int 1, .int 0]) := gd_two (gd_small (by decide)) (gd_small (by decide))
      have gy2 : Gd 1 262 (.tuple [.int ((10 : Int) ^ (30 : Int).toNat), .int 299]) := gd_two gy (gd_small (by decide))
      have kle : (300 + k2).toNat ≤ 301 := by omega
      have ge : Gd 5 238100 e := by
        rcases List.mem_cons.mp (List.mem_of_getElem? he) with rfl | he
        · exact (gd_three (g3.mono (Nat.zero_le 3) (Nat.le_refl _)) (ga.mono (Nat.zero_le 3) (Nat.le_refl _)) (gd_rep (n := 301) (gd_one g10) kle)).mono (by decide) (by decide)
        rcases List.mem_cons.mp he with rfl | he
        · exact (gd_three (g3.mono (Nat.zero_le 3) (Nat.le_refl _)) (gabc.mono (Nat.zero_le 3) (Nat.le_refl _)) (gd_rep (n := 301) (gd_rep (n := 3) g10 (by decide)) kle)).mono (by decide) (by decide)
        · rw [List.mem_singleton.mp he]
          exact (gd_three (g3.mono (Nat.zero_le 3) (Nat.le_refl _)) (gabc.mono (Nat.zero_le 3) (Nat.le_refl _)) (gd_rep (n := 301) (gd_rep (n := 3) gy2 (by decide)) kle)).mono (by decide) (by decide)
      exact q _ _ e (b1.trans (b2.trans ((But.of zall).trans b9))) (hP9.mono (by omega)).pen re ge
    refine ⟨_, rfl, rfl, _, rfl, ite2 (fun _ => ?_) (fun _ => ?_)⟩
    · refine ⟨_, rfl, (by show 4 ≤ sizeLine; decide), fun L hL => ?_⟩
      have xL := same_upd (o := HO.lst [.int 0, .int 3, .int 4, .non]) hL
      refine ⟨p, c, L, _, _, rfl, hP1.same xL, by omega, SqL.of upd_same, new_ne hP1.pen hL, (by show 0 < 4; decide), (by show 4 ≤ 1000; decide), fun H2 m v b2 hP2 hm => ?_⟩
      have al : ∀ H, RtAll H [V.int 0, .int 3, .int 4, .non] [.int 0, .int 3, .int 4, .none] := fun _ => .cons (.int _) (.cons (.int _) (.cons (.int _) (.cons .non .nil)))
      have gl : ∀ e ∈ [PyData.int 0, .int 3, .int 4, .none], Gd 0 130 e := by
        intro e he
        rcases List.mem_cons.mp he with rfl | he
        · exact gd_small (by decide)
        rcases List.mem_cons.mp he with rfl | he
        · exact gd_small (by decide)
        rcases List.mem_cons.mp he with rfl | he
        · exact gd_small (by decide)
        · rw [List.mem_singleton.mp he]
          exact gd_non
      have alm : ∀ H, ∃ e, [PyData.int 0, .int 3, .int 4, .none][m]? = some e ∧ Rt H v e := fun H => (al H).at hm
      obtain ⟨e, he, re⟩ : ∃ e, [PyData.int 0, .int 3, .int 4, .none][m]? = some e ∧ ∀ H, Rt H v e := by
        match m, hm with
        | 0, hm => exact ⟨_, rfl, fun _ => by obtain rfl := Option.some.inj hm; exact .int 0⟩
        | 1, hm => exact ⟨_, rfl, fun _ => by obtain rfl := Option.some.inj hm; exact .int 3⟩
        | 2, hm => exact ⟨_, rfl, fun _ => by obtain rfl := Option.some.inj hm; exact .int 4⟩
        | 3, hm => exact ⟨_, rfl, fun _ => by obtain rfl := Option.some.inj hm; exact .non⟩
        | m + 4, hm => exact absurd hm (by simp)
      have ge := gl e (List.mem_of_getElem? he)
      refine ⟨(by show 1 ≤ sizeLine; decide), fun t1 h1 => ⟨(by show 1 ≤ sizeLine; decide), fun t2 h2 => ?_⟩⟩
      have x1 := same_upd (o := HO.tup [v]) h1
      have x2 := same_upd (o := HO.tup [.ref t1]) h2
      have r1 : Rt _ _ _ := .go (butT_same x2) (.one upd_same (re _))
      have x12 := x1.trans x2
      refine ⟨_, rfl, p, c, 2, _, rfl, hP2.same x12, by omega, by decide, by decide, fun H3 k3 b3 hP3 k30 k31 => ⟨_, _, rfl, rfl, ?_⟩⟩
      have bT3 := butT_but (hP2.same x12).pen b3
      refine rep_any (K := K) (bT3 _ _ upd_same) (by omega) (by omega) fun r Ha sa ha => ⟨(by show 2 ≤ sizeLine; decide), fun t5 h5 => ?_⟩
      have x5 := same_upd (o := HO.tup [.str "a", .ref r]) h5
      refine q _ _ _ (b1.trans ((But.of xL).trans (b2.trans ((But.of x12).trans (b3.trans (But.of (sa.trans x5))))))) ((hP3.same (sa.trans x5)).mono (by omega)).pen (.tup upd_same (.cons (.str _ la) (.cons (.go (butT_same x5) (.rep ha ((r1.go bT3).go (butT_same sa)))) .nil))) ?_
      exact (gd_two (ga.mono (Nat.zero_le 2) (Nat.le_refl _)) (gd_rep (n := 5) (gd_one ge) (by omega))).mono (by decide) (by decide)
    refine ⟨(by show 15 ≤ sizeLine; decide), fun L hL => ⟨_, rfl, _, rfl, ?_⟩⟩
    have xL := same_upd (o := HO.lst [.str "abcd", .str "aa", .str "ba", .str "A", .str "", .str "a1", .str "xyz", .str "a b", .str "az", .str "Ab", .str "1a", .str "-z", .str "a{", .str "ab~", .str "A_a"]) hL
    refine ⟨p, c, L, _, _, rfl, hP1.same xL, by omega, SqL.of upd_same, new_ne hP1.pen hL, (by show 0 < 15; decide), (by show 15 ≤ 1000; decide), fun H2 m v b2 hP2 hm => ?_⟩
    obtain ⟨z, rfl, hz⟩ : ∃ z : Str, v = .str z ∧ (decide (z.length ≤ 4) && z.cps.toList.all fun c => decide (c ≤ 1000)) = true := by
      match m, hm with
      | 0, hm => exact ⟨"abcd", (Option.some.inj hm).symm, by decide +kernel⟩
      | 1, hm => exact ⟨"aa", (Option.some.inj hm).symm, by decide +kernel⟩
      | 2, hm => exact ⟨"ba", (Option.some.inj hm).symm, by decide +kernel⟩
      | 3, hm => exact ⟨"A", (Option.some.inj hm).symm, by decide +kernel⟩
      | 4, hm => exact ⟨"", (Option.some.inj hm).symm, by decide +kernel⟩
      | 5, hm => exact ⟨"a1", (Option.some.inj hm).symm, by decide +kernel⟩
      | 6, hm => exact ⟨"xyz", (Option.some.inj hm).symm, by decide +kernel⟩
      | 7, hm => exact ⟨"a b", (Option.some.inj hm).symm, by decide +kernel⟩
      | 8, hm => exact ⟨"az", (Option.some.inj hm).symm, by decide +kernel⟩
      | 9, hm => exact ⟨"Ab", (Option.some.inj hm).symm, by decide +kernel⟩
      | 10, hm => exact ⟨"1a", (Option.some.inj hm).symm, by decide +kernel⟩
      | 11, hm => exact ⟨"-z", (Option.some.inj hm).symm, by decide +kernel⟩
      | 12, hm => exact ⟨"a{", (Option.some.inj hm).symm, by decide +kernel⟩
      | 13, hm => exact ⟨"ab~", (Option.some.inj hm).symm, by decide +kernel⟩
      | 14, hm => exact ⟨"A_a", (Option.some.inj hm).symm, by decide +kernel⟩
      | m + 15, hm => exact absurd hm (by simp)
    rw [Bool.and_eq_true, decide_eq_true_eq, List.all_eq_true] at hz
    have z4 := hz.1
    have gz : Gd 0 130 (.str z) := gd_str (fun c hc => of_decide_eq_true (hz.2 c hc)) (by omega)
    have lz : z.length ≤ sizeLine := Nat.le_trans z4 (by decide)
    refine ⟨_, rfl, ?_⟩
    refine ⟨_, rfl, (by show 2 ≤ sizeLine; decide), fun t1 h1 => ⟨(by show 1 ≤ sizeLine; decide), fun t2 h2 => ⟨_, rfl, z, rfl, lz, ?_⟩⟩⟩
    have x1 := same_upd (o := HO.tup [.int 0, .int 0]) h1
    have x2 := same_upd (o := HO.tup [.ref t1]) h2
    have r1 : Rt _ _ _ := .go (butT_same x2) (.tup upd_same (.cons (.int 0) (.cons (.int 0) .nil)))
    refine rep_any (K := K) upd_same (by omega) (by omega) fun r3 H3 s3 h3 => ⟨(by show 1 ≤ sizeLine; decide), fun t4 h4 => ⟨(by show 3 ≤ sizeLine; decide), fun t5 h5 => ?_⟩⟩
    have x4 := same_upd (o := HO.tup [.ref r3]) h4
    have x5 := same_upd (o := HO.tup [.int 2, .str z, .ref t4]) h5
    have r4 : Rt _ _ _ := .one upd_same (.go (butT_same x4) (.rep h3 (r1.go (butT_same s3))))
    have m5 : Rt _ _ _ := .tup upd_same (.cons (.int 2) (.cons (.str z lz) (.cons (r4.go (butT_same x5)) .nil)))
    have z5 := x1.trans (x2.trans (s3.trans (x4.trans x5)))
    refine ⟨_, rfl, (by show 1 ≤ sizeLine; decide), fun t6 h6 => ⟨_, rfl, z, rfl, lz, ?_⟩⟩
    have x6 := same_upd (o := HO.tup [.int 0]) h6
    refine rep_any (K := K) upd_same (by omega) (by omega) fun r7 H7 s7 h7 => ⟨(by show 1 ≤ sizeLine; decide), fun t8 h8 => ⟨(by show 2 ≤ sizeLine; decide), fun t9 h9 => ⟨(by show 2 ≤ sizeLine; decide), fun L2 hL2 => ?_⟩⟩⟩
    have x8 := same_upd (o := HO.tup [.ref r7]) h8
    have x9 := same_upd (o := HO.tup [.str z, .ref t8]) h9
    have xL2 := same_upd (o := HO.lst [.ref t5, .ref t9]) hL2
    have r8 : Rt _ _ _ := .one upd_same (.go (butT_same x8) (.rep h7 (.int 0)))
    have m9 : Rt _ _ _ := .tup upd_same (.cons (.str z lz) (.cons (r8.go (butT_same x9)) .nil))
    have z9 := x6.trans (s7.trans (x8.trans x9))
    have zall := z5.trans (z9.trans xL2)
    refine ⟨p, c, L2, _, _, rfl, hP2.same zall, by omega, SqL.of upd_same, new_ne (hP2.same (z5.trans z9)).pen hL2, (by show 0 < 2; decide), (by show 2 ≤ 1000; decide), fun H9 m v b9 hP9 hm => ?_⟩
    have bT9 := butT_but (hP2.same zall).pen b9
    have al : RtAll _ _ _ := .cons (m5.go ((butT_same (z9.trans xL2)).trans bT9)) (.cons (m9.go ((butT_same xL2).trans bT9)) .nil)
    obtain ⟨e, he, re⟩ := al.at hm
    have ge : Gd 5 238100 e := by
      rcases List.mem_cons.mp (List.mem_of_getElem? he) with rfl | he
      · exact (gd_three ((gd_small (i := 2) (by decide)).mono (Nat.zero_le 3) (Nat.le_refl _)) (gz.mono (Nat.zero_le 3) (Nat.le_refl _)) (gd_one (gd_rep (n := 4) (gd_two (gd_small (i := 0) (by decide)) (gd_small (i := 0) (by decide))) (by omega)))).mono (by decide) (by decide)
      · rw [List.mem_singleton.mp he]
        exact (gd_two (gz.mono (Nat.zero_le 2) (Nat.le_refl _)) (gd_one (gd_rep (n := 4) (gd_small (i := 0) (by decide)) (by omega)))).mono (by decide) (by decide)
    exact q _ _ e (b1.trans ((But.of xL).trans (b2.trans ((But.of zall).trans b9)))) (hP9.mono (by omega)).pen re ge
end
end My
/-! ### the law -/
namespace My
open PySem PySem.Spec PyProof.Rows L2
abbrev sLaw : Stmt := topS 43
theorem scLaw : FnScope ["script", "pen", "turn", "letters", "base", "wide", "some", "again", "thing", "due", "seen", "found"] ["script"] (defScope sLaw) := ⟨rfl, rfl, rfl, by decide +kernel, rfl, by decide +kernel, by decide +kernel⟩
structure LawTxt (K : PySem.W.Frag) (mg : Str → Option Value) : Prop where
  range : mg "range" = none
  repr : mg "repr" = none
  int : mg "int" = none
theorem neS (s : Str) : V.bl (!decide (V.str s = V.str s)) = V.bl false := by
  rw [decide_eq_true rfl]
  rfl
def spLaw (K : PySem.W.Frag) : Sp := fun vs H Q _ => ∃ (a : Addr) (ns : List Int), vs = [.ref a] ∧ SqL K H a (ns.map V.int) ∧ ns.length ≤ 63 ∧ ∀ H', Q (.bl true) H'
theorem Gd.ob {H : Hp} {x : V} {D W : Nat} {d : PyData} (r : Rt H x d) (h : Gd D W d) : Ob D W d := ⟨lf_mono d h.lf, h.dp, h.wt, .inl r.no.1⟩
theorem Ob.shown {D W : Nat} {d : PyData} (h : Ob D W d) (a : D ≤ 60) (b : W ≤ 300000) : d.showable = true ∧ d.depth ≤ 60 ∧ d.shown.length ≤ sizeLine := ⟨h.sd.sh, Nat.le_trans h.dp a, h.sd.fits b⟩
theorem three_ob (a b c : Bool) : Ob 1 3 (.list [.bool a, .bool b, .bool c]) := by
  refine ⟨?_, ?_, ?_, .inr ?_⟩
  · simp [lf, lfs]
  · simp [PyData.depth, PyData.depthAll]
  · simp [PyData.weight, PyData.weightAll]
  · simp [PyData.hasDict, PyData.hasDictAll]
theorem rp_three {K : PySem.W.Frag} {H : Hp} {D : Addr} {a b c : Bool} (h : H D = some (.lst [.bl a, .bl b, .bl c])) : Rp K H (.ref D) (.list [.bool a, .bool b, .bool c]) := .lst (SqL.of h) (.cons (.bl a) (.cons (.bl b) (.cons (.bl c) .nil)))
def freeD (z : Str) : PyData := .tuple [.str z, .tuple [.tuple (List.replicate z.length (.int 0))]]
theorem FreeAt.rt {H : Hp} {t : Addr} {z : Str} (h : FreeAt H t z) (l : z.length ≤ sizeLine) : Rt H (.ref t) (freeD z) := by
  obtain ⟨b, c, h1, h2, h3⟩ := h
  exact .tup h1 (.cons (.str z l) (.cons (.one h2 (.rep h3 (.int 0))) .nil))
theorem gd_free {z : Str} (h : lettersL z.cps.toList = true) : Gd 4 1000 (freeD z) :=
  (gd_two ((gd_ltr h).mono (Nat.zero_le 2) (Nat.le_refl _)) (gd_one (gd_rep (n := 3) (gd_small (i := 0) (by decide)) (ltr_le h).1))).mono (by decide) (by decide)
theorem Pen.setL {H : Hp} {p S : Addr} {n : Nat} {xs : List V} {o : HO} (h : Pen H p n) (hS : H S = some (.lst xs)) (nSp : S ≠ p) (nx : ∀ cs : List Int, xs ≠ cs.map V.int) : Pen (upd H S o) p n := by
  obtain ⟨c, cs, a, r, h1, h2, h3⟩ := h.ex
  have nc : c ≠ S := fun e => by
    rw [e, hS] at h2
    exact nx cs (HO.lst.inj (Option.some.inj h2))
  exact ⟨c, cs, a, r, by rw [upd_ne nSp.symm]; exact h1, by rw [upd_ne nc]; exact h2, h3⟩
section
variable {P : Program} {w : World} {K : PySem.W.Frag} {mg : Str → Option Value} {base : Heap} {f1 f2 f3 f4 : Addr} {d1 d2 d3 d4 : FuncData} {xl xr xb xm xp xf xo : Addr} {yl yr yb ym yp yf yo : FuncData} {x1 x2 x3 x4 x5 x6 x7 : Addr} {y1 y2 y3 y4 y5 y6 y7 : FuncData} {m1 m2 m3 m4 m5 m6 m7 m8 m9 m10 m11 m12 : Addr} {n1 n2 n3 n4 n5 n6 n7 n8 n9 n10 n11 n12 : FuncData} {t1 t2 t3 t4 t5 : Tok} {CN r1 : Addr} {v1 : FuncData}
theorem ok_law {f : Addr} {fd : FuncData} (F : Fun K "law" "law" sLaw f fd) (TP : PenTxt K mg f1 f2 f3 f4 d1 d2 d3 d4) (TL : LetTxt K mg xl yl) (TU : RulTxt K mg xr yr) (TX : BentTxt K mg xb yb) (TB : BldTxt K mg xm xp xf xo ym yp yf yo)
    (TK : L34 K mg x1 x2 x3 x4 x5 x6 x7 y1 y2 y3 y4 y5 y6 y7) (TM : MachTxt K mg m1 m2 m3 m4 m5 m6 m7 m8 m9 m10 m11 m12 n1 n2 n3 n4 n5 n6 n7 n8 n9 n10 n11 n12 t1 t2 t3 t4 t5) (TF : FreeTxt K mg m1 m2 m3 m4 m6 m7 m12 n1 n2 n3 n4 n6 n7 n12 t1 t2 CN r1 v1) (T : LawTxt K mg) :
    FnG P w K mg base CX0 13 f fd ["script"] (spLaw K) := by
  have GO : FnOk P w K mg base CX0 12 f2 d2 ["script"] (spOpen K) := ok_open TP (k := 11)
  have GT : FnOk P w K mg base CX0 12 f3 d3 ["pen", "many"] spTake := ok_take TP (k := 10)
  have GPK : FnOk P w K mg base CX0 12 f4 d4 ["pen", "some"] (spPick K) := ok_pick TP (k := 9)
  have GL : FnOk P w K mg base CX0 12 xl yl ["pen"] spXLetters := ok_xLetters TP TL (k := 8)
  have GM : FnOk P w K mg base CX0 12 xm ym ["pen", "base", "letters", "most", "wide"] (spMachB K) := ok_machB TP TB (k := 8)
  have GN : FnOk P w K mg base CX0 12 xp yp ["pen", "base", "letters", "most", "wide"] (spPlnB K) := ok_plnB TP TB (k := 8)
  have GU : FnOk P w K mg base CX0 12 xr yr ["pen", "letters", "most"] (spXRuleT K) := ok_xRuleT TP TU (k := 8)
  have GB : FnOk P w K mg base CX0 12 xo yo ["pen"] spBnd := ok_bounds TP TB (k := 8)
  have GF : FnOk P w K mg base CX0 12 xf yf ["letters"] spFreeB := ok_freeB TB (k := 11)
  have GX : FnOk P w K mg base CX0 12 xb yb ["pen", "value"] (spBent K 8) := ok_bent TP TX (k := 0) 8
  have GIM : FnOk P w K mg base CX0 12 x6 y6 ["value", "plain"] (spXMachine K) := ok_xMachine TK (k := 8)
  have GIR : FnOk P w K mg base CX0 12 x7 y7 ["value"] (spRule K) := ok_xIsRule TK (k := 8)
  have GPM : FnOk P w K mg base CX0 12 m10 n10 ["thing"] (spMachine K) := ok_machine TM (k := 7)
  have GPP : FnOk P w K mg base CX0 12 m11 n11 ["thing"] (spPlain K) := ok_plain TM (k := 8)
  have GPR : FnOk P w K mg base CX0 12 m12 n12 ["thing"] (spRule K) := ok_rule TM.look (k := 8)
  have GFR : FnOk P w K mg base (L2.CX P w) 12 r1 v1 ["letters"] (spFree K CN) := ok_free TF (k := 10)
  refine Fun.okG F scLaw (fun vs H Q E h => ?_) (fun cdv A outer s H vs Q E hgd hr h => ?_)
  · obtain ⟨a, ns, rfl, _⟩ := h
    rfl
  · obtain ⟨a, ns, rfl, hS, hl63, q⟩ := h
    have hu : (A.deeper (envOfC "law" (defScope sLaw) s.heap.objs.size f cdv)).units + 64 < cLine := by have := hr.un; omega
    refine ⟨_, PSs.nox (pss_cons (ps_set (i := 1) scLaw.nd rfl (.inl rfl) (pe_call GO hr (by rfl) TP.gOpen TP.FOpen.kp TP.bOpen .nil pass0 (pa_cons (pv 0) pa_nil)))
 (pss_cons (ps_for PassesOwn.never rfl (pi_range1 (by rfl) T.range (pa_cons pe_int pa_nil)) (pg_name (i := 2) scLaw.nd rfl (.inl rfl))
 (Evl.pss_cut (ps_par (i := 3) (j := 4) (by rfl) scLaw.nd rfl rfl (by decide) rfl rfl (pa_cons (pe_call GL hr (by rfl) TL.gXLetters TL.FXLetters.kp TL.bXLetters .nil pass0 (pa_cons (pv 1) pa_nil)) (pa_cons (pe_op op_add pe_int (pe_call GT hr (by rfl) TP.gTake TP.FTake.kp TP.bTake .nil pass0 (pa_cons (pv 1) (pa_cons pe_int pa_nil)))) pa_nil)) (by rfl))
 (Evl.pss_cut (ps_set (i := 5) scLaw.nd rfl (.inl rfl) (pe_call GPK hr (by rfl) TP.gPick TP.FPick.kp TP.bPick .nil pass0 (pa_cons (pv 1) (pa_cons (pe_lst (pa_cons pe_int (pa_cons pe_int pa_nil))) pa_nil))))
 (Evl.pss_cut (ps_set (i := 6) scLaw.nd rfl (.inl rfl) (pe_lst (pa_cons (pe_call GM hr (by rfl) TB.gXMachineB TB.FXMachineB.kp TB.bXMachineB .nil pass0 (pa_cons (pv 1) (pa_cons (pv 4) (pa_cons (pv 3) (pa_cons pe_int (pa_cons (pv 5) pa_nil)))))) (pa_cons (pe_call GN hr (by rfl) TB.gXPlainB TB.FXPlainB.kp TB.bXPlainB .nil pass0 (pa_cons (pv 1) (pa_cons (pv 4) (pa_cons (pv 3) (pa_cons pe_int (pa_cons (pe_op op_pow pe_int pe_int) pa_nil)))))) pa_nil))))
 (Evl.pss_cut (ps_expr (pe_bm PySem.F.plainAttrs_list PySem.F.slot_list_append PySem.F.type_list_append mt_append (pv 6) (pa_cons (pe_call GU hr (by rfl) TU.gXRule TU.FXRule.kp TU.bXRule .nil pass0 (pa_cons (pv 1) (pa_cons (pv 3) (pa_cons pe_int pa_nil)))) pa_nil)))
 (pss_cons (ps_for PassesOwn.never rfl (pi_range1 (by rfl) T.range (pa_cons pe_int pa_nil)) (pg_name (i := 7) scLaw.nd rfl (.inl rfl))
 (Evl.pss_cut (ps_set (i := 8) scLaw.nd rfl (.inl rfl) (pe_ifExp (pt_cmpR op_eq (pv 7) pe_int (nomark _)) (pe_call GB hr (by rfl) TB.gXBounds TB.FXBounds.kp TB.bXBounds .nil pass0 (pa_cons (pv 1) pa_nil)) (pe_ix ix_list (pv 6) (pe_op op_mod (pe_callTy call_int1 (by rfl) T.int (by decide +kernel) (pa_cons (pv 7) pa_nil)) pe_int) (fun _ _ => rfl))))
 (Evl.pss_cut (ps_set (i := 8) scLaw.nd rfl (.inl rfl) (pe_ifExp (pt_cmpR op_gt (pv 7) pe_int (nomark _)) (pe_call GX hr (by rfl) TX.gXBent TX.FXBent.kp TX.bXBent .nil pass0 (pa_cons (pv 1) (pa_cons (pv 8) pa_nil))) (pv 8)))
 (Evl.pss_cut (ps_set (i := 9) scLaw.nd rfl (.inl rfl) (pe_lst (pa_cons (pe_call GIM hr (by rfl) TK.gXMachine TK.FXMachine.kp TK.bXMachine .nil pass0 (pa_cons (pv 8) (pa_cons pe_bl pa_nil))) (pa_cons (pe_call GIM hr (by rfl) TK.gXMachine TK.FXMachine.kp TK.bXMachine .nil pass0 (pa_cons (pv 8) (pa_cons pe_bl pa_nil))) (pa_cons (pe_call GIR hr (by rfl) TK.gXIsRule TK.FXIsRule.kp TK.bXIsRule .nil pass0 (pa_cons (pv 8) pa_nil)) pa_nil)))))
 (Evl.pss_cut (ps_par (i := 10) (j := 11) (by rfl) scLaw.nd rfl rfl (by decide) rfl rfl (pa_cons (pe_callB (call_reprR hgd hu) (by rfl) T.repr (by decide +kernel) (pa_cons (pv 8) pa_nil)) (pa_cons (pe_lst (pa_cons (pe_call GPM hr (by rfl) TM.gMachine TM.FMachine.kp TM.bMachine .nil pass0 (pa_cons (pv 8) pa_nil)) (pa_cons (pe_call GPP hr (by rfl) TM.gPlain TM.FPlain.kp TM.bPlain .nil pass0 (pa_cons (pv 8) pa_nil)) (pa_cons (pe_call GPR hr (by rfl) TM.look.gRule TM.look.FRule.kp TM.look.bRule .nil pass0 (pa_cons (pv 8) pa_nil)) pa_nil)))) pa_nil)) (by rfl))
 (pss_one (ps_if (PW.pt (pw_or (pt_cmpR op_ne (pe_callB (call_reprR hgd hu) (by rfl) T.repr (by decide +kernel) (pa_cons (pv 11) pa_nil)) (pe_callB (call_reprR hgd hu) (by rfl) T.repr (by decide +kernel) (pa_cons (pv 9) pa_nil)) (nomark _)) (pw_or1 (pt_cmpR op_ne (pe_callB (call_reprR hgd hu) (by rfl) T.repr (by decide +kernel) (pa_cons (pv 8) pa_nil)) (pv 10) (nomark _))))) (pss_one (ps_ret pe_bl)) pss_nil)))))))
 (pss_one (ps_if (pt_cmpR op_ne (pe_callB (call_reprR hgd hu) (by rfl) T.repr (by decide +kernel) (pa_cons (pe_call GFR hr (by rfl) TF.gFreeRule TF.FFreeRule.kp TF.bFreeRule .nil passL (pa_cons (pv 3) pa_nil)) pa_nil)) (pe_callB (call_reprR hgd hu) (by rfl) T.repr (by decide +kernel) (pa_cons (pe_call GF hr (by rfl) TB.gXFreeB TB.FXFreeB.kp TB.bXFreeB .nil pass0 (pa_cons (pv 3) pa_nil)) pa_nil)) (nomark _)) (pss_one (ps_ret pe_bl)) pss_nil))))))))
 (pss_one (ps_ret pe_bl)))), ?_⟩
    refine ⟨_, rfl, a, ns, rfl, hS, hl63, fun H0 p s0 np hP0 => ?_⟩
    refine ⟨3, rfl, by decide, by decide, for_range (lo := 0) (n := 3) (fun i σ H' => ∃ v_turn v_letters v_base v_wide v_some v_again v_thing v_due v_seen v_found : Option V, σ = [some (.ref a), some (.ref p), v_turn, v_letters, v_base, v_wide, v_some, v_again, v_thing, v_due, v_seen, v_found] ∧ Pen H' p (520 * i)) ⟨none, none, none, none, none, none, none, none, none, none, rfl, hP0⟩ ?_ ?_⟩
    · rintro i σ H hi ⟨v_turn, v_letters, v_base, v_wide, v_some, v_again, v_thing, v_due, v_seen, v_found, rfl, hP⟩
      refine ⟨fun σ H' => ∃ (z : Str) (bs : Int), σ = [some (.ref a), some (.ref p), some (.int (0 + (i : Int))), some (.str z), some (.int bs), v_wide, v_some, v_again, v_thing, v_due, v_seen, v_found] ∧ Pen H' p (520 * i + 5) ∧ lettersL z.cps.toList = true ∧ bs.natAbs < 10000, ?_, ?_⟩
      · refine ⟨_, rfl, p, _, rfl, hP, by omega, fun H1 z b1 hP1 hl => ⟨_, rfl, p, 8, _, rfl, hP1, by omega, by decide, by decide, fun H2 k2 b2 hP2 k20 k21 => ⟨_, _, rfl, rfl, ?_⟩⟩⟩
        exact ⟨_, _, rfl, z, 2 + k2, rfl, hP2.mono (by omega), hl, by omega⟩
      rintro σ H ⟨z, bs, rfl, hP, hl, hb⟩
      have hz3 := (ltr_le hl).1
      have hzl : z.length ≤ sizeLine := Nat.le_trans hz3 (by decide)
      refine ⟨fun σ H' => ∃ (wd : Int), σ = [some (.ref a), some (.ref p), some (.int (0 + (i : Int))), some (.str z), some (.int bs), some (.int wd), v_some, v_again, v_thing, v_due, v_seen, v_found] ∧ Pen H' p (520 * i + 6) ∧ 1 ≤ wd ∧ wd ≤ 20, ?_, ?_⟩
      · refine ⟨_, rfl, (by show 2 ≤ sizeLine; decide), fun L hL => ?_⟩
        have xL := same_upd (o := HO.lst [.int 1, .int 20]) hL
        refine ⟨p, L, _, _, rfl, hP.same xL, by omega, SqL.of upd_same, new_ne hP hL, (by show 0 < 2; decide), (by show 2 ≤ 1000; decide), fun H2 m v b2 hP2 hm => ?_⟩
        match m, hm with
        | 0, hm => exact ⟨1, by rw [← Option.some.inj hm]; rfl, hP2.mono (by omega), by decide, by decide⟩
        | 1, hm => exact ⟨20, by rw [← Option.some.inj hm]; rfl, hP2.mono (by omega), by decide, by decide⟩
        | m + 2, hm => exact absurd hm (by simp)
      rintro σ H ⟨wd, rfl, hP, w1, w20⟩
      refine ⟨fun σ H' => ∃ (S : Addr) (xs : List V) (ds : List PyData), σ = [some (.ref a), some (.ref p), some (.int (0 + (i : Int))), some (.str z), some (.int bs), some (.int wd), some (.ref S), v_again, v_thing, v_due, v_seen, v_found] ∧ Pen H' p (520 * i + 156) ∧ H' S = some (.lst xs) ∧ S ≠ p ∧ RtAll H' xs ds ∧ xs.length = 2 ∧ (∀ d ∈ ds, Gd 5 15000 d) ∧ ∀ cs : List Int, xs ≠ cs.map V.int, ?_, ?_⟩
      · refine ⟨_, rfl, _, rfl, _, rfl, _, rfl, p, _, bs, z, 4, wd, rfl, hP, by omega, hl, hb, by decide, by decide, w1, w20, fun H1 t1 e1 b1 hP1 r1 g1 => ?_⟩
        refine ⟨_, rfl, _, rfl, _, rfl, _, _, rfl, rfl, (by exact ⟨by decide, by decide, by decide⟩), p, _, bs, z, 6, rfl, hP1, by omega, hl, hb, by decide, by decide, fun H2 t2 e2 b2 hP2 r2 g2 => ⟨(by show 2 ≤ sizeLine; decide), fun S hS => ?_⟩⟩
        have xS := same_upd (o := HO.lst [.ref t1, .ref t2]) hS
        refine ⟨S, _, [e1, e2], rfl, (hP2.same xS).mono (by omega), upd_same, new_ne hP2 hS, .cons (r1.go ((butT_but hP1 b2).trans (butT_same xS))) (.cons (r2.go (butT_same xS)) .nil), rfl, fun d hd => ?_, fun cs h => by cases cs <;> simp at h⟩
        rcases List.mem_cons.mp hd with rfl | hd
        · exact g1.mono (by decide) (by decide)
        · rw [List.mem_singleton.mp hd]
          exact g2.mono (by decide) (by decide)
      rintro σ H ⟨S, xs, ds, rfl, hP, hS, nSp, hR, lx, hg, nx⟩
      refine ⟨fun σ H' => ∃ (xs : List V) (ds : List PyData), σ = [some (.ref a), some (.ref p), some (.int (0 + (i : Int))), some (.str z), some (.int bs), some (.int wd), some (.ref S), v_again, v_thing, v_due, v_seen, v_found] ∧ Pen H' p (520 * i + 201) ∧ H' S = some (.lst xs) ∧ RtAll H' xs ds ∧ xs.length = 3 ∧ ∀ d ∈ ds, Gd 5 15000 d, ?_, ?_⟩
      · refine ⟨_, rfl, .inl ⟨rfl, _, SqL.of hS⟩, _, rfl, _, rfl, p, _, z, 4, rfl, hP, by omega, hl, by decide, by decide, fun H2 t3 ss b2 hP2 r3 g3 => ?_⟩
        have hS2 := b2 _ _ nSp hS
        have bt := butT_lst (o := HO.lst (xs ++ [V.ref t3])) hS2
        refine ⟨S, _, _, rfl, rfl, hS2, Nat.lt_of_le_of_lt (show _ ≤ 100 by omega) (by decide), ?_⟩
        refine ⟨xs ++ [V.ref t3], ds ++ [_], rfl, (hP2.setL hS2 nSp nx).mono (by omega), upd_same, ((hR.go (butT_but hP b2)).go bt).snoc (r3.go bt), by rw [List.length_append, lx]; rfl, mem_snoc hg (g3.mono (by decide) (by decide))⟩
      rintro σ H ⟨xs, ds, rfl, hP, hS, hR, lx, hg⟩
      refine ⟨8, rfl, by decide, by decide, for_range (lo := 0) (n := 8) (fun j σ H' => ∃ v_again v_thing v_due v_seen v_found : Option V, σ = [some (.ref a), some (.ref p), some (.int (0 + (i : Int))), some (.str z), some (.int bs), some (.int wd), some (.ref S), v_again, v_thing, v_due, v_seen, v_found] ∧ Pen H' p (520 * i + 201 + 37 * j) ∧ H' S = some (.lst xs) ∧ RtAll H' xs ds) ⟨v_again, v_thing, v_due, v_seen, v_found, rfl, hP, hS, hR⟩ ?_ ?_⟩
      · rintro j σ H hj ⟨v_again, v_thing, v_due, v_seen, v_found, rfl, hP, hS, hR⟩
        -- thing
        refine ⟨fun σ H' => ∃ (v_due v_seen v_found : Option V) (x : V) (d : PyData), σ = [some (.ref a), some (.ref p), some (.int (0 + (i : Int))), some (.str z), some (.int bs), some (.int wd), some (.ref S), some (.int (0 + (j : Int))), some (x), v_due, v_seen, v_found] ∧ Pen H' p (520 * i + 201 + 37 * j + 5) ∧ H' S = some (.lst xs) ∧ RtAll H' xs ds ∧ Rt H' x d ∧ Gd 5 238100 d ∧ (¬ j = 0 → Gd 5 15000 d), ?_, ?_⟩
        · refine ⟨_, rfl, rfl, _, rfl, ite2 (fun zz => ?_) (fun nz => ?_)⟩
          · refine ⟨_, rfl, p, _, rfl, hP, by omega, fun H1 x d b1 hP1 r1 g1 => ⟨v_due, v_seen, v_found, x, d, rfl, hP1, b1 _ _ nSp hS, hR.go (butT_but hP b1), r1, g1, fun nj => absurd (by have := V.int.inj (of_decide_eq_true zz); omega) nj⟩⟩
          · have m0 := Int.emod_nonneg (0 + (j : Int)) (show (3 : Int) ≠ 0 by decide)
            have m1 := Int.emod_lt_of_pos (0 + (j : Int)) (show (0 : Int) < 3 by decide)
            obtain ⟨m, hm⟩ : ∃ m : Nat, (0 + (j : Int)) % 3 = (m : Int) := ⟨((0 + (j : Int)) % 3).toNat, by omega⟩
            have ev : xs[m]? = some xs[m] := List.getElem?_eq_getElem (by omega)
            obtain ⟨d, hd, rd⟩ := hR.at ev
            have gd := hg d (List.mem_of_getElem? hd)
            exact ⟨_, rfl, _, rfl, .inl ⟨_, rfl, _, _, rfl, rfl, (by show (0 : Int) < 3; decide), S, _, _, _, rfl, rfl, SqL.of hS, (by rw [hm]; exact atI_nat ev), v_due, v_seen, v_found, _, d, rfl, hP.mono (by omega), hS, hR, rd, gd.mono (by decide) (by decide), fun _ => gd⟩⟩
        rintro σ H ⟨v_due, v_seen, v_found, x, d, rfl, hP, hS, hR, hx, gx, gj⟩
        -- bent
        refine ⟨fun σ H' => ∃ (v_due v_seen v_found : Option V) (y : V) (e : PyData), σ = [some (.ref a), some (.ref p), some (.int (0 + (i : Int))), some (.str z), some (.int bs), some (.int wd), some (.ref S), some (.int (0 + (j : Int))), some (y), v_due, v_seen, v_found] ∧ Pen H' p (520 * i + 201 + 37 * j + 37) ∧ H' S = some (.lst xs) ∧ RtAll H' xs ds ∧ Rp K H' y e ∧ Ob 10 300000 e, ?_, ?_⟩
        · refine ⟨_, rfl, _, _, rfl, rfl, _, rfl, ite2 (fun big => ?_) (fun _ => ?_)⟩
          · have big2 : ¬ j = 0 := fun e => by
              rw [e] at big
              exact absurd big (by decide)
            have g := gj big2
            refine ⟨_, rfl, _, rfl, p, _, x, d, rfl, hP, by omega, hx, hx.in g.lf, Nat.lt_of_le_of_lt g.dp (by decide), Nat.le_trans g.wt (by decide), fun H1 y e b1 hP1 ry oy => ?_⟩
            have gd := g.dp
            have gw := g.wt
            exact ⟨v_due, v_seen, v_found, y, e, rfl, hP1.mono (by omega), b1 _ _ nSp hS, hR.go (butT_but hP b1), ry, oy.mono (by omega) (by omega)⟩
          · exact ⟨_, rfl, v_due, v_seen, v_found, x, d, rfl, hP.mono (by omega), hS, hR, hx.rp, (gx.ob hx).mono (by decide) (by decide)⟩
        rintro σ H ⟨v_due, v_seen, v_found, y, e, rfl, hP, hS, hR, hy, oy⟩
        obtain ⟨sh, dpt, len⟩ := oy.shown (by decide) (Nat.le_refl _)
        -- due
        refine ⟨fun σ H' => ∃ (v_seen v_found : Option V) (D : Addr), σ = [some (.ref a), some (.ref p), some (.int (0 + (i : Int))), some (.str z), some (.int bs), some (.int wd), some (.ref S), some (.int (0 + (j : Int))), some (y), some (.ref D), v_seen, v_found] ∧ Same H H' ∧ H' D = some (.lst [.bl (mchD e), .bl (plnD e), .bl (rulD e)]), ?_, ?_⟩
        · refine ⟨_, rfl, y, e, false, rfl, hy, fun H1 s1 => ⟨_, rfl, y, e, true, rfl, hy.go s1, fun H2 s2 => ⟨_, rfl, y, e, rfl, hy.go (s1.trans s2), fun H3 s3 => ⟨(by show 3 ≤ sizeLine; decide), fun D hD => ?_⟩⟩⟩⟩
          exact ⟨v_seen, v_found, D, rfl, (s1.trans (s2.trans s3)).trans (same_upd hD), upd_same⟩
        rintro σ H2 ⟨v_seen, v_found, D, rfl, s2, hD⟩
        -- seen, found
        refine ⟨fun σ H' => ∃ (F2 : Addr), σ = [some (.ref a), some (.ref p), some (.int (0 + (i : Int))), some (.str z), some (.int bs), some (.int wd), some (.ref S), some (.int (0 + (j : Int))), some (y), some (.ref D), some (.str e.shown), some (.ref F2)] ∧ Same H2 H' ∧ H' F2 = some (.lst [.bl (mchD e), .bl (plnD e), .bl (rulD e)]), ?_, ?_⟩
        · refine ⟨_, rfl, y, e, rfl, hy.go s2, oy.no, sh, dpt, len, _, rfl, y, e, rfl, hy.go s2, fun H3 s3 => ⟨_, rfl, y, e, rfl, hy.go (s2.trans s3), fun H4 s4 => ⟨_, rfl, y, e, rfl, hy.go (s2.trans (s3.trans s4)), fun H5 s5 => ⟨(by show 3 ≤ sizeLine; decide), fun F2 hF2 => ⟨_, _, rfl, ?_⟩⟩⟩⟩⟩
          exact ⟨F2, rfl, (s3.trans (s4.trans s5)).trans (same_upd hF2), upd_same⟩
        rintro σ H3 ⟨F2, rfl, s3, hF2⟩
        have o3 := three_ob (mchD e) (plnD e) (rulD e)
        obtain ⟨sh3, dp3, le3⟩ := o3.shown (by decide) (by decide)
        refine ⟨_, rfl, _, _, rfl, rp_three hF2, o3.no, sh3, dp3, le3, _, rfl, _, _, rfl, rp_three (s3 _ _ hD), o3.no, sh3, dp3, le3, rfl, false, neS _, iteF ?_⟩
        refine ⟨_, rfl, y, e, rfl, hy.go (s2.trans s3), oy.no, sh, dpt, len, _, rfl, rfl, false, neS _, iteF ?_⟩
        exact ⟨_, _, _, _, _, rfl, (hP.same (s2.trans s3)).mono (by omega), (s2.trans s3) _ _ hS, hR.go (butT_same (s2.trans s3))⟩
      · rintro σ H ⟨v_again, v_thing, v_due, v_seen, v_found, rfl, hP, hS, hR⟩
        have ltd : ltrD (.str z) = true := hl
        refine ⟨_, rfl, .str z, .str z, rfl, .str z hzl, .inl ⟨z, rfl, ltd, fun H1 u1 s1 n1 f1 => ?_⟩⟩
        have r1 := f1.rt hzl
        have o1 := (gd_free hl).ob r1
        obtain ⟨sh, dpt, len⟩ := o1.shown (by decide) (by decide)
        refine ⟨_, _, rfl, r1.rp, o1.no, sh, dpt, len, ?_⟩
        refine ⟨_, rfl, z, rfl, hz3, fun H2 u2 s2 f2 => ?_⟩
        have r2 := f2.rt hzl
        refine ⟨_, _, rfl, r2.rp, o1.no, sh, dpt, len, rfl, false, neS _, iteF ?_⟩
        exact ⟨_, _, _, _, _, _, _, _, _, _, rfl, (hP.same (s1.trans s2)).mono (by omega)⟩
    · rintro σ H' ⟨v_turn, v_letters, v_base, v_wide, v_some, v_again, v_thing, v_due, v_seen, v_found, rfl, _⟩
      exact q _
end
end My
/-! ### what the top has written, the head -/
namespace My
open PySem PySem.Spec PyProof.Rows L2
theorem all_mk {l : PySem.W.OpenLaw} {w : World} {K : PySem.W.Frag} {h : Heap} {mg : Str → Option Value} {fa C1 : Addr} {t1 t2 t3 t4 t5 t6 : Tok} {f1 f2 f3 f4 f5 f6 f7 f8 f9 f10 f11 f12 f13 f14 f15 f16 f17 f18 f19 f20 f21 f22 f23 f24 f25 f26 f27 f28 f29 f30 f31 f32 : Addr} {od1 od2 od3 od4 od5 od6 od7 od8 od9 od10 od11 od12 od13 od14 od15 od16 od17 od18 od19 od20 od21 od22 od23 od24 od25 od26 od27 od28 od29 od30 od31 od32 an1 an2 an3 an4 an5 an6 an7 an8 an9 an10 an11 an12 an13 an14 an15 an16 an17 an18 an19 an20 an21 an22 an23 an24 an25 an26 an27 an28 an29 an30 an31 an32 : Option Addr} {sl1 sl2 sl3 sl4 sl5 sl6 sl7 sl8 sl9 sl10 sl11 sl12 sl13 sl14 sl15 sl16 sl17 sl18 sl19 sl20 sl21 sl22 sl23 sl24 sl25 sl26 sl27 sl28 sl29 sl30 sl31 sl32 : Array (Option Value)} {oc1 oc2 oc3 oc4 oc5 oc6 oc7 oc8 oc9 oc10 oc11 oc12 oc13 oc14 oc15 oc16 oc17 oc18 oc19 oc20 oc21 oc22 oc23 oc24 oc25 oc26 oc27 oc28 oc29 oc30 oc31 oc32 kV1 kV2 kV3 kV4 kV5 kV6 kV7 kV8 kV9 kV10 kV11 kV12 kV13 kV14 kV15 kV16 kV17 kV18 kV19 kV20 kV21 kV22 kV23 kV24 kV25 kV26 kV27 kV28 kV29 kV30 kV31 kV32 dc1 dc2 dc3 dc4 dc5 dc6 dc7 dc8 dc9 dc10 dc11 dc12 dc13 dc14 dc15 dc16 dc17 dc18 dc19 dc20 dc21 dc22 dc23 dc24 dc25 dc26 dc27 dc28 dc29 dc30 dc31 dc32 pm1 pm2 pm3 pm4 pm5 pm6 pm7 pm8 pm9 pm10 pm11 pm12 pm13 pm14 pm15 pm16 pm17 pm18 pm19 pm20 pm21 pm22 pm23 pm24 pm25 pm26 pm27 pm28 pm29 pm30 pm31 pm32 cd1 cd2 cd3 cd4 cd5 cd6 cd7 cd8 cd9 cd10 cd11 cd12 cd13 cd14 cd15 cd16 cd17 cd18 cd19 cd20 cd21 cd22 cd23 cd24 cd25 cd26 cd27 cd28 cd29 cd30 cd31 cd32 ct1 ct2 ct3 ct4 ct5 ct6 ct7 ct8 ct9 ct10 ct11 ct12 ct13 ct14 ct15 ct16 ct17 ct18 ct19 ct20 ct21 ct22 ct23 ct24 ct25 ct26 ct27 ct28 ct29 ct30 ct31 ct32 : Value}
    (X : K.In h) (G : h.Ns mainGlobals mg) (hfa : mg "law" = some (.ref fa))
    (a1 : PySem.W.nsIn K mainGlobals "_law_spread" = some (some (.ref f1)))
    (l1 : K.lookup f1 = some ⟨oc1, od1, .func (PySem.W.fnOf "_law_spread" "_law_spread" (defArgs sSpread) (defBody sSpread) (defScope sSpread) .none kV1 dc1 pm1 an1 cd1 ct1), sl1⟩)
    (c1 : PySem.W.codeIn K cd1 "_law_spread" = true) (k1 : PySem.W.keepIn K (.ref f1) = true)
    (a2 : PySem.W.nsIn K mainGlobals "_law_open" = some (some (.ref f2)))
    (l2 : K.lookup f2 = some ⟨oc2, od2, .func (PySem.W.fnOf "_law_open" "_law_open" (defArgs sOpen) (defBody sOpen) (defScope sOpen) .none kV2 dc2 pm2 an2 cd2 ct2), sl2⟩)
    (c2 : PySem.W.codeIn K cd2 "_law_open" = true) (k2 : PySem.W.keepIn K (.ref f2) = true)
    (a3 : PySem.W.nsIn K mainGlobals "_law_take" = some (some (.ref f3)))
    (l3 : K.lookup f3 = some ⟨oc3, od3, .func (PySem.W.fnOf "_law_take" "_law_take" (defArgs sTake) (defBody sTake) (defScope sTake) .none kV3 dc3 pm3 an3 cd3 ct3), sl3⟩)
    (c3 : PySem.W.codeIn K cd3 "_law_take" = true) (k3 : PySem.W.keepIn K (.ref f3) = true)
    (a4 : PySem.W.nsIn K mainGlobals "_law_x_pick" = some (some (.ref f4)))
    (l4 : K.lookup f4 = some ⟨oc4, od4, .func (PySem.W.fnOf "_law_x_pick" "_law_x_pick" (defArgs sPick) (defBody sPick) (defScope sPick) .none kV4 dc4 pm4 an4 cd4 ct4), sl4⟩)
    (c4 : PySem.W.codeIn K cd4 "_law_x_pick" = true) (k4 : PySem.W.keepIn K (.ref f4) = true)
    (a5 : PySem.W.nsIn K mainGlobals "is_whole" = some (some (.ref f5)))
    (l5 : K.lookup f5 = some ⟨oc5, od5, .func (PySem.W.fnOf "is_whole" "is_whole" (defArgs sWhole) (defBody sWhole) (defScope sWhole) .none kV5 dc5 pm5 an5 cd5 ct5), sl5⟩)
    (c5 : PySem.W.codeIn K cd5 "is_whole" = true) (k5 : PySem.W.keepIn K (.ref f5) = true)
    (a6 : PySem.W.nsIn K mainGlobals "is_between" = some (some (.ref f6)))
    (l6 : K.lookup f6 = some ⟨oc6, od6, .func (PySem.W.fnOf "is_between" "is_between" (defArgs sBetween) (defBody sBetween) (defScope sBetween) .none kV6 dc6 pm6 an6 cd6 ct6), sl6⟩)
    (c6 : PySem.W.codeIn K cd6 "is_between" = true) (k6 : PySem.W.keepIn K (.ref f6) = true)
    (a7 : PySem.W.nsIn K mainGlobals "is_tuple" = some (some (.ref f7)))
    (l7 : K.lookup f7 = some ⟨oc7, od7, .func (PySem.W.fnOf "is_tuple" "is_tuple" (defArgs sTuple) (defBody sTuple) (defScope sTuple) .none kV7 dc7 pm7 an7 cd7 ct7), sl7⟩)
    (c7 : PySem.W.codeIn K cd7 "is_tuple" = true) (k7 : PySem.W.keepIn K (.ref f7) = true)
    (a8 : PySem.W.nsIn K mainGlobals "is_letters" = some (some (.ref f8)))
    (l8 : K.lookup f8 = some ⟨oc8, od8, .func (PySem.W.fnOf "is_letters" "is_letters" (defArgs sLetters) (defBody sLetters) (defScope sLetters) .none kV8 dc8 pm8 an8 cd8 ct8), sl8⟩)
    (c8 : PySem.W.codeIn K cd8 "is_letters" = true) (k8 : PySem.W.keepIn K (.ref f8) = true)
    (a9 : PySem.W.nsIn K mainGlobals "is_way_on" = some (some (.ref f9)))
    (l9 : K.lookup f9 = some ⟨oc9, od9, .func (PySem.W.fnOf "is_way_on" "is_way_on" (defArgs sWayOn) (defBody sWayOn) (defScope sWayOn) .none kV9 dc9 pm9 an9 cd9 ct9), sl9⟩)
    (c9 : PySem.W.codeIn K cd9 "is_way_on" = true) (k9 : PySem.W.keepIn K (.ref f9) = true)
    (a10 : PySem.W.nsIn K mainGlobals "is_table" = some (some (.ref f10)))
    (l10 : K.lookup f10 = some ⟨oc10, od10, .func (PySem.W.fnOf "is_table" "is_table" (defArgs sTable) (defBody sTable) (defScope sTable) .none kV10 dc10 pm10 an10 cd10 ct10), sl10⟩)
    (c10 : PySem.W.codeIn K cd10 "is_table" = true) (k10 : PySem.W.keepIn K (.ref f10) = true)
    (a11 : PySem.W.nsIn K mainGlobals "is_rule" = some (some (.ref f11)))
    (l11 : K.lookup f11 = some ⟨oc11, od11, .func (PySem.W.fnOf "is_rule" "is_rule" (defArgs sRule) (defBody sRule) (defScope sRule) .none kV11 dc11 pm11 an11 cd11 ct11), sl11⟩)
    (c11 : PySem.W.codeIn K cd11 "is_rule" = true) (k11 : PySem.W.keepIn K (.ref f11) = true)
    (a12 : PySem.W.nsIn K mainGlobals "free_rule" = some (some (.ref f12)))
    (l12 : K.lookup f12 = some ⟨oc12, od12, .func (PySem.W.fnOf "free_rule" "free_rule" (defArgs sFreeRule) (defBody sFreeRule) (defScope sFreeRule) .none kV12 dc12 pm12 an12 cd12 ct12), sl12⟩)
    (c12 : PySem.W.codeIn K cd12 "free_rule" = true) (k12 : PySem.W.keepIn K (.ref f12) = true)
    (a13 : PySem.W.nsIn K mainGlobals "is_pair" = some (some (.ref f13)))
    (l13 : K.lookup f13 = some ⟨oc13, od13, .func (PySem.W.fnOf "is_pair" "is_pair" (defArgs sPair) (defBody sPair) (defScope sPair) .none kV13 dc13 pm13 an13 cd13 ct13), sl13⟩)
    (c13 : PySem.W.codeIn K cd13 "is_pair" = true) (k13 : PySem.W.keepIn K (.ref f13) = true)
    (a14 : PySem.W.nsIn K mainGlobals "is_frame" = some (some (.ref f14)))
    (l14 : K.lookup f14 = some ⟨oc14, od14, .func (PySem.W.fnOf "is_frame" "is_frame" (defArgs sFrame) (defBody sFrame) (defScope sFrame) .none kV14 dc14 pm14 an14 cd14 ct14), sl14⟩)
    (c14 : PySem.W.codeIn K cd14 "is_frame" = true) (k14 : PySem.W.keepIn K (.ref f14) = true)
    (a15 : PySem.W.nsIn K mainGlobals "is_choice" = some (some (.ref f15)))
    (l15 : K.lookup f15 = some ⟨oc15, od15, .func (PySem.W.fnOf "is_choice" "is_choice" (defArgs sChoice) (defBody sChoice) (defScope sChoice) .none kV15 dc15 pm15 an15 cd15 ct15), sl15⟩)
    (c15 : PySem.W.codeIn K cd15 "is_choice" = true) (k15 : PySem.W.keepIn K (.ref f15) = true)
    (a16 : PySem.W.nsIn K mainGlobals "is_machine" = some (some (.ref f16)))
    (l16 : K.lookup f16 = some ⟨oc16, od16, .func (PySem.W.fnOf "is_machine" "is_machine" (defArgs sMachine) (defBody sMachine) (defScope sMachine) .none kV16 dc16 pm16 an16 cd16 ct16), sl16⟩)
    (c16 : PySem.W.codeIn K cd16 "is_machine" = true) (k16 : PySem.W.keepIn K (.ref f16) = true)
    (a17 : PySem.W.nsIn K mainGlobals "is_plain" = some (some (.ref f17)))
    (l17 : K.lookup f17 = some ⟨oc17, od17, .func (PySem.W.fnOf "is_plain" "is_plain" (defArgs sPlain) (defBody sPlain) (defScope sPlain) .none kV17 dc17 pm17 an17 cd17 ct17), sl17⟩)
    (c17 : PySem.W.codeIn K cd17 "is_plain" = true) (k17 : PySem.W.keepIn K (.ref f17) = true)
    (a18 : PySem.W.nsIn K mainGlobals "_law_x_letters" = some (some (.ref f18)))
    (l18 : K.lookup f18 = some ⟨oc18, od18, .func (PySem.W.fnOf "_law_x_letters" "_law_x_letters" (defArgs sXLetters) (defBody sXLetters) (defScope sXLetters) .none kV18 dc18 pm18 an18 cd18 ct18), sl18⟩)
    (c18 : PySem.W.codeIn K cd18 "_law_x_letters" = true) (k18 : PySem.W.keepIn K (.ref f18) = true)
    (a19 : PySem.W.nsIn K mainGlobals "_law_x_rule" = some (some (.ref f19)))
    (l19 : K.lookup f19 = some ⟨oc19, od19, .func (PySem.W.fnOf "_law_x_rule" "_law_x_rule" (defArgs sXRule) (defBody sXRule) (defScope sXRule) .none kV19 dc19 pm19 an19 cd19 ct19), sl19⟩)
    (c19 : PySem.W.codeIn K cd19 "_law_x_rule" = true) (k19 : PySem.W.keepIn K (.ref f19) = true)
    (a20 : PySem.W.nsIn K mainGlobals "_law_x_machine" = some (some (.ref f20)))
    (l20 : K.lookup f20 = some ⟨oc20, od20, .func (PySem.W.fnOf "_law_x_machine" "_law_x_machine" (defArgs sXMachineB) (defBody sXMachineB) (defScope sXMachineB) .none kV20 dc20 pm20 an20 cd20 ct20), sl20⟩)
    (c20 : PySem.W.codeIn K cd20 "_law_x_machine" = true) (k20 : PySem.W.keepIn K (.ref f20) = true)
    (a21 : PySem.W.nsIn K mainGlobals "_law_x_plain" = some (some (.ref f21)))
    (l21 : K.lookup f21 = some ⟨oc21, od21, .func (PySem.W.fnOf "_law_x_plain" "_law_x_plain" (defArgs sXPlainB) (defBody sXPlainB) (defScope sXPlainB) .none kV21 dc21 pm21 an21 cd21 ct21), sl21⟩)
    (c21 : PySem.W.codeIn K cd21 "_law_x_plain" = true) (k21 : PySem.W.keepIn K (.ref f21) = true)
    (a22 : PySem.W.nsIn K mainGlobals "_law_x_free" = some (some (.ref f22)))
    (l22 : K.lookup f22 = some ⟨oc22, od22, .func (PySem.W.fnOf "_law_x_free" "_law_x_free" (defArgs sXFreeB) (defBody sXFreeB) (defScope sXFreeB) .none kV22 dc22 pm22 an22 cd22 ct22), sl22⟩)
    (c22 : PySem.W.codeIn K cd22 "_law_x_free" = true) (k22 : PySem.W.keepIn K (.ref f22) = true)
    (a23 : PySem.W.nsIn K mainGlobals "_law_x_bounds" = some (some (.ref f23)))
    (l23 : K.lookup f23 = some ⟨oc23, od23, .func (PySem.W.fnOf "_law_x_bounds" "_law_x_bounds" (defArgs sXBounds) (defBody sXBounds) (defScope sXBounds) .none kV23 dc23 pm23 an23 cd23 ct23), sl23⟩)
    (c23 : PySem.W.codeIn K cd23 "_law_x_bounds" = true) (k23 : PySem.W.keepIn K (.ref f23) = true)
    (a24 : PySem.W.nsIn K mainGlobals "_law_x_bent" = some (some (.ref f24)))
    (l24 : K.lookup f24 = some ⟨oc24, od24, .func (PySem.W.fnOf "_law_x_bent" "_law_x_bent" (defArgs sXBent) (defBody sXBent) (defScope sXBent) .none kV24 dc24 pm24 an24 cd24 ct24), sl24⟩)
    (c24 : PySem.W.codeIn K cd24 "_law_x_bent" = true) (k24 : PySem.W.keepIn K (.ref f24) = true)
    (a25 : PySem.W.nsIn K mainGlobals "_law_x_between" = some (some (.ref f25)))
    (l25 : K.lookup f25 = some ⟨oc25, od25, .func (PySem.W.fnOf "_law_x_between" "_law_x_between" (defArgs sXBetween) (defBody sXBetween) (defScope sXBetween) .none kV25 dc25 pm25 an25 cd25 ct25), sl25⟩)
    (c25 : PySem.W.codeIn K cd25 "_law_x_between" = true) (k25 : PySem.W.keepIn K (.ref f25) = true)
    (a26 : PySem.W.nsIn K mainGlobals "_law_x_are_letters" = some (some (.ref f26)))
    (l26 : K.lookup f26 = some ⟨oc26, od26, .func (PySem.W.fnOf "_law_x_are_letters" "_law_x_are_letters" (defArgs sXAre) (defBody sXAre) (defScope sXAre) .none kV26 dc26 pm26 an26 cd26 ct26), sl26⟩)
    (c26 : PySem.W.codeIn K cd26 "_law_x_are_letters" = true) (k26 : PySem.W.keepIn K (.ref f26) = true)
    (a27 : PySem.W.nsIn K mainGlobals "_law_x_is_head" = some (some (.ref f27)))
    (l27 : K.lookup f27 = some ⟨oc27, od27, .func (PySem.W.fnOf "_law_x_is_head" "_law_x_is_head" (defArgs sXHead) (defBody sXHead) (defScope sXHead) .none kV27 dc27 pm27 an27 cd27 ct27), sl27⟩)
    (c27 : PySem.W.codeIn K cd27 "_law_x_is_head" = true) (k27 : PySem.W.keepIn K (.ref f27) = true)
    (a28 : PySem.W.nsIn K mainGlobals "_law_x_is_pair" = some (some (.ref f28)))
    (l28 : K.lookup f28 = some ⟨oc28, od28, .func (PySem.W.fnOf "_law_x_is_pair" "_law_x_is_pair" (defArgs sXPair) (defBody sXPair) (defScope sXPair) .none kV28 dc28 pm28 an28 cd28 ct28), sl28⟩)
    (c28 : PySem.W.codeIn K cd28 "_law_x_is_pair" = true) (k28 : PySem.W.keepIn K (.ref f28) = true)
    (a29 : PySem.W.nsIn K mainGlobals "_law_x_is_choice" = some (some (.ref f29)))
    (l29 : K.lookup f29 = some ⟨oc29, od29, .func (PySem.W.fnOf "_law_x_is_choice" "_law_x_is_choice" (defArgs sXChoice) (defBody sXChoice) (defScope sXChoice) .none kV29 dc29 pm29 an29 cd29 ct29), sl29⟩)
    (c29 : PySem.W.codeIn K cd29 "_law_x_is_choice" = true) (k29 : PySem.W.keepIn K (.ref f29) = true)
    (a30 : PySem.W.nsIn K mainGlobals "_law_x_is_machine" = some (some (.ref f30)))
    (l30 : K.lookup f30 = some ⟨oc30, od30, .func (PySem.W.fnOf "_law_x_is_machine" "_law_x_is_machine" (defArgs sXMachine) (defBody sXMachine) (defScope sXMachine) .none kV30 dc30 pm30 an30 cd30 ct30), sl30⟩)
    (c30 : PySem.W.codeIn K cd30 "_law_x_is_machine" = true) (k30 : PySem.W.keepIn K (.ref f30) = true)
    (a31 : PySem.W.nsIn K mainGlobals "_law_x_is_rule" = some (some (.ref f31)))
    (l31 : K.lookup f31 = some ⟨oc31, od31, .func (PySem.W.fnOf "_law_x_is_rule" "_law_x_is_rule" (defArgs sXIsRule) (defBody sXIsRule) (defScope sXIsRule) .none kV31 dc31 pm31 an31 cd31 ct31), sl31⟩)
    (c31 : PySem.W.codeIn K cd31 "_law_x_is_rule" = true) (k31 : PySem.W.keepIn K (.ref f31) = true)
    (a32 : PySem.W.nsIn K mainGlobals "law" = some (some (.ref f32)))
    (l32 : K.lookup f32 = some ⟨oc32, od32, .func (PySem.W.fnOf "law" "law" (defArgs sLaw) (defBody sLaw) (defScope sLaw) .none kV32 dc32 pm32 an32 cd32 ct32), sl32⟩)
    (c32 : PySem.W.codeIn K cd32 "law" = true) (k32 : PySem.W.keepIn K (.ref f32) = true)
    (ea1 : PySem.W.nsIn K mainGlobals "NoLetters" = some (some (.ref C1))) (eq1 : PySem.W.excIn K C1 [.type "ValueError", .type "Exception", .type "BaseException", .type "object"] "ValueError.__new__" = true)
    (ek1 : PySem.W.keepIn K (.ref C1) = true) (eb1 : PySem.W.subIn K (.ref C1) (.type "BaseException") = some true) (et1 : PySem.W.typeIn K (.ref C1) = some (.type "type"))
    (hm1 : PySem.W.nsIn K mainGlobals "MOST_LETTERS" = some (some (.int 3 t1))) (hm2 : PySem.W.nsIn K mainGlobals "MOST_STATES" = some (some (.int 4 t2))) (hm3 : PySem.W.nsIn K mainGlobals "MOST_PLAIN_STATES" = some (some (.int 300 t3)))
    (hm4 : PySem.W.nsIn K mainGlobals "MOST_PAIRS" = some (some (.int 3 t4))) (hm5 : PySem.W.nsIn K mainGlobals "MOST_PAY" = some (some (.int 20 t5))) (hm6 : PySem.W.nsIn K mainGlobals "MOST_PLAIN_PAY" = some (some (.int 1000000000000000000000000000000 t6)))
    (z0 : PySem.W.nsIn K mainGlobals "int" = some none)
    (z1 : PySem.W.nsIn K mainGlobals "list" = some none)
    (z2 : PySem.W.nsIn K mainGlobals "len" = some none)
    (z3 : PySem.W.nsIn K mainGlobals "enumerate" = some none)
    (z4 : PySem.W.nsIn K mainGlobals "type" = some none)
    (z5 : PySem.W.nsIn K mainGlobals "tuple" = some none)
    (z6 : PySem.W.nsIn K mainGlobals "str" = some none)
    (z7 : PySem.W.nsIn K mainGlobals "all" = some none)
    (z8 : PySem.W.nsIn K mainGlobals "range" = some none)
    (z9 : PySem.W.nsIn K mainGlobals "isinstance" = some none)
    (z10 : PySem.W.nsIn K mainGlobals "set" = some none)
    (z11 : PySem.W.nsIn K mainGlobals "sorted" = some none)
    (z12 : PySem.W.nsIn K mainGlobals "bool" = some none)
    (z13 : PySem.W.nsIn K mainGlobals "dict" = some none)
    (z14 : PySem.W.nsIn K mainGlobals "repr" = some none) :
    ∃ fd : FuncData, (∀ (s : Shared) (v : Value), BindsTo s fd ⟨[v], []⟩ [("script", v)]) ∧ ∀ base : Heap, K.In base → base.Ns mainGlobals mg → FnG l.prog w K mg base CX0 13 fa fd ["script"] (spLaw K) := by
  cases hfa.symm.trans (PySem.W.mg_of X G a32)
  have F1 := fun_mk (st := sSpread) l1 c1 k1
  have b1 := F1.binds (ps := ["cell", "at"]) fun _ _ _ _ _ _ us hl => match us, hl with | [_, _], _ => rfl
  have F2 := fun_mk (st := sOpen) l2 c2 k2
  have b2 := F2.binds (ps := ["script"]) fun _ _ _ _ _ _ us hl => match us, hl with | [_], _ => rfl
  have F3 := fun_mk (st := sTake) l3 c3 k3
  have b3 := F3.binds (ps := ["pen", "many"]) fun _ _ _ _ _ _ us hl => match us, hl with | [_, _], _ => rfl
  have F4 := fun_mk (st := sPick) l4 c4 k4
  have b4 := F4.binds (ps := ["pen", "some"]) fun _ _ _ _ _ _ us hl => match us, hl with | [_, _], _ => rfl
  have F5 := fun_mk (st := sWhole) l5 c5 k5
  have b5 := F5.binds (ps := ["thing"]) fun _ _ _ _ _ _ us hl => match us, hl with | [_], _ => rfl
  have F6 := fun_mk (st := sBetween) l6 c6 k6
  have b6 := F6.binds (ps := ["thing", "low", "high"]) fun _ _ _ _ _ _ us hl => match us, hl with | [_, _, _], _ => rfl
  have F7 := fun_mk (st := sTuple) l7 c7 k7
  have b7 := F7.binds (ps := ["thing", "least", "most"]) fun _ _ _ _ _ _ us hl => match us, hl with | [_, _, _], _ => rfl
  have F8 := fun_mk (st := sLetters) l8 c8 k8
  have b8 := F8.binds (ps := ["thing"]) fun _ _ _ _ _ _ us hl => match us, hl with | [_], _ => rfl
  have F9 := fun_mk (st := sWayOn) l9 c9 k9
  have b9 := F9.binds (ps := ["state", "many"]) fun _ _ _ _ _ _ us hl => match us, hl with | [_, _], _ => rfl
  have F10 := fun_mk (st := sTable) l10 c10 k10
  have b10 := F10.binds (ps := ["thing", "letters", "most"]) fun _ _ _ _ _ _ us hl => match us, hl with | [_, _, _], _ => rfl
  have F11 := fun_mk (st := sRule) l11 c11 k11
  have b11 := F11.binds (ps := ["thing"]) fun _ _ _ _ _ _ us hl => match us, hl with | [_], _ => rfl
  have F12 := fun_mk (st := sFreeRule) l12 c12 k12
  have b12 := F12.binds (ps := ["letters"]) fun _ _ _ _ _ _ us hl => match us, hl with | [_], _ => rfl
  have F13 := fun_mk (st := sPair) l13 c13 k13
  have b13 := F13.binds (ps := ["thing", "most", "many"]) fun _ _ _ _ _ _ us hl => match us, hl with | [_, _, _], _ => rfl
  have F14 := fun_mk (st := sFrame) l14 c14 k14
  have b14 := F14.binds (ps := ["thing", "most"]) fun _ _ _ _ _ _ us hl => match us, hl with | [_, _], _ => rfl
  have F15 := fun_mk (st := sChoice) l15 c15 k15
  have b15 := F15.binds (ps := ["thing", "many"]) fun _ _ _ _ _ _ us hl => match us, hl with | [_, _], _ => rfl
  have F16 := fun_mk (st := sMachine) l16 c16 k16
  have b16 := F16.binds (ps := ["thing"]) fun _ _ _ _ _ _ us hl => match us, hl with | [_], _ => rfl
  have F17 := fun_mk (st := sPlain) l17 c17 k17
  have b17 := F17.binds (ps := ["thing"]) fun _ _ _ _ _ _ us hl => match us, hl with | [_], _ => rfl
  have F18 := fun_mk (st := sXLetters) l18 c18 k18
  have b18 := F18.binds (ps := ["pen"]) fun _ _ _ _ _ _ us hl => match us, hl with | [_], _ => rfl
  have F19 := fun_mk (st := sXRule) l19 c19 k19
  have b19 := F19.binds (ps := ["pen", "letters", "most"]) fun _ _ _ _ _ _ us hl => match us, hl with | [_, _, _], _ => rfl
  have F20 := fun_mk (st := sXMachineB) l20 c20 k20
  have b20 := F20.binds (ps := ["pen", "base", "letters", "most", "wide"]) fun _ _ _ _ _ _ us hl => match us, hl with | [_, _, _, _, _], _ => rfl
  have F21 := fun_mk (st := sXPlainB) l21 c21 k21
  have b21 := F21.binds (ps := ["pen", "base", "letters", "most", "wide"]) fun _ _ _ _ _ _ us hl => match us, hl with | [_, _, _, _, _], _ => rfl
  have F22 := fun_mk (st := sXFreeB) l22 c22 k22
  have b22 := F22.binds (ps := ["letters"]) fun _ _ _ _ _ _ us hl => match us, hl with | [_], _ => rfl
  have F23 := fun_mk (st := sXBounds) l23 c23 k23
  have b23 := F23.binds (ps := ["pen"]) fun _ _ _ _ _ _ us hl => match us, hl with | [_], _ => rfl
  have F24 := fun_mk (st := sXBent) l24 c24 k24
  have b24 := F24.binds (ps := ["pen", "value"]) fun _ _ _ _ _ _ us hl => match us, hl with | [_, _], _ => rfl
  have F25 := fun_mk (st := sXBetween) l25 c25 k25
  have b25 := F25.binds (ps := ["value", "low", "high"]) fun _ _ _ _ _ _ us hl => match us, hl with | [_, _, _], _ => rfl
  have F26 := fun_mk (st := sXAre) l26 c26 k26
  have b26 := F26.binds (ps := ["value"]) fun _ _ _ _ _ _ us hl => match us, hl with | [_], _ => rfl
  have F27 := fun_mk (st := sXHead) l27 c27 k27
  have b27 := F27.binds (ps := ["value", "most"]) fun _ _ _ _ _ _ us hl => match us, hl with | [_, _], _ => rfl
  have F28 := fun_mk (st := sXPair) l28 c28 k28
  have b28 := F28.binds (ps := ["value", "many", "most"]) fun _ _ _ _ _ _ us hl => match us, hl with | [_, _, _], _ => rfl
  have F29 := fun_mk (st := sXChoice) l29 c29 k29
  have b29 := F29.binds (ps := ["value", "many"]) fun _ _ _ _ _ _ us hl => match us, hl with | [_, _], _ => rfl
  have F30 := fun_mk (st := sXMachine) l30 c30 k30
  have b30 := F30.binds (ps := ["value", "plain"]) fun _ _ _ _ _ _ us hl => match us, hl with | [_, _], _ => rfl
  have F31 := fun_mk (st := sXIsRule) l31 c31 k31
  have b31 := F31.binds (ps := ["value"]) fun _ _ _ _ _ _ us hl => match us, hl with | [_], _ => rfl
  have F32 := fun_mk (st := sLaw) l32 c32 k32
  have b32 := F32.binds (ps := ["script"]) fun _ _ _ _ _ _ us hl => match us, hl with | [_], _ => rfl
  have TP : PenTxt K mg f1 f2 f3 f4 _ _ _ _ := { int := PySem.W.mg_none_of X G z0, list := PySem.W.mg_none_of X G z1, len := PySem.W.mg_none_of X G z2, enumerate := PySem.W.mg_none_of X G z3, FSpread := F1, bSpread := b1, gSpread := PySem.W.mg_of X G a1, FOpen := F2, bOpen := b2, gOpen := PySem.W.mg_of X G a2, FTake := F3, bTake := b3, gTake := PySem.W.mg_of X G a3, FPick := F4, bPick := b4, gPick := PySem.W.mg_of X G a4 }
  have TK : LookTxt K mg f5 f6 f7 f8 f9 f10 f11 _ _ _ _ _ _ _ t1 t2 := { type := PySem.W.mg_none_of X G z4, int := PySem.W.mg_none_of X G z0, tuple := PySem.W.mg_none_of X G z5, str := PySem.W.mg_none_of X G z6, len := PySem.W.mg_none_of X G z2, all := PySem.W.mg_none_of X G z7, range := PySem.W.mg_none_of X G z8, mLetters := PySem.W.mg_of X G hm1, mStates := PySem.W.mg_of X G hm2, FWhole := F5, bWhole := b5, gWhole := PySem.W.mg_of X G a5, FBetween := F6, bBetween := b6, gBetween := PySem.W.mg_of X G a6, FTuple := F7, bTuple := b7, gTuple := PySem.W.mg_of X G a7, FLetters := F8, bLetters := b8, gLetters := PySem.W.mg_of X G a8, FWayOn := F9, bWayOn := b9, gWayOn := PySem.W.mg_of X G a9, FTable := F10, bTable := b10, gTable := PySem.W.mg_of X G a10, FRule := F11, bRule := b11, gRule := PySem.W.mg_of X G a11 }
  have TM : MachTxt K mg f5 f6 f7 f8 f13 f9 f10 f14 f15 f16 f17 f11 _ _ _ _ _ _ _ _ _ _ _ _ t1 t2 t3 t4 t5 := { look := TK, set := PySem.W.mg_none_of X G z10, mPlain := PySem.W.mg_of X G hm3, mWide := ⟨t6, by rw [show ((10 : Int) ^ (30 : Int).toNat) = 1000000000000000000000000000000 from by decide +kernel]; exact PySem.W.mg_of X G hm6⟩, mPairs := PySem.W.mg_of X G hm4, mPay := PySem.W.mg_of X G hm5, FPair := F13, bPair := b13, gPair := PySem.W.mg_of X G a13, FFrame := F14, bFrame := b14, gFrame := PySem.W.mg_of X G a14, FChoice := F15, bChoice := b15, gChoice := PySem.W.mg_of X G a15, FMachine := F16, bMachine := b16, gMachine := PySem.W.mg_of X G a16, FPlain := F17, bPlain := b17, gPlain := PySem.W.mg_of X G a17 }
  have TF : FreeTxt K mg f5 f6 f7 f8 f9 f10 f11 _ _ _ _ _ _ _ t1 t2 C1 f12 _ := { look := TK, noLetters := ⟨PySem.W.mg_of X G ea1, eq1, ek1, eb1, et1⟩, FFreeRule := F12, bFreeRule := b12, gFreeRule := PySem.W.mg_of X G a12 }
  have TL : LetTxt K mg f18 _ := { FXLetters := F18, bXLetters := b18, gXLetters := PySem.W.mg_of X G a18 }
  have TU : RulTxt K mg f19 _ := { range := PySem.W.mg_none_of X G z8, len := PySem.W.mg_none_of X G z2, tuple := PySem.W.mg_none_of X G z5, FXRule := F19, bXRule := b19, gXRule := PySem.W.mg_of X G a19 }
  have TB : BldTxt K mg f20 f21 f22 f23 _ _ _ _ := { range := PySem.W.mg_none_of X G z8, len := PySem.W.mg_none_of X G z2, tuple := PySem.W.mg_none_of X G z5, int := PySem.W.mg_none_of X G z0, FXMachineB := F20, bXMachineB := b20, gXMachineB := PySem.W.mg_of X G a20, FXPlainB := F21, bXPlainB := b21, gXPlainB := PySem.W.mg_of X G a21, FXFreeB := F22, bXFreeB := b22, gXFreeB := PySem.W.mg_of X G a22, FXBounds := F23, bXBounds := b23, gXBounds := PySem.W.mg_of X G a23 }
  have TX : BentTxt K mg f24 _ := { isi := PySem.W.mg_none_of X G z9, int := PySem.W.mg_none_of X G z0, bool := PySem.W.mg_none_of X G z12, str := PySem.W.mg_none_of X G z6, dict := PySem.W.mg_none_of X G z13, tuple := PySem.W.mg_none_of X G z5, list := PySem.W.mg_none_of X G z1, len := PySem.W.mg_none_of X G z2, FXBent := F24, bXBent := b24, gXBent := PySem.W.mg_of X G a24 }
  have T7 : L34 K mg f25 f26 f27 f28 f29 f30 f31 _ _ _ _ _ _ _ := { isi := PySem.W.mg_none_of X G z9, int := PySem.W.mg_none_of X G z0, bool := PySem.W.mg_none_of X G z12, str := PySem.W.mg_none_of X G z6, tuple := PySem.W.mg_none_of X G z5, len := PySem.W.mg_none_of X G z2, set := PySem.W.mg_none_of X G z10, sorted := PySem.W.mg_none_of X G z11, enumerate := PySem.W.mg_none_of X G z3, FXBetween := F25, bXBetween := b25, gXBetween := PySem.W.mg_of X G a25, FXAre := F26, bXAre := b26, gXAre := PySem.W.mg_of X G a26, FXHead := F27, bXHead := b27, gXHead := PySem.W.mg_of X G a27, FXPair := F28, bXPair := b28, gXPair := PySem.W.mg_of X G a28, FXChoice := F29, bXChoice := b29, gXChoice := PySem.W.mg_of X G a29, FXMachine := F30, bXMachine := b30, gXMachine := PySem.W.mg_of X G a30, FXIsRule := F31, bXIsRule := b31, gXIsRule := PySem.W.mg_of X G a31 }
  have T0 : LawTxt K mg := { range := PySem.W.mg_none_of X G z8, repr := PySem.W.mg_none_of X G z14, int := PySem.W.mg_none_of X G z0 }
  exact ⟨_, fun s v => .of_eq rfl, fun base _ _ => ok_law F32 TP TL TU TX TB T7 TM TF T0⟩
end My
open PySem PySem.W PyProof.Rows
set_option maxHeartbeats 0 in
theorem PySem.Challenge.cw_laterless_k34_machines_recognized_holds : PySem.Challenge.rw_laterless_k34_machines_recognized.Holds := by
  w_on; o_law; k_head; (case hw => w_witness2)
  k_fill
  refine My.walk_ofG (l := PySem.Challenge.rw_laterless_k34_machines_recognized) (n := 63) (k := 13) (x := "script") (CX := fun _ => L2.CX0) (sp := fun w => My.spLaw _) rfl (by decide) rfl ⟨rfl, by decide, by decide⟩ (fun w h Y => PySem.W.kIn_of Y) ?F (fun _ _ a ns hl _ hS => ⟨a, ns, rfl, hS, hl, fun _ => rfl⟩) (fun _ _ _ _ _ h => h)
  case F =>
    intro w mg fa h KX G hmg
    refine' My.all_mk KX G hmg ?a1 ?l1 ?c1 ?k1 ?a2 ?l2 ?c2 ?k2 ?a3 ?l3 ?c3 ?k3 ?a4 ?l4 ?c4 ?k4 ?a5 ?l5 ?c5 ?k5 ?a6 ?l6 ?c6 ?k6 ?a7 ?l7 ?c7 ?k7 ?a8 ?l8 ?c8 ?k8 ?a9 ?l9 ?c9 ?k9 ?a10 ?l10 ?c10 ?k10 ?a11 ?l11 ?c11 ?k11 ?a12 ?l12 ?c12 ?k12 ?a13 ?l13 ?c13 ?k13 ?a14 ?l14 ?c14 ?k14 ?a15 ?l15 ?c15 ?k15 ?a16 ?l16 ?c16 ?k16 ?a17 ?l17 ?c17 ?k17 ?a18 ?l18 ?c18 ?k18 ?a19 ?l19 ?c19 ?k19 ?a20 ?l20 ?c20 ?k20 ?a21 ?l21 ?c21 ?k21 ?a22 ?l22 ?c22 ?k22 ?a23 ?l23 ?c23 ?k23 ?a24 ?l24 ?c24 ?k24 ?a25 ?l25 ?c25 ?k25 ?a26 ?l26 ?c26 ?k26 ?a27 ?l27 ?c27 ?k27 ?a28 ?l28 ?c28 ?k28 ?a29 ?l29 ?c29 ?k29 ?a30 ?l30 ?c30 ?k30 ?a31 ?l31 ?c31 ?k31 ?a32 ?l32 ?c32 ?k32 ?ea1 ?eq1 ?ek1 ?eb1 ?et1 ?hm1 ?hm2 ?hm3 ?hm4 ?hm5 ?hm6 ?z0 ?z1 ?z2 ?z3 ?z4 ?z5 ?z6 ?z7 ?z8 ?z9 ?z10 ?z11 ?z12 ?z13 ?z14
    (case a1 => k_is); (case l1 => k_is); (case c1 => k_is); (case k1 => k_is)
    (case a2 => k_is); (case l2 => k_is); (case c2 => k_is); (case k2 => k_is)
    (case a3 => k_is); (case l3 => k_is); (case c3 => k_is); (case k3 => k_is)
    (case a4 => k_is); (case l4 => k_is); (case c4 => k_is); (case k4 => k_is)
    (case a5 => k_is); (case l5 => k_is); (case c5 => k_is); (case k5 => k_is)
    (case a6 => k_is); (case l6 => k_is); (case c6 => k_is); (case k6 => k_is)
    (case a7 => k_is); (case l7 => k_is); (case c7 => k_is); (case k7 => k_is)
    (case a8 => k_is); (case l8 => k_is); (case c8 => k_is); (case k8 => k_is)
    (case a9 => k_is); (case l9 => k_is); (case c9 => k_is); (case k9 => k_is)
    (case a10 => k_is); (case l10 => k_is); (case c10 => k_is); (case k10 => k_is)
    (case a11 => k_is); (case l11 => k_is); (case c11 => k_is); (case k11 => k_is)
    (case a12 => k_is); (case l12 => k_is); (case c12 => k_is); (case k12 => k_is)
    (case a13 => k_is); (case l13 => k_is); (case c13 => k_is); (case k13 => k_is)
    (case a14 => k_is); (case l14 => k_is); (case c14 => k_is); (case k14 => k_is)
    (case a15 => k_is); (case l15 => k_is); (case c15 => k_is); (case k15 => k_is)
    (case a16 => k_is); (case l16 => k_is); (case c16 => k_is); (case k16 => k_is)
    (case a17 => k_is); (case l17 => k_is); (case c17 => k_is); (case k17 => k_is)
    (case a18 => k_is); (case l18 => k_is); (case c18 => k_is); (case k18 => k_is)
    (case a19 => k_is); (case l19 => k_is); (case c19 => k_is); (case k19 => k_is)
    (case a20 => k_is); (case l20 => k_is); (case c20 => k_is); (case k20 => k_is)
    (case a21 => k_is); (case l21 => k_is); (case c21 => k_is); (case k21 => k_is)
    (case a22 => k_is); (case l22 => k_is); (case c22 => k_is); (case k22 => k_is)
    (case a23 => k_is); (case l23 => k_is); (case c23 => k_is); (case k23 => k_is)
    (case a24 => k_is); (case l24 => k_is); (case c24 => k_is); (case k24 => k_is)
    (case a25 => k_is); (case l25 => k_is); (case c25 => k_is); (case k25 => k_is)
    (case a26 => k_is); (case l26 => k_is); (case c26 => k_is); (case k26 => k_is)
    (case a27 => k_is); (case l27 => k_is); (case c27 => k_is); (case k27 => k_is)
    (case a28 => k_is); (case l28 => k_is); (case c28 => k_is); (case k28 => k_is)
    (case a29 => k_is); (case l29 => k_is); (case c29 => k_is); (case k29 => k_is)
    (case a30 => k_is); (case l30 => k_is); (case c30 => k_is); (case k30 => k_is)
    (case a31 => k_is); (case l31 => k_is); (case c31 => k_is); (case k31 => k_is)
    (case a32 => k_is); (case l32 => k_is); (case c32 => k_is); (case k32 => k_is)
    (case ea1 => k_is); (case eq1 => k_exc); (case ek1 => k_is); (case eb1 => k_is); (case et1 => k_is)
    (case hm1 => k_is); (case hm2 => k_is); (case hm3 => k_is); (case hm4 => k_is); (case hm5 => k_is); (case hm6 => k_is)
    (case z0 => k_is); (case z1 => k_is); (case z2 => k_is); (case z3 => k_is); (case z4 => k_is); (case z5 => k_is); (case z6 => k_is); (case z7 => k_is); (case z8 => k_is); (case z9 => k_is); (case z10 => k_is); (case z11 => k_is); (case z12 => k_is); (case z13 => k_is); (case z14 => k_is)
