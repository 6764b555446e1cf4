import PyProof.Rows.All
import Wide.All
import OpenK.AllK
import Wide.FinOn
import HandS.ForMost
import HandS.ForExc
import HandS.Wide
import HandS.Gcd
import HandS.Evl
import HandS.Walk
import HandS.More
import HandS.FStr
import HandS.IsInst
import HandS.RaiseMore
import HandS.Style
import HandS.ExcValue
import HandS.ExcIs
import HandS.Lambda
import HandS.EndTab
import HandS.EndOwn
import PyProof.TypeEq
import PyProof.ReprLen
import HandS.TupSets
import HandS.Replace
import HandS.Defaults
import PyProof.ListStr
import KE.GoesEnum
import HandS.TupMul
import HandS.TupAny
import HandS.Deep
import HandS.Zip
import HandS.RevRange
import HandS.WideBits
import HandS.ListItems
import HandS.DictComp
import HandS.Finally
import HandS.SortRule
import KE.KDictKeyed
import KE.KDictDisplayH
import HandS.MakeKwOnly
import HandS.TupLen
import HandS.Records
import HandS.Conv
import KE.SortData
import KE.KDictWalk
import PyProof.DictRoadsH
import PySem.Challenge.RW_laterless_k43_words_that_are_won
set_option Elab.async false
set_option linter.all false
set_option maxRecDepth 100000
set_option maxHeartbeats 4000000
namespace My
open PySem PySem.Spec PyProof.Rows L2
/-! ### the text by places -/
def topS (i : Nat) : Stmt := PySem.Challenge.pw_laterless_k43_words_that_are_won.main.body.getD i (.Pass ⟨0, 0, 0, 0⟩)
abbrev sSpread : Stmt := topS 54
abbrev sOpen : Stmt := topS 55
abbrev sTake : Stmt := topS 56
abbrev sPick : Stmt := topS 57
theorem scSpread : FnScope ["cell", "at", "primes", "one", "two", "three"] ["cell", "at"] (defScope sSpread) := ⟨rfl, rfl, rfl, by decide +kernel, rfl, by decide +kernel, by decide +kernel⟩
theorem scOpen : FnScope ["script", "cells", "nth", "cell"] ["script"] (defScope sOpen) := ⟨rfl, rfl, rfl, by decide +kernel, rfl, by decide +kernel, by decide +kernel⟩
theorem scTake : FnScope ["pen", "many", "at", "cell", "found"] ["pen", "many"] (defScope sTake) := ⟨rfl, rfl, rfl, by decide +kernel, rfl, by decide +kernel, by decide +kernel⟩
theorem scPick : FnScope ["pen", "some"] ["pen", "some"] (defScope sPick) := ⟨rfl, rfl, rfl, by decide +kernel, rfl, by decide +kernel, by decide +kernel⟩
/-! ### heaps -/
theorem same_upd {H : Hp} {p : Addr} {o : HO} (h : H p = none) : Same H (upd H p o) := fun b x e => by
  rw [upd_ne (ne_of_none e h)]
  exact e
/-- all tracked things but the one at p stand as they stood -/
def But (p : Addr) (H H' : Hp) : Prop := ∀ b o, b ≠ p → H b = some o → H' b = some o
theorem But.of {p : Addr} {H H' : Hp} (s : Same H H') : But p H H' := fun b o _ e => s b o e
theorem But.trans {p : Addr} {H H1 H2 : Hp} (a : But p H H1) (b : But p H1 H2) : But p H H2 := fun c o n e => b c o n (a c o n e)
theorem but_upd {H : Hp} {p : Addr} {o : HO} : But p H (upd H p o) := fun b x n e => by
  rw [upd_ne n]
  exact e
/-- a pen stands at p: a list of the list of cells (at c), the number of cells read so far, at most n, and what is left of the last one -/
structure Pen (H : Hp) (p : Addr) (n : Nat) : Prop where
  ex : ∃ (c : Addr) (cs : List Int) (a r : Int), H p = some (.lst [.ref c, .int a, .int r]) ∧ H c = some (.lst (cs.map V.int)) ∧ c ≠ p ∧ cs.length ≤ 12 ∧ 0 ≤ a ∧ a ≤ (n : Int) ∧ 0 ≤ r
theorem Pen.same {H H' : Hp} {p : Addr} {n : Nat} (h : Pen H p n) (s : Same H H') : Pen H' p n := by
  obtain ⟨c, cs, a, r, h1, h2, h3⟩ := h.ex
  exact ⟨c, cs, a, r, s _ _ h1, s _ _ h2, h3⟩
theorem Pen.mono {H : Hp} {p : Addr} {n m : Nat} (h : Pen H p n) (l : n ≤ m) : Pen H p m := by
  obtain ⟨c, cs, a, r, h1, h2, h3, h4, h5, h6, h7⟩ := h.ex
  exact ⟨c, cs, a, r, h1, h2, h3, h4, h5, by omega, h7⟩
theorem Pen.ls {H : Hp} {p : Addr} {n : Nat} (h : Pen H p n) : ∃ xs, H p = some (.lst xs) := by
  obtain ⟨c, cs, a, r, h1, _⟩ := h.ex
  exact ⟨_, h1⟩
/-! ### the promises -/
def spSpread : Sp := fun vs H Q _ => ∃ (c a : Int), vs = [.int c, .int a] ∧ 0 ≤ a ∧ a < 1048576 ∧ ∀ H' r, Same H H' → 0 ≤ r → Q (.int r) H'
def spOpen (K : PySem.W.Frag) : Sp := fun vs H Q _ => ∃ (a : Addr) (ns : List Int), vs = [.ref a] ∧ SqL K H a (ns.map V.int) ∧ ns.length ≤ 63 ∧ ∀ H' p, Same H H' → H p = none → Pen H' p 0 → Q (.ref p) H'
def spTake : Sp := fun vs H Q _ => ∃ (p : Addr) (many : Int) (n : Nat), vs = [.ref p, .int many] ∧ Pen H p n ∧ n < 1048000 ∧ 0 < many ∧ many.natAbs.log2 < 9000 ∧ ∀ H' k, But p H H' → Pen H' p (n + 1) → 0 ≤ k → k < many → Q (.int k) H'
def spPick (K : PySem.W.Frag) : Sp := fun vs H Q _ => ∃ (p s : Addr) (xs : List V) (n : Nat), vs = [.ref p, .ref s] ∧ Pen H p n ∧ n < 1048000 ∧ SqL K H s xs ∧ s ≠ p ∧ 0 < xs.length ∧ xs.length ≤ 1000 ∧ ∀ (H' : Hp) (k : Nat) (v : V), But p H H' → Pen H' p (n + 1) → xs[(k : Nat)]? = some (v : V) → Q v H'
def primesV : List V := ([.int 2147483629, .int 2147483587, .int 2147483579, .int 2147483563, .int 2147483549, .int 2147483543, .int 2147483497, .int 2147483489] : List V) ++ [.int 2147483477, .int 2147483423, .int 2147483399, .int 2147483353, .int 2147483323]
theorem prime_at {k : Int} (h0 : 0 ≤ k) (h1 : k < 13) : ∃ m : Int, atI primesV k = some (.int m) ∧ 0 < m ∧ m < 2147483648 := by
  have h : k = 0 ∨ k = 1 ∨ k = 2 ∨ k = 3 ∨ k = 4 ∨ k = 5 ∨ k = 6 ∨ k = 7 ∨ k = 8 ∨ k = 9 ∨ k = 10 ∨ k = 11 ∨ k = 12 := by omega
  rcases h with rfl | rfl | rfl | rfl | rfl | rfl | rfl | rfl | rfl | rfl | rfl | rfl | rfl <;> exact ⟨_, rfl, by decide, by decide⟩
theorem ixN_of {n : Nat} {i : Int} (h0 : 0 ≤ i) (h1 : i < (n : Int)) : ixN n i = some i.toNat := by
  unfold ixN
  rw [if_pos h0, if_pos h1]
theorem atI_int {cs : List Int} {i : Int} (h0 : 0 ≤ i) (h1 : i < (cs.length : Int)) : ∃ z : Int, atI (cs.map V.int) i = some (.int z) := by
  have h2 : i.toNat < cs.length := by omega
  refine ⟨cs[i.toNat], ?_⟩
  unfold atI
  rw [List.length_map, ixN_of h0 h1]
  show (cs.map V.int)[i.toNat]? = _
  rw [List.getElem?_map, List.getElem?_eq_getElem h2]
  rfl
theorem cut_ints (ns : List Int) (lo hi : Option Int) : cutV (ns.map V.int) lo hi = ((ns.drop (HT.sIx ns.length 0 lo)).take (HT.sIx ns.length ns.length hi - HT.sIx ns.length 0 lo)).map V.int := by
  unfold cutV
  rw [List.length_map, List.map_take, List.map_drop]
theorem cut_len (ns : List Int) (lo hi : Option Int) : ((ns.drop (HT.sIx ns.length 0 lo)).take (HT.sIx ns.length ns.length hi - HT.sIx ns.length 0 lo)).length = min (HT.sIx ns.length ns.length hi - HT.sIx ns.length 0 lo) (ns.length - HT.sIx ns.length 0 lo) := by
  rw [List.length_take, List.length_drop]
theorem int_of {ds : List Int} {i : Nat} {y : V} (h : (ds.map V.int)[i]? = some y) : i < ds.length ∧ ∃ d : Int, y = .int d := by
  rw [List.getElem?_map] at h
  cases e : ds[i]? with
  | none =>
    rw [e] at h
    cases h
  | some d =>
    rw [e] at h
    exact ⟨(List.getElem?_eq_some_iff.mp e).1, d, (Option.some.inj h).symm⟩
theorem mul_bd {x y m : Int} (h0 : 0 ≤ x) (h1 : x ≤ m) (h2 : 0 ≤ y) : 0 ≤ x * y ∧ x * y ≤ m * y := ⟨Int.mul_nonneg h0 h2, Int.mul_le_mul_of_nonneg_right h1 h2⟩
/-- what the top has left of the pen's defs and the built-ins that they call -/
structure PenTxt (K : PySem.W.Frag) (mg : Str → Option Value) (f1 f2 f3 f4 : Addr) (d1 d2 d3 d4 : FuncData) : Prop where
  int : mg "int" = none
  list : mg "list" = none
  len : mg "len" = none
  enumerate : mg "enumerate" = none
  FSpread : Fun K "_law_spread" "_law_spread" sSpread f1 d1
  bSpread : Binds K d1 ["cell", "at"] []
  gSpread : mg "_law_spread" = some (.ref f1)
  FOpen : Fun K "_law_open" "_law_open" sOpen f2 d2
  bOpen : Binds K d2 ["script"] []
  gOpen : mg "_law_open" = some (.ref f2)
  FTake : Fun K "_law_take" "_law_take" sTake f3 d3
  bTake : Binds K d3 ["pen", "many"] []
  gTake : mg "_law_take" = some (.ref f3)
  FPick : Fun K "_law_x_pick" "_law_x_pick" sPick f4 d4
  bPick : Binds K d4 ["pen", "some"] []
  gPick : mg "_law_x_pick" = some (.ref f4)
section
variable {P : Program} {w : World} {K : PySem.W.Frag} {mg : Str → Option Value} {base : Heap} {f1 f2 f3 f4 : Addr} {d1 d2 d3 d4 : FuncData}
theorem ok_spread (T : PenTxt K mg f1 f2 f3 f4 d1 d2 d3 d4) {k : Nat} : FnOk P w K mg base CX0 (k + 1) f1 d1 ["cell", "at"] spSpread := by
  have F := T.FSpread
  refine F.ok scSpread (fun vs H Q E h => ?_) (fun cdv A outer s H vs Q E hr h => ?_)
  · obtain ⟨c, a, rfl, _⟩ := h
    rfl
  · obtain ⟨c, a, rfl, a0, a1, q⟩ := h
    refine ⟨_, (pss_cons (ps_if (pt_cmpR op_ge (pv 0) (pe_op op_pow pe_int pe_int) (nomark _)) (pss_one (ps_ret (pv 0))) pss_nil)
 (pss_cons (ps_set (i := 2) scSpread.nd rfl (.inl rfl) (pe_lst (pa_cons pe_int (pa_cons pe_int (pa_cons pe_int (pa_cons pe_int (pa_cons pe_int (pa_cons pe_int (pa_cons pe_int (pa_cons pe_int pa_nil))))))))))
 (Evl.pss_cut (ps_set (i := 2) scSpread.nd rfl (.inl rfl) (pe_op op_cat (pv 2) (pe_lst (pa_cons pe_int (pa_cons pe_int (pa_cons pe_int (pa_cons pe_int (pa_cons pe_int pa_nil))))))))
 (Evl.pss_cut (ps_set (i := 3) scSpread.nd rfl (.inl rfl) (pe_op op_mul (pe_op op_mod (pe_callTy call_int1 (by rfl) T.int (by decide +kernel) (pa_cons (pv 0) pa_nil)) pe_int) (pe_op op_add (pe_op op_mul pe_int (pv 1)) pe_int)))
 (Evl.pss_cut (ps_set (i := 3) scSpread.nd rfl (.inl rfl) (pe_op op_mod (pe_callTy call_int1 (by rfl) T.int (by decide +kernel) (pa_cons (pe_op op_pow (pe_op op_add (pe_op op_add (pv 3) (pe_op op_mul (pv 1) pe_int)) pe_int) pe_int) pa_nil)) (pe_ix ix_list (pv 2) (pe_op op_mod (pe_callTy call_int1 (by rfl) T.int (by decide +kernel) (pa_cons (pv 1) pa_nil)) pe_int) (fun _ _ => rfl))))
 (Evl.pss_cut (ps_set (i := 4) scSpread.nd rfl (.inl rfl) (pe_op op_mod (pe_callTy call_int1 (by rfl) T.int (by decide +kernel) (pa_cons (pe_op op_pow (pe_op op_add (pe_op op_add (pe_op op_mul (pv 3) (pe_op op_add (pv 1) pe_int)) (pe_op op_mod (pe_callTy call_int1 (by rfl) T.int (by decide +kernel) (pa_cons (pv 0) pa_nil)) pe_int)) pe_int) pe_int) pa_nil)) (pe_ix ix_list (pv 2) (pe_op op_mod (pe_callTy call_int1 (by rfl) T.int (by decide +kernel) (pa_cons (pe_op op_add (pv 1) pe_int) pa_nil)) pe_int) (fun _ _ => rfl))))
 (Evl.pss_cut (ps_set (i := 5) scSpread.nd rfl (.inl rfl) (pe_op op_mod (pe_callTy call_int1 (by rfl) T.int (by decide +kernel) (pa_cons (pe_op op_pow (pe_op op_add (pe_op op_add (pv 4) (pe_op op_mod (pe_callTy call_int1 (by rfl) T.int (by decide +kernel) (pa_cons (pv 3) pa_nil)) pe_int)) (pv 1)) pe_int) pa_nil)) (pe_ix ix_list (pv 2) (pe_op op_mod (pe_callTy call_int1 (by rfl) T.int (by decide +kernel) (pa_cons (pe_op op_add (pv 1) pe_int) pa_nil)) pe_int) (fun _ _ => rfl))))
 (pss_one (ps_ret (pe_op op_add (pe_op op_mul (pe_op op_add (pe_op op_mul (pv 3) pe_int) (pv 4)) pe_int) (pv 5))))))))))), ?_⟩
    refine ⟨.int c, rfl, 10, 18, rfl, rfl, ⟨by decide, by decide, by decide⟩, c, _, rfl, rfl, _, rfl, ite2 (fun e => ?_) (fun e => ?_)⟩
    · have e' := of_decide_eq_true e
      exact ⟨_, rfl, q H c (Same.refl H) (Int.le_trans (by decide) e')⟩
    · refine ⟨(by show 8 ≤ sizeLine; decide), fun p hp => ?_⟩
      refine ⟨fun σ H' => ∃ l, σ = [some (.int c), some (.int a), some (.ref l), none, none, none] ∧ Same H H' ∧ SqL K H' l primesV, ?_, ?_⟩
      · refine ⟨_, rfl, (by show 5 ≤ sizeLine; decide), fun p2 hp2 => ?_⟩
        have n12 : p ≠ p2 := ne_of_none upd_same hp2
        exact ⟨p, p2, _, _, rfl, rfl, (by rw [upd_ne n12]; exact upd_same), upd_same, (by show 13 ≤ sizeLine; decide), fun l hl => ⟨l, rfl, ((same_upd hp).trans (same_upd hp2)).trans (same_upd hl), SqL.of upd_same⟩⟩
      rintro σ H3 ⟨l, rfl, s3, hS⟩
      -- one
      refine ⟨fun σ H' => ∃ one : Int, σ = [some (.int c), some (.int a), some (.ref l), some (.int one), none, none] ∧ H' = H3 ∧ 0 ≤ one ∧ one ≤ 1000000006 * (2 * a + 69069), ?_, ?_⟩
      · have c1 := Int.emod_nonneg c (show (1000000007 : Int) ≠ 0 by decide)
        have c2 := Int.emod_lt_of_pos c (show (0 : Int) < 1000000007 by decide)
        obtain ⟨o1, o2⟩ := mul_bd c1 (show c % 1000000007 ≤ 1000000006 by omega) (show 0 ≤ 2 * a + 69069 by omega)
        exact ⟨_, rfl, .inl ⟨_, rfl, _, _, rfl, rfl, (by show (0 : Int) < 1000000007; decide), _, rfl, _, _, rfl, rfl, .inl ⟨by decide, by decide⟩, _, _, rfl, rfl, _, _, rfl, rfl, .inl ⟨(by omega), (by omega)⟩, _, rfl, rfl, o1, o2⟩⟩
      rintro σ H3 ⟨one, rfl, rfl, o1, o2⟩
      refine ⟨fun σ H' => ∃ one : Int, σ = [some (.int c), some (.int a), some (.ref l), some (.int one), none, none] ∧ H' = H3 ∧ 0 ≤ one ∧ one < 2147483648, ?_, ?_⟩
      · obtain ⟨m, hm, m0, m1⟩ := prime_at (Int.emod_nonneg a (show (13 : Int) ≠ 0 by decide)) (Int.emod_lt_of_pos a (show (0 : Int) < 13 by decide))
        have u1 := Int.emod_nonneg ((one + a * 40503 + 977) ^ (3 : Int).toNat) (show m ≠ 0 by omega)
        have u2 := Int.emod_lt_of_pos ((one + a * 40503 + 977) ^ (3 : Int).toNat) m0
        refine ⟨_, rfl, _, rfl, _, _, rfl, rfl, .inl ⟨(by omega), (by omega)⟩, _, _, rfl, rfl, _, _, rfl, rfl, _, _, rfl, rfl, ⟨by decide, by decide, (by omega)⟩, .inl ⟨_, rfl, ?_⟩⟩
        exact ⟨_, rfl, _, rfl, .inl ⟨_, rfl, _, _, rfl, rfl, (by show (0 : Int) < 13; decide), l, _, _, _, rfl, rfl, hS, hm, _, _, rfl, rfl, m0, _, rfl, rfl, u1, Int.lt_trans u2 m1⟩⟩
      rintro σ H3 ⟨one, rfl, rfl, p1, p2⟩
      -- two
      refine ⟨fun σ H' => ∃ two : Int, σ = [some (.int c), some (.int a), some (.ref l), some (.int one), some (.int two), none] ∧ H' = H3 ∧ 0 ≤ two ∧ two < 2147483648, ?_, ?_⟩
      · have d1 := Int.emod_nonneg c (show (65537 : Int) ≠ 0 by decide)
        have d2 := Int.emod_lt_of_pos c (show (0 : Int) < 65537 by decide)
        obtain ⟨o1, o2⟩ := mul_bd p1 (show one ≤ 2147483647 by omega) (show 0 ≤ a + 3 by omega)
        obtain ⟨m, hm, m0, m1⟩ := prime_at (Int.emod_nonneg (a + 5) (show (13 : Int) ≠ 0 by decide)) (Int.emod_lt_of_pos (a + 5) (show (0 : Int) < 13 by decide))
        have u1 := Int.emod_nonneg ((one * (a + 3) + c % 65537 + 5) ^ (5 : Int).toNat) (show m ≠ 0 by omega)
        have u2 := Int.emod_lt_of_pos ((one * (a + 3) + c % 65537 + 5) ^ (5 : Int).toNat) m0
        refine ⟨_, rfl, _, rfl, _, _, rfl, rfl, _, _, rfl, rfl, .inl ⟨(by omega), (by omega)⟩, _, rfl, .inl ⟨_, rfl, _, _, rfl, rfl, (by show (0 : Int) < 65537; decide), _, _, rfl, rfl, _, _, rfl, rfl, _, _, rfl, rfl, ⟨by decide, by decide, (by omega)⟩, .inl ⟨_, rfl, ?_⟩⟩⟩
        exact ⟨_, rfl, _, rfl, _, _, rfl, rfl, .inl ⟨_, rfl, _, _, rfl, rfl, (by show (0 : Int) < 13; decide), l, _, _, _, rfl, rfl, hS, hm, _, _, rfl, rfl, m0, _, rfl, rfl, u1, Int.lt_trans u2 m1⟩⟩
      rintro σ H3 ⟨two, rfl, rfl, q1, q2⟩
      -- three
      refine ⟨fun σ H' => ∃ three : Int, σ = [some (.int c), some (.int a), some (.ref l), some (.int one), some (.int two), some (.int three)] ∧ H' = H3 ∧ 0 ≤ three, ?_, ?_⟩
      · have e1 := Int.emod_nonneg one (show (1009 : Int) ≠ 0 by decide)
        have e2 := Int.emod_lt_of_pos one (show (0 : Int) < 1009 by decide)
        obtain ⟨m, hm, m0, m1⟩ := prime_at (Int.emod_nonneg (a + 7) (show (13 : Int) ≠ 0 by decide)) (Int.emod_lt_of_pos (a + 7) (show (0 : Int) < 13 by decide))
        have u1 := Int.emod_nonneg ((two + one % 1009 + a) ^ (3 : Int).toNat) (show m ≠ 0 by omega)
        refine ⟨_, rfl, _, rfl, .inl ⟨_, rfl, _, _, rfl, rfl, (by show (0 : Int) < 1009; decide), _, _, rfl, rfl, _, rfl, _, _, rfl, rfl, _, _, rfl, rfl, ⟨by decide, by decide, (by omega)⟩, .inl ⟨_, rfl, ?_⟩⟩⟩
        exact ⟨_, rfl, _, rfl, _, _, rfl, rfl, .inl ⟨_, rfl, _, _, rfl, rfl, (by show (0 : Int) < 13; decide), l, _, _, _, rfl, rfl, hS, hm, _, _, rfl, rfl, m0, _, rfl, rfl, u1⟩⟩
      rintro σ H3 ⟨three, rfl, rfl, r1⟩
      exact ⟨_, rfl, _, _, rfl, rfl, .inr ⟨by decide, by decide⟩, _, rfl, _, _, rfl, rfl, _, _, rfl, rfl, .inr ⟨by decide, by decide⟩, _, rfl, _, _, rfl, rfl, q H3 _ s3 (by omega)⟩
theorem ok_open (T : PenTxt K mg f1 f2 f3 f4 d1 d2 d3 d4) {k : Nat} : FnOk P w K mg base CX0 (k + 1) f2 d2 ["script"] (spOpen K) := by
  have F := T.FOpen
  refine F.ok scOpen (fun vs H Q E h => ?_) (fun cdv A outer s H vs Q E hr h => ?_)
  · obtain ⟨c, a, rfl, _⟩ := h
    rfl
  · obtain ⟨a, ns, rfl, hS, hl, q⟩ := h
    refine ⟨_, (Evl.pss_cut (ps_set (i := 1) scOpen.nd rfl (.inl rfl) (pe_callTy call_list_of (by rfl) T.list (by decide +kernel) (pa_cons (pe_slice sl_list (pv 0) po_none (po_some pe_int)) pa_nil)))
 (pss_cons (ps_for PassesOwn.never rfl (pi_enum (by rfl) T.enumerate (pa_cons (pe_slice sl_list (pv 0) (po_some pe_int) (po_some pe_int)) pa_nil)) (pg_tup rfl (pgs_cons (pg_name (i := 2) scOpen.nd rfl (.inl rfl)) (pgs_cons (pg_name (i := 3) scOpen.nd rfl (.inl rfl)) pgs_nil)))
 (pss_one (ps_asg (pe_op op_add (pe_ix ix_list (pv 1) (pe_op op_mod (pe_callTy call_int1 (by rfl) T.int (by decide +kernel) (pa_cons (pv 2) pa_nil)) pe_int) (fun _ _ => rfl)) (pv 3)) (pg_sub (pv 1) (pe_op op_mod (pe_callTy call_int1 (by rfl) T.int (by decide +kernel) (pa_cons (pv 2) pa_nil)) pe_int) set_list))))
 (pss_one (ps_ret (pe_lst (pa_cons (pv 1) (pa_cons pe_int (pa_cons pe_int pa_nil)))))))), ?_⟩
    -- cells
    refine ⟨fun σ H' => ∃ (c : Addr) (cs : List Int), σ = [some (.ref a), some (.ref c), none, none] ∧ Same H H' ∧ H c = none ∧ H' c = some (.lst (cs.map V.int)) ∧ cs.length = min 12 ns.length, ?_, ?_⟩
    · refine ⟨.ref a, rfl, 12, rfl, a, ns.map V.int, rfl, hS, fun c nc => ⟨c, _, rfl, .inl (SqL.of upd_same), fun l hl => ⟨l, (ns.drop (HT.sIx ns.length 0 none)).take (HT.sIx ns.length ns.length (some 12) - HT.sIx ns.length 0 none), rfl, (same_upd nc).trans (same_upd hl), (same_upd nc).free hl, ?_, ?_⟩⟩⟩
      · rw [upd_same, cut_ints]
      · rw [cut_len]
        rw [HT.sIx_none, show HT.sIx ns.length ns.length (some 12) = min 12 ns.length from HT.sIx_nat ns.length ns.length 12]
        omega
    rintro σ H1 ⟨c, cs, rfl, s1, nc, hC, lC⟩
    have hS1 : SqL K H1 a (ns.map V.int) := s1.seq hS
    refine ⟨.ref a, rfl, 12, rfl, 63, rfl, a, ns.map V.int, rfl, hS1, fun d nd => ⟨d, _, rfl, SqL.of upd_same, ?_⟩⟩
    have s2 : Same H1 (upd H1 d (.lst (cutV (ns.map V.int) (some 12) (some 63)))) := same_upd nd
    rw [cut_ints] at s2 ⊢
    have l2 := cut_len ns (some 12) (some 63)
    rw [show HT.sIx ns.length 0 (some 12) = min 12 ns.length from HT.sIx_nat ns.length 0 12] at l2 s2 ⊢
    have hd : (upd H1 d (.lst ((List.take (HT.sIx ns.length ns.length (some 63) - min 12 ns.length) (List.drop (min 12 ns.length) ns)).map V.int))) d = some (.lst ((List.take (HT.sIx ns.length ns.length (some 63) - min 12 ns.length) (List.drop (min 12 ns.length) ns)).map V.int)) := upd_same
    generalize (List.take (HT.sIx ns.length ns.length (some 63) - min 12 ns.length) (List.drop (min 12 ns.length) ns)) = ds at s2 l2 hd ⊢
    have ncd : c ≠ d := ne_of_none hC nd
    refine for_it (walk_enum (K := K) (a := d) (xs := ds.map V.int)) (fun i σ H' => ∃ (v2 v3 : Option V) (cs : List Int), σ = [some (.ref a), some (.ref c), v2, v3] ∧ Same H H' ∧ H' c = some (.lst (cs.map V.int)) ∧ cs.length = min 12 ns.length ∧ H' d = some (.lst (ds.map V.int)))
      ⟨none, none, cs, rfl, s1.trans s2, s2 _ _ hC, lC, hd⟩ ?_ ?_ ?_
    · rintro i σ H' _ ⟨_, _, _, _, _, _, _, h⟩
      exact SqL.of h
    · rintro i x σ H' H'' hi ⟨v2, v3, cs, rfl, s3, hC, lC, hD⟩ ⟨T, x1, y, rfl, nT, rfl, ex, ey⟩
      obtain rfl : V.int (i : Nat) = x1 := Option.some.inj ex
      obtain ⟨hi2, z, rfl⟩ := int_of ey
      have c12 : cs.length = 12 := by omega
      have sT : Same H' (upd H' T (.tup [.int (i : Nat), .int z])) := same_upd nT
      have hC' := sT _ _ hC
      have m0 := Int.emod_nonneg ((i : Nat) : Int) (show (12 : Int) ≠ 0 by decide)
      have m1 := Int.emod_lt_of_pos ((i : Nat) : Int) (show (0 : Int) < 12 by decide)
      obtain ⟨u, hu⟩ := atI_int (cs := cs) m0 (by omega)
      refine ⟨T, _, rfl, SqT.of upd_same, rfl, _, _, rfl, _, _, rfl, rfl, ?_⟩
      refine ⟨_, rfl, _, rfl, .inl ⟨_, rfl, _, _, rfl, rfl, (by show (0 : Int) < 12; decide), c, _, _, _, rfl, rfl, SqL.of hC', hu, _, rfl, _, _, rfl, rfl, _, rfl, _, rfl, .inl ⟨_, rfl, _, _, rfl, rfl, (by show (0 : Int) < 12; decide), c, _, _, _, rfl, rfl, hC', ixN_of m0 (by rw [List.length_map]; omega), ?_⟩⟩⟩
      refine ⟨_, _, cs.set ((i : Int) % 12).toNat (u + z), rfl, fun b o e => ?_, ?_, by rw [List.length_set]; exact lC, ?_⟩
      · have nb : b ≠ c := fun q => by
          rw [q, nc] at e
          cases e
        rw [upd_ne nb]
        exact sT _ _ (s3 _ _ e)
      · rw [upd_same, List.map_set]
      · rw [upd_ne ncd.symm]
        exact sT _ _ hD
    · rintro σ H' ⟨v2, v3, cs, rfl, s3, hC, lC, hD⟩
      refine ⟨_, rfl, (by show 3 ≤ sizeLine; decide), fun p hp => q _ p (s3.trans (same_upd hp)) (s3.free hp) ⟨c, cs, 0, 0, upd_same, ?_, ne_of_none hC hp, by omega, by decide, by decide, by decide⟩⟩
      exact same_upd hp _ _ hC
theorem ok_take (T : PenTxt K mg f1 f2 f3 f4 d1 d2 d3 d4) {k : Nat} : FnOk P w K mg base CX0 (k + 2) f3 d3 ["pen", "many"] spTake := by
  have F := T.FTake
  have GS : FnOk P w K mg base CX0 (k + 1) f1 d1 ["cell", "at"] spSpread := ok_spread T
  refine F.ok scTake (fun vs H Q E h => ?_) (fun cdv A outer s H vs Q E hr h => ?_)
  · obtain ⟨c, a, n, rfl, _⟩ := h
    rfl
  · obtain ⟨p, many, n, rfl, hP, hn, m0, m1, q⟩ := h
    refine ⟨_, (Evl.pss_cut (ps_if (pt_cmpR op_lt (pe_ix ix_list (pv 0) pe_int (fun _ _ => rfl)) (pv 1) (nomark _)) (pss_cons (ps_set (i := 2) scTake.nd rfl (.inl rfl) (pe_ix ix_list (pv 0) pe_int (fun _ _ => rfl)))
 (pss_cons (ps_set (i := 3) scTake.nd rfl (.inl rfl) pe_int)
 (Evl.pss_cut (ps_if (pt_cmpR op_lt (pv 2) (pe_callB call_len_seq (by rfl) T.len PySem.boot_len (pa_cons (pe_ix ix_list (pv 0) pe_int (fun _ _ => rfl)) pa_nil)) (nomark _)) (pss_one (ps_set (i := 3) scTake.nd rfl (.inl rfl) (pe_ix ix_list (pe_ix ix_list (pv 0) pe_int (fun _ _ => rfl)) (pv 2) (fun _ _ => rfl)))) (pss_one (ps_if (pt_cmpR op_gt (pe_callB call_len_seq (by rfl) T.len PySem.boot_len (pa_cons (pe_ix ix_list (pv 0) pe_int (fun _ _ => rfl)) pa_nil)) pe_int (nomark _)) (pss_one (ps_set (i := 3) scTake.nd rfl (.inl rfl) (pe_op op_mod (pe_callTy call_int1 (by rfl) T.int (by decide +kernel) (pa_cons (pe_ix ix_list (pe_ix ix_list (pv 0) pe_int (fun _ _ => rfl)) (pe_op op_mod (pe_callTy call_int1 (by rfl) T.int (by decide +kernel) (pa_cons (pe_op op_add (pe_op op_mul (pv 2) pe_int) pe_int) pa_nil)) (pe_callB call_len_seq (by rfl) T.len PySem.boot_len (pa_cons (pe_ix ix_list (pv 0) pe_int (fun _ _ => rfl)) pa_nil))) (fun _ _ => rfl)) pa_nil)) (pe_op op_add (pe_op op_pow pe_int pe_int) (pv 2))))) pss_nil)))
 (pss_cons (ps_asg (pe_op op_add (pv 2) pe_int) (pg_sub (pv 0) pe_int set_list))
 (pss_one (ps_asg (pe_call GS hr (by rfl) T.gSpread T.FSpread.kp T.bSpread .nil pass0 (pa_cons (pv 3) (pa_cons (pv 2) pa_nil))) (pg_sub (pv 0) pe_int set_list))))))) pss_nil)
 (pss_cons (ps_set (i := 4) scTake.nd rfl (.inl rfl) (pe_op op_mod (pe_callTy call_int1 (by rfl) T.int (by decide +kernel) (pa_cons (pe_ix ix_list (pv 0) pe_int (fun _ _ => rfl)) pa_nil)) (pv 1)))
 (pss_cons (ps_asg (pe_op op_fdivW (pe_ix ix_list (pv 0) pe_int (fun _ _ => rfl)) (pv 1)) (pg_sub (pv 0) pe_int set_list))
 (pss_one (ps_ret (pv 4)))))), ?_⟩
    obtain ⟨c, cs, a, r, hp, hc, ncp, lc, a0, a1, r0⟩ := hP.ex
    refine ⟨fun σ H' => ∃ v2 v3, σ = [some (.ref p), some (.int many), v2, v3, none] ∧ But p H H' ∧ Pen H' p (n + 1), ?_, ?_⟩
    · refine ⟨_, rfl, p, _, 2, .int r, rfl, rfl, SqL.of hp, atI_nat (j := 2) rfl, _, rfl, _, _, rfl, rfl, _, rfl, ite2 (fun _ => ?_) (fun _ => ?_)⟩
      · refine ⟨_, rfl, p, _, 1, .int a, rfl, rfl, SqL.of hp, atI_nat (j := 1) rfl, ?_⟩
        refine ⟨fun σ H' => ∃ z : Int, σ = [some (.ref p), some (.int many), some (.int a), some (.int z), none] ∧ H' = H, ?_, ?_⟩
        · refine ⟨_, rfl, _, rfl, p, _, 0, .ref c, rfl, rfl, SqL.of hp, atI_nat (j := 0) rfl, c, _, rfl, .inl (SqL.of hc), _, _, rfl, rfl, _, rfl, ite2 (fun e => ?_) (fun e => ?_)⟩
          · have e' := of_decide_eq_true e
            rw [List.length_map] at e'
            obtain ⟨z, hz⟩ := atI_int (cs := cs) a0 e'
            exact ⟨_, rfl, p, _, 0, .ref c, rfl, rfl, SqL.of hp, atI_nat (j := 0) rfl, _, rfl, c, _, _, _, rfl, rfl, SqL.of hc, hz, z, rfl, rfl⟩
          · refine ⟨_, rfl, p, _, 0, .ref c, rfl, rfl, SqL.of hp, atI_nat (j := 0) rfl, c, _, rfl, .inl (SqL.of hc), _, _, rfl, rfl, _, rfl, ite2 (fun e => ?_) (fun e => ?_)⟩
            · have e' := of_decide_eq_true e
              rw [List.length_map] at e'
              have k0 := Int.emod_nonneg (a * 5 + 3) (show (cs.length : Int) ≠ 0 by omega)
              have k1 := Int.emod_lt_of_pos (a * 5 + 3) e'
              obtain ⟨z, hz⟩ := atI_int (cs := cs) k0 k1
              have el : (List.map V.int cs).length = cs.length := List.length_map ..
              refine ⟨_, rfl, p, _, 0, .ref c, rfl, rfl, SqL.of hp, atI_nat (j := 0) rfl, _, rfl, _, _, rfl, rfl, .inr ⟨by decide, by decide⟩, _, _, rfl, rfl, .inl ⟨_, rfl, _, rfl, p, _, 0, .ref c, rfl, rfl, SqL.of hp, atI_nat (j := 0) rfl, c, _, rfl, .inl (SqL.of hc), _, _, rfl, rfl, (by rw [el]; exact e'), c, _, _, _, rfl, rfl, SqL.of hc, (by rw [el]; exact hz), .inl ⟨_, rfl, _, _, rfl, rfl, ⟨by decide, by decide, by decide⟩, _, rfl, _, _, rfl, rfl, _, _, rfl, rfl, ?_, _, rfl, rfl⟩⟩⟩
              have : (10 : Int) ^ (17 : Int).toNat = 100000000000000000 := by decide
              show 0 < (10 : Int) ^ (17 : Int).toNat + a
              omega
            · exact ⟨0, rfl, rfl⟩
        rintro σ H ⟨z, rfl, rfl⟩
        refine ⟨_, rfl, _, _, rfl, rfl, _, rfl, p, _, 1, 1, rfl, rfl, hp, rfl, ?_⟩
        refine ⟨_, rfl, _, rfl, z, a, rfl, a0, by omega, fun H2 r2 s2 r20 => ?_⟩
        have hp2 := s2 _ _ upd_same
        refine ⟨_, rfl, p, _, 2, 2, rfl, rfl, hp2, rfl, _, _, rfl, ?_, ⟨c, cs, a + 1, r2, upd_same, ?_, ncp, lc, by omega, by omega, r20⟩⟩
        · exact (but_upd.trans (But.of s2)).trans but_upd
        · rw [upd_ne ncp]
          exact s2 _ _ (by rw [upd_ne ncp]; exact hc)
      · exact ⟨_, _, rfl, fun _ _ _ e => e, hP.mono (Nat.le_succ n)⟩
    rintro σ H1 ⟨v2, v3, rfl, b1, hP1⟩
    obtain ⟨c, cs, a, r, hp, hc, ncp, lc, a0, a1, r0⟩ := hP1.ex
    refine ⟨_, rfl, p, _, 2, .int r, rfl, rfl, SqL.of hp, atI_nat (j := 2) rfl, .inl ⟨_, rfl, _, rfl, _, _, rfl, rfl, m0, ?_⟩⟩
    refine ⟨_, rfl, p, _, 2, .int r, rfl, rfl, SqL.of hp, atI_nat (j := 2) rfl, _, rfl, _, _, rfl, rfl, ⟨m0, m1⟩, _, rfl, p, _, 2, 2, rfl, rfl, hp, rfl, ?_⟩
    refine ⟨_, rfl, q _ _ (b1.trans but_upd) ⟨c, cs, a, r / many, upd_same, ?_, ncp, lc, a0, a1, Int.ediv_nonneg r0 (Int.le_of_lt m0)⟩ (Int.emod_nonneg _ (by omega)) (Int.emod_lt_of_pos _ m0)⟩
    rw [upd_ne ncp]
    exact hc
theorem ok_pick (T : PenTxt K mg f1 f2 f3 f4 d1 d2 d3 d4) {k : Nat} : FnOk P w K mg base CX0 (k + 3) f4 d4 ["pen", "some"] (spPick K) := by
  have F := T.FPick
  have GT : FnOk P w K mg base CX0 (k + 2) f3 d3 ["pen", "many"] spTake := ok_take T
  refine F.ok scPick (fun vs H Q E h => ?_) (fun cdv A outer s H vs Q E hr h => ?_)
  · obtain ⟨c, a, xs, n, rfl, _⟩ := h
    rfl
  · obtain ⟨p, l, xs, n, rfl, hP, hn, hS, nlp, l0, l1, q⟩ := h
    refine ⟨_, (pss_one (ps_ret (pe_ix ix_list (pv 1) (pe_call GT hr (by rfl) T.gTake T.FTake.kp T.bTake .nil pass0 (pa_cons (pv 0) (pa_cons (pe_callB call_len_seq (by rfl) T.len PySem.boot_len (pa_cons (pv 1) pa_nil)) pa_nil))) (fun _ _ => rfl)))), ?_⟩
    refine ⟨_, rfl, _, rfl, _, rfl, l, xs, rfl, .inl hS, p, _, n, rfl, hP, hn, by omega, ?_, fun H1 k b1 hP1 k0 k1 => ?_⟩
    · have h2 : ((xs.length : Int)).natAbs ≤ 1000 := by omega
      have h3 : ((xs.length : Int)).natAbs.log2 ≤ ((xs.length : Int)).natAbs := Nat.log2_le_self _
      omega
    · have hk : k.toNat < xs.length := by omega
      have e : xs[k.toNat]? = some xs[k.toNat] := List.getElem?_eq_getElem hk
      have hS1 : SqL K H1 l xs := by
        rcases hS with (h | ⟨o, h⟩) | h
        · exact .inl (.inl (b1 _ _ nlp h))
        · exact .inl (.inr ⟨o, b1 _ _ nlp h⟩)
        · exact .inr h
      exact ⟨l, xs, k, _, rfl, rfl, hS1, at_of (by omega) e, q H1 k.toNat _ b1 hP1 e⟩
end
end My
/-! ### the pen with its cells at c -/
namespace My
open PySem PySem.Spec PyProof.Rows L2
structure PenC (H : Hp) (p c : Addr) (n : Nat) : Prop where
  ex : ∃ (cs : List Int) (a r : Int), H p = some (.lst [.ref c, .int a, .int r]) ∧ H c = some (.lst (cs.map V.int)) ∧ c ≠ p ∧ cs.length ≤ 12 ∧ 0 ≤ a ∧ a ≤ (n : Int) ∧ 0 ≤ r
theorem PenC.pen {H : Hp} {p c : Addr} {n : Nat} (h : PenC H p c n) : Pen H p n := by
  obtain ⟨cs, a, r, h1⟩ := h.ex
  exact ⟨c, cs, a, r, h1⟩
theorem Pen.at {H : Hp} {p : Addr} {n : Nat} (h : Pen H p n) : ∃ c, PenC H p c n := by
  obtain ⟨c, cs, a, r, h1⟩ := h.ex
  exact ⟨c, cs, a, r, h1⟩
theorem PenC.mono {H : Hp} {p c : Addr} {n m : Nat} (h : PenC H p c n) (l : n ≤ m) : PenC H p c m := by
  obtain ⟨cs, a, r, h1, h2, h3, h4, h5, h6, h7⟩ := h.ex
  exact ⟨cs, a, r, h1, h2, h3, h4, h5, by omega, h7⟩
theorem PenC.keep {H H' : Hp} {p c : Addr} {n : Nat} (h : PenC H p c n) (hp : ∀ o, H p = some o → H' p = some o) (hc : ∀ o, H c = some o → H' c = some o) : PenC H' p c n := by
  obtain ⟨cs, a, r, h1, h2, h3⟩ := h.ex
  exact ⟨cs, a, r, hp _ h1, hc _ h2, h3⟩
def spTakeC : Sp := fun vs H Q _ => ∃ (p c : Addr) (many : Int) (n : Nat), vs = [.ref p, .int many] ∧ PenC H p c n ∧ n < 1048000 ∧ 0 < many ∧ many.natAbs.log2 < 9000 ∧ ∀ H' k, But p H H' → PenC H' p c (n + 1) → 0 ≤ k → k < many → Q (.int k) H'
section
variable {P : Program} {w : World} {K : PySem.W.Frag} {mg : Str → Option Value} {base : Heap} {f1 f2 f3 f4 : Addr} {d1 d2 d3 d4 : FuncData}
theorem ok_takeC (T : PenTxt K mg f1 f2 f3 f4 d1 d2 d3 d4) {k : Nat} : FnOk P w K mg base CX0 (k + 2) f3 d3 ["pen", "many"] spTakeC := by
  have F := T.FTake
  have GS : FnOk P w K mg base CX0 (k + 1) f1 d1 ["cell", "at"] spSpread := ok_spread T
  refine F.ok scTake (fun vs H Q E h => ?_) (fun cdv A outer s H vs Q E hr h => ?_)
  · obtain ⟨p, c, many, n, rfl, _⟩ := h
    rfl
  · obtain ⟨p, c, many, n, rfl, hP, hn, m0, m1, q⟩ := h
    refine ⟨_, (Evl.pss_cut (ps_if (pt_cmpR op_lt (pe_ix ix_list (pv 0) pe_int (fun _ _ => rfl)) (pv 1) (nomark _)) (pss_cons (ps_set (i := 2) scTake.nd rfl (.inl rfl) (pe_ix ix_list (pv 0) pe_int (fun _ _ => rfl)))
 (pss_cons (ps_set (i := 3) scTake.nd rfl (.inl rfl) pe_int)
 (Evl.pss_cut (ps_if (pt_cmpR op_lt (pv 2) (pe_callB call_len_seq (by rfl) T.len PySem.boot_len (pa_cons (pe_ix ix_list (pv 0) pe_int (fun _ _ => rfl)) pa_nil)) (nomark _)) (pss_one (ps_set (i := 3) scTake.nd rfl (.inl rfl) (pe_ix ix_list (pe_ix ix_list (pv 0) pe_int (fun _ _ => rfl)) (pv 2) (fun _ _ => rfl)))) (pss_one (ps_if (pt_cmpR op_gt (pe_callB call_len_seq (by rfl) T.len PySem.boot_len (pa_cons (pe_ix ix_list (pv 0) pe_int (fun _ _ => rfl)) pa_nil)) pe_int (nomark _)) (pss_one (ps_set (i := 3) scTake.nd rfl (.inl rfl) (pe_op op_mod (pe_callTy call_int1 (by rfl) T.int (by decide +kernel) (pa_cons (pe_ix ix_list (pe_ix ix_list (pv 0) pe_int (fun _ _ => rfl)) (pe_op op_mod (pe_callTy call_int1 (by rfl) T.int (by decide +kernel) (pa_cons (pe_op op_add (pe_op op_mul (pv 2) pe_int) pe_int) pa_nil)) (pe_callB call_len_seq (by rfl) T.len PySem.boot_len (pa_cons (pe_ix ix_list (pv 0) pe_int (fun _ _ => rfl)) pa_nil))) (fun _ _ => rfl)) pa_nil)) (pe_op op_add (pe_op op_pow pe_int pe_int) (pv 2))))) pss_nil)))
 (pss_cons (ps_asg (pe_op op_add (pv 2) pe_int) (pg_sub (pv 0) pe_int set_list))
 (pss_one (ps_asg (pe_call GS hr (by rfl) T.gSpread T.FSpread.kp T.bSpread .nil pass0 (pa_cons (pv 3) (pa_cons (pv 2) pa_nil))) (pg_sub (pv 0) pe_int set_list))))))) pss_nil)
 (pss_cons (ps_set (i := 4) scTake.nd rfl (.inl rfl) (pe_op op_mod (pe_callTy call_int1 (by rfl) T.int (by decide +kernel) (pa_cons (pe_ix ix_list (pv 0) pe_int (fun _ _ => rfl)) pa_nil)) (pv 1)))
 (pss_cons (ps_asg (pe_op op_fdivW (pe_ix ix_list (pv 0) pe_int (fun _ _ => rfl)) (pv 1)) (pg_sub (pv 0) pe_int set_list))
 (pss_one (ps_ret (pv 4)))))), ?_⟩
    obtain ⟨cs, a, r, hp, hc, ncp, lc, a0, a1, r0⟩ := hP.ex
    refine ⟨fun σ H' => ∃ v2 v3, σ = [some (.ref p), some (.int many), v2, v3, none] ∧ But p H H' ∧ PenC H' p c (n + 1), ?_, ?_⟩
    · refine ⟨_, rfl, p, _, 2, .int r, rfl, rfl, SqL.of hp, atI_nat (j := 2) rfl, _, rfl, _, _, rfl, rfl, _, rfl, ite2 (fun _ => ?_) (fun _ => ?_)⟩
      · refine ⟨_, rfl, p, _, 1, .int a, rfl, rfl, SqL.of hp, atI_nat (j := 1) rfl, ?_⟩
        refine ⟨fun σ H' => ∃ z : Int, σ = [some (.ref p), some (.int many), some (.int a), some (.int z), none] ∧ H' = H, ?_, ?_⟩
        · refine ⟨_, rfl, _, rfl, p, _, 0, .ref c, rfl, rfl, SqL.of hp, atI_nat (j := 0) rfl, c, _, rfl, .inl (SqL.of hc), _, _, rfl, rfl, _, rfl, ite2 (fun e => ?_) (fun e => ?_)⟩
          · have e' := of_decide_eq_true e
            rw [List.length_map] at e'
            obtain ⟨z, hz⟩ := atI_int (cs := cs) a0 e'
            exact ⟨_, rfl, p, _, 0, .ref c, rfl, rfl, SqL.of hp, atI_nat (j := 0) rfl, _, rfl, c, _, _, _, rfl, rfl, SqL.of hc, hz, z, rfl, rfl⟩
          · refine ⟨_, rfl, p, _, 0, .ref c, rfl, rfl, SqL.of hp, atI_nat (j := 0) rfl, c, _, rfl, .inl (SqL.of hc), _, _, rfl, rfl, _, rfl, ite2 (fun e => ?_) (fun e => ?_)⟩
            · have e' := of_decide_eq_true e
              rw [List.length_map] at e'
              have k0 := Int.emod_nonneg (a * 5 + 3) (show (cs.length : Int) ≠ 0 by omega)
              have k1 := Int.emod_lt_of_pos (a * 5 + 3) e'
              obtain ⟨z, hz⟩ := atI_int (cs := cs) k0 k1
              have el : (List.map V.int cs).length = cs.length := List.length_map ..
              refine ⟨_, rfl, p, _, 0, .ref c, rfl, rfl, SqL.of hp, atI_nat (j := 0) rfl, _, rfl, _, _, rfl, rfl, .inr ⟨by decide, by decide⟩, _, _, rfl, rfl, .inl ⟨_, rfl, _, rfl, p, _, 0, .ref c, rfl, rfl, SqL.of hp, atI_nat (j := 0) rfl, c, _, rfl, .inl (SqL.of hc), _, _, rfl, rfl, (by rw [el]; exact e'), c, _, _, _, rfl, rfl, SqL.of hc, (by rw [el]; exact hz), .inl ⟨_, rfl, _, _, rfl, rfl, ⟨by decide, by decide, by decide⟩, _, rfl, _, _, rfl, rfl, _, _, rfl, rfl, ?_, _, rfl, rfl⟩⟩⟩
              have : (10 : Int) ^ (17 : Int).toNat = 100000000000000000 := by decide
              show 0 < (10 : Int) ^ (17 : Int).toNat + a
              omega
            · exact ⟨0, rfl, rfl⟩
        rintro σ H ⟨z, rfl, rfl⟩
        refine ⟨_, rfl, _, _, rfl, rfl, _, rfl, p, _, 1, 1, rfl, rfl, hp, rfl, ?_⟩
        refine ⟨_, rfl, _, rfl, z, a, rfl, a0, by omega, fun H2 r2 s2 r20 => ?_⟩
        have hp2 := s2 _ _ upd_same
        refine ⟨_, rfl, p, _, 2, 2, rfl, rfl, hp2, rfl, _, _, rfl, ?_, ⟨cs, a + 1, r2, upd_same, ?_, ncp, lc, by omega, by omega, r20⟩⟩
        · exact (but_upd.trans (But.of s2)).trans but_upd
        · rw [upd_ne ncp]
          exact s2 _ _ (by rw [upd_ne ncp]; exact hc)
      · exact ⟨_, _, rfl, fun _ _ _ e => e, hP.mono (Nat.le_succ n)⟩
    rintro σ H1 ⟨v2, v3, rfl, b1, hP1⟩
    obtain ⟨cs, a, r, hp, hc, ncp, lc, a0, a1, r0⟩ := hP1.ex
    refine ⟨_, rfl, p, _, 2, .int r, rfl, rfl, SqL.of hp, atI_nat (j := 2) rfl, .inl ⟨_, rfl, _, rfl, _, _, rfl, rfl, m0, ?_⟩⟩
    refine ⟨_, rfl, p, _, 2, .int r, rfl, rfl, SqL.of hp, atI_nat (j := 2) rfl, _, rfl, _, _, rfl, rfl, ⟨m0, m1⟩, _, rfl, p, _, 2, 2, rfl, rfl, hp, rfl, ?_⟩
    refine ⟨_, rfl, q _ _ (b1.trans but_upd) ⟨cs, a, r / many, upd_same, ?_, ncp, lc, a0, a1, Int.ediv_nonneg r0 (Int.le_of_lt m0)⟩ (Int.emod_nonneg _ (by omega)) (Int.emod_lt_of_pos _ m0)⟩
    rw [upd_ne ncp]
    exact hc
end
end My
/-! ### promises of defs that show data: they are called where nothing is being shown -/
namespace My
open PySem PySem.Spec PyProof.Rows L2
/-- a def's promise, at the surroundings A alone -/
def RunAt (P : Program) (w : World) (K : PySem.W.Frag) (mg : Str → Option Value) (base : Heap) (CX : CXT) (f : Addr) (fd : FuncData) (ps : List Str) (sp : Sp) (A : Around) : Prop :=
  ∀ (out : List Env) (st : Shared) (G : Hp) (ar : Args) (uu : List Value) (vv : List V) (R : VK) (W : XK), Env0 P w K mg base A out st G →
    BindsTo st fd ar (ps.zip uu) → Vals vv uu → sp vv G R W → codeAny (model P w) A (.call (.ref f) ar) (CR CX out P w G st R W) st
/-- .. wherever nothing is being shown -/
structure FnG (P : Program) (w : World) (K : PySem.W.Frag) (mg : Str → Option Value) (base : Heap) (CX : CXT) (k : Nat) (f : Addr) (fd : FuncData) (ps : List Str) (sp : Sp) : Prop where
  len : ∀ vs H Q E, sp vs H Q E → vs.length = ps.length
  run : ∀ A : Around, A.guards = some [] → Room k A → RunAt P w K mg base CX f fd ps sp A
section
variable {P : Program} {w : World} {K : PySem.W.Frag} {mg : Str → Option Value} {base : Heap} {CX : CXT}
theorem FnG.of {k : Nat} {f : Addr} {fd : FuncData} {ps : List Str} {sp : Sp} (F : FnOk P w K mg base CX k f fd ps sp) : FnG P w K mg base CX k f fd ps sp :=
  ⟨F.len, fun A _ hr out st G ar uu vv R W e0 hb r h => F.run A out st G ar uu vv R W hr e0 hb r h⟩
theorem Fun.okG {x qual : Str} {st : Stmt} {f : Addr} {fd : FuncData} {N ps : List Str} {k : Nat} {sp : Sp} (F : Fun K x qual st f fd) (S : FnScope N ps (defScope st))
    (len : ∀ vs H Q E, sp vs H Q E → vs.length = ps.length)
    (hbody : ∀ (cdv : Value) (A : Around) (outer : List Env) (s : Shared) (H : Hp) (vs : List V) (Q : VK) (E : XK), A.guards = some [] → Room k (A.deeper (envOfC qual (defScope st) s.heap.objs.size f cdv)) → sp vs H Q E →
      ∃ t, PSs (cxOf CX P w K mg base N qual (defScope st) f cdv A outer s H E) (defBody st) t ∧ t { nx := fun _ H' => Q .non H', rt := Q } (start N vs) H) :
    FnG P w K mg base CX (k + 1) f fd ps sp := by
  obtain ⟨oc, od, kV, doc, pm, an, cdv, ct, osl, hfd, lk, hcode⟩ := F.ex
  subst hfd
  refine ⟨len, fun A hgd room out st' G ar uu vv R W e0 hb rv hs => ?_⟩
  have hlen := len _ _ _ _ hs
  have kin := e0.mod.kin.keeps fun b o e => (e0.bs b o e).1
  have nolim := e0.mod.nolimit.keeps fun b o e => (e0.bs b o e).1
  refine codeAny_call_function room.depth (kin _ _ lk) rfl S.co S.gen rfl (PySem.W.codeRec_of kin hcode) (hb _ _ _ _ ?_)
  refine wpAny_newFunctionEnv_cells S.kind (fun ⟨n, v⟩ hmem => ?kinds) fun env' heq s2 x2 => ?_
  case kinds =>
    cases S.par n (List.of_mem_zip hmem).1 with
    | inl q => exact .inl q
    | inr q => exact .inr ⟨q, PySem.W.cellsFrom_some _ _ _ (.inl q)⟩
  subst heq
  refine ⟨nolim.keeps x2.toInCall.keep, codeAny_func ?_⟩
  obtain ⟨t, der, reading⟩ := hbody cdv A out st' G vv R W hgd (room.deeper _) hs
  refine wpAny_mono (der.run [] s2 (start N vv) G _ (inv_start S room.hd e0 hlen rv x2) reading) (fun fl s3 end3 => ?_) fun _ _ end3 => end3
  cases fl with
  | next =>
    obtain ⟨_, G', J, q⟩ := end3
    exact ⟨V.non, G', J.os, J.bare, J.base, J.hok, rfl, q⟩
  | ret u =>
    obtain ⟨v, _, G', J, rv', q⟩ := end3
    exact ⟨v, G', J.os, J.bare, J.base, J.hok, rv', q⟩
  | brk => exact (let ⟨_, _, _, q⟩ := end3; False.elim q)
  | cont => exact (let ⟨_, _, _, q⟩ := end3; False.elim q)
end
section
variable {X : Cx} {k : Nat} {f : Addr} {fd : FuncData} {ps : List Str} {sp : Sp} {E : XK} {x : Str} {p pos : Pos} {e : Expr} {es : List Expr} {t : TA} {CX : CXT} {dvs : List V} {ds : List Value}
/-- a call of a def that shows data -/
theorem pe_callG (F : FnG X.prog X.w X.K X.mg X.base CX k f fd ps sp) (hgd : X.A.guards = some []) (hr : Room k X.A) (hg : Gl X x) (hm : X.mg x = some (.ref f)) (hk : PySem.W.keepIn X.K (.ref f) = true) (hb : Binds X.K fd ps ds) (hd : Vals dvs ds) (hx : Passes CX X E)
    (ha : PA X (e :: es) t) (hdb : (x == ("__debug__" : Str)) = false := by decide)
    (he : starEach (e :: es) X.env = (false, eval e X.env) :: starEach es X.env := by rfl)
    (hpl : (backTo pos (starEach es X.env)).any (·.1) = false := by rfl) : PE X (.Call (.Name x p) (e :: es) [] pos) (tCall sp dvs E t) := by
  constructor
  intro pins s σ H Q I h
  refine wpAny_Call_Name_kw (ld_glob I hg hm ?_ hdb)
  refine PySem.W.callWith_K (h₀ := X.base) I.ok.mod.kin hk (thn (ha.run pos pins s σ H _ I h) fun us s1 hh => ?_) he hpl
  obtain ⟨vs, H1, J, r, q⟩ := hh
  refine ⟨J.kIn, ?_⟩
  have r2 := r.append hd
  have hl : (us ++ ds).length = ps.length := r2.length.symm.trans (F.len _ _ _ _ q)
  refine wpAny_call (codeAny_mono (F.run X.A hgd hr X.stack s1 H1 ⟨us, []⟩ (us ++ ds) (vs ++ dvs) _ _ J.env0 (hb s1 us J.kIn hl) r2 q) fun res s2 hq => ?_)
  match res, hq with
  | .error e', hq => exact hx pins σ H1 s1 e' s2 J hq
  | .ok (.ret u), hq => exact J.after hq
  | .ok .next, hq => exact hq.elim
  | .ok .brk, hq => exact hq.elim
  | .ok .cont, hq => exact hq.elim
/-! ### repr of data -/
mutual
theorem dp_nodict {K : PySem.W.Frag} {H : Hp} : ∀ {v : V} {d : PyData}, Dp K H v d → d.hasDict = false
  | _, _, .non => by simp [PyData.hasDict]
  | _, _, .bl _ => by simp [PyData.hasDict]
  | _, _, .int _ => by simp [PyData.hasDict]
  | _, _, .str _ => by simp [PyData.hasDict]
  | _, _, .lst _ h => by simpa [PyData.hasDict] using dps_nodict h
  | _, _, .tup _ h => by simpa [PyData.hasDict] using dps_nodict h
theorem dps_nodict {K : PySem.W.Frag} {H : Hp} : ∀ {vs : List V} {ds : List PyData}, DpAll K H vs ds → PyData.hasDictAll ds = false
  | _, _, .nil => by simp [PyData.hasDictAll]
  | _, _, .cons h t => by simp [PyData.hasDictAll, dp_nodict h, dps_nodict t]
end
def rRepr (K : PySem.W.Frag) : List V → Hp → VK → Prop := fun xs H Q => ∃ x d, xs = [x] ∧ Dp K H x d ∧ d.showable = true ∧ d.depth ≤ 60 ∧ d.shown.length ≤ sizeLine ∧ Q (.str d.shown) H
theorem call_reprD (hgd : X.A.guards = some []) (hu : X.A.units + 64 < cLine) : CallR X (.builtin "repr") (rRepr X.K) := by
  intro pins s σ H xs us Q I r h
  obtain ⟨x, d, rfl, hd, hs, hdep, hz, q⟩ := h
  cases r with
  | @cons _ u _ _ ru rn =>
    cases rn
    obtain ⟨as, hr⟩ := Dp.reads I d x u hd ru
    have nod := dp_nodict hd
    cases hd with
    | non =>
      obtain rfl : u = Value.none := ru
      exact PySem.P.repr_of_none ⟨.str _, H, I.tok _, ⟨_, rfl⟩, by simpa only [PyData.shown] using q⟩
    | bl b =>
      obtain rfl : u = Value.bool b := ru
      exact PySem.P.repr_of_bool ⟨.str _, H, I.tok _, ⟨_, rfl⟩, by simpa only [PyData.shown] using q⟩
    | int i =>
      obtain ⟨t, rfl⟩ := ru
      exact PySem.P.repr_of_int (by simpa [PyData.showable] using hs) ⟨.str _, H, I.tok _, ⟨_, rfl⟩, by simpa only [PyData.shown] using q⟩
    | str z =>
      obtain ⟨t, rfl⟩ := ru
      exact PySem.P.repr_of_str ⟨.str _, H, I.tok _, ⟨_, rfl⟩, by simpa only [PyData.shown] using q⟩ (by simpa only [PyData.shown] using hz)
    | @lst a _ ds h1 h2 =>
      obtain rfl : u = Value.ref a := ru
      exact PySem.repr_of_reads' hr hs (fun z => absurd (nod.symm.trans z) (by decide)) hgd (by omega) (fun _ _ e => e) (fun h' u tk hk => ⟨.str _, H, I.kept hk, ⟨_, rfl⟩, q⟩) hz
    | @tup a _ ds h1 h2 =>
      obtain rfl : u = Value.ref a := ru
      exact PySem.repr_of_reads' hr hs (fun z => absurd (nod.symm.trans z) (by decide)) hgd (by omega) (fun _ _ e => e) (fun h' u tk hk => ⟨.str _, H, I.kept hk, ⟨_, rfl⟩, q⟩) hz
end
end My
/-! ### the end of a law whose def shows data -/
namespace My
open PySem PySem.Spec PyProof.Rows L2
/-- the law's call at the head, from its promise there: nothing is tracked but the script -/
theorem law_callG {P : Program} {w : World} {K : PySem.W.Frag} {mg mb : Str → Option Value} {CX : CXT} {k : Nat} {fa a : Addr} {fd : FuncData} {x : Str} {sp : Sp} {st : Shared} {vs : List Value} {ns : List Int}
    (KX : K.In st.heap) (hns : st.heap.Ns mainGlobals mg) (hb : st.heap.Ns builtinsNs mb) (hbb : ∀ x : Str, x ≠ "__name__" → mb x = bootBuiltins x)
    (hlim : st.heap.NoLimit) (hg : st.gens = #[]) (ha : st.heap.get? a = some { cls := .type "list", data := .seq vs.toArray }) (hi : IntsAre vs ns) (hl : ns.length ≤ sizeLine) (hr : Room k callerA)
    (F : ∀ base : Heap, K.In base → base.Ns mainGlobals mg → FnG P w K mg base CX k fa fd [x] sp)
    (hbind : ∀ (s : Shared) (u : Value), BindsTo s fd ⟨[u], []⟩ [(x, u)])
    (hsp : ∀ H : Hp, Only H → SqL K H a (ns.map V.int) → sp [.ref a] H (fun v _ => v = .bl true) fun _ _ _ => False)
    (hCX : ∀ H e s', CX [] H st (fun _ _ _ => False) e s' → False) :
    codeAny (model P w) callerA (.call (.ref fa) ⟨[.ref a], []⟩) (fun r s' => r = .ok (.ret (.bool true)) ∧ OldK st.heap s'.heap ∧ s'.os = st.os ∧ AllBare s'.gens) st := by
  have vints := vals_ints hi
  have vlen := hi.length
  have main : ∀ H : Hp, Only H → SqL K H a (ns.map V.int) → HOk P w H st.heap → (∀ b, b ≠ a → H b = none) → (K.lookup a = none ∨ H a = none) →
      codeAny (model P w) callerA (.call (.ref fa) ⟨[.ref a], []⟩) (fun r s' => r = .ok (.ret (.bool true)) ∧ OldK st.heap s'.heap ∧ s'.os = st.os ∧ AllBare s'.gens) st := by
    intro H only scr hok off onK
    have dictFree : ∀ {b : Addr} {m : Str → Option Value}, st.heap.Ns b m → (hidT st.heap H).Ns b m := by
      rintro b m ⟨o, es, ep, e, d, r⟩
      by_cases z : b = a
      · rw [z, ha] at e
        cases e
        cases d
      · exact ⟨o, es, ep, hidT_get e (off b z), d, r⟩
    have kIn : K.In (hidT st.heap H) := by
      intro b o e
      by_cases z : b = a
      · rcases onK with q | q
        · rw [z, q] at e
          cases e
        · exact hidT_get (KX b o e) (by rw [z]; exact q)
      · exact hidT_get (KX b o e) (off b z)
    obtain ⟨mc, lim1, lim2⟩ := hlim
    have md : Mod K mg (hidT st.heap H) := ⟨kIn, dictFree hns, ⟨mb, dictFree hb, hbb⟩, ⟨mc, dictFree lim1, lim2⟩⟩
    have e0 : Env0 P w K mg (hidT st.heap H) callerA [] st H :=
      { frames := rfl, mod := md, bs := fun b o e => of_hidT e, bsz := Nat.le_of_eq (hidT_size _ _), funs := trivial, frf := fun b z => (nomatch z), hok := hok, bare := .of_eq hg }
    have run := (F _ kIn (dictFree hns)).run callerA rfl hr [] st H ⟨[.ref a], []⟩ [.ref a] [.ref a] _ _ e0 (hbind st (.ref a)) (.cons rfl .nil) (hsp H only scr)
    refine codeAny_mono run fun r s' h => ?_
    match r, h with
    | .error e, h => exact (hCX H e s' h).elim
    | .ok .next, h => exact h.elim
    | .ok .brk, h => exact h.elim
    | .ok .cont, h => exact h.elim
    | .ok (.ret u), h =>
      obtain ⟨v, H', os, bare, un, hok', rv, q⟩ := h
      obtain rfl : v = .bl true := q
      obtain rfl : u = Value.bool true := rv
      refine ⟨rfl, OldK.of_keep fun b o e => ?_, os, bare⟩
      cases q : H b with
      | none => exact un.keep b o e q (fun z => nomatch z) (fun z => nomatch z)
      | some u =>
        cases only b with
        | inl z => rw [q] at z; cases z
        | inr z =>
          obtain ⟨ob, xs, z⟩ := z
          have old := (hok b _ z).1
          rw [e] at old
          cases old
          exact (hok' b _ (un.frzs b _ _ z)).1
  cases hk : K.lookup a with
  | some o =>
    have e := KX a o hk
    rw [ha] at e
    cases e
    exact main (fun _ => none) (fun _ => .inl rfl) (.inr ⟨_, vs.toArray, _, hk, rfl, rfl, rfl, by rw [List.size_toArray, vlen]; exact hl, by simpa using vints⟩)
      (fun _ _ z => by cases z) (fun _ _ => rfl) (.inr rfl)
  | none =>
    have off : ∀ b, b ≠ a → (fun b => if b = a then some (HO.frz { cls := .type "list", data := .seq vs.toArray } (.lst (ns.map V.int))) else none) b = none := fun b z => if_neg z
    refine main (fun b => if b = a then some (.frz { cls := .type "list", data := .seq vs.toArray } (.lst (ns.map V.int))) else none) (fun b => ?_) (.inl (.inr ⟨_, if_pos rfl⟩)) (fun b u z => ?_) off (.inl hk)
    · by_cases z : b = a
      · exact .inr ⟨_, _, if_pos z⟩
      · exact .inl (off b z)
    · by_cases q : b = a
      · obtain rfl := Option.some.inj ((if_pos q).symm.trans z)
        rw [q]
        exact ⟨ha, by rw [List.length_map]; exact hl, vs, _, vints, ha⟩
      · rw [off b q] at z
        cases z
/-- what k_head leaves, from the law's promise -/
theorem walk_ofG {l : PySem.W.OpenLaw} {n k : Nat} {q : Program} {loose : List Str} {XP : (Str → Option Value) → Heap → Prop} {YP : World → Heap → Prop} {d : DefRec} {K : Params → PySem.W.Frag} {CX : World → CXT} {sp : World → Sp} {x : Str}
    (hn : l.most = some n) (hn2 : n ≤ sizeLine) (hdf : d.params.defaults = []) (hr : Room k callerA) (hY : ∀ (w : World) (h : Heap), YP w h → (K w.params).In h)
    (F : ∀ (w : World) (mg : Str → Option Value) (fa : Addr) (h : Heap), (K w.params).In h → h.Ns mainGlobals mg → mg d.name = some (.ref fa) → ∃ fd : FuncData, (∀ (s : Shared) (u : Value), BindsTo s fd ⟨[u], []⟩ [(x, u)]) ∧
        ∀ base : Heap, (K w.params).In base → base.Ns mainGlobals mg → FnG l.prog w (K w.params) mg base (CX w) k fa fd [x] (sp w))
    (hsp : ∀ (w : World) (H : Hp) (a : Addr) (ns : List Int), ns.length ≤ n → Only H → SqL (K w.params) H a (ns.map V.int) → sp w [.ref a] H (fun v _ => v = .bl true) fun _ _ _ => False)
    (hCX : ∀ (w : World) (H : Hp) (s : Shared) (e : Value) (s' : Shared), CX w [] H s (fun _ _ _ => False) e s' → False) : PySem.W.WalkO q loose XP YP l.row.toRowW d [] (fun f vs => PySem.call f vs) := by
  refine Att.attach_call hn hdf ?_
  intro w s₀ st mg mb fa o pm cd doc a vs ns G Y ho hd hcd hmg hobj hints hlen hg
  have KX := hY w _ Y
  obtain ⟨fd, hb, hF⟩ := F w mg fa _ KX G.T.g hmg
  exact law_callG KX G.T.g G.T.b G.T.builtins G.T.nolimit hg hobj hints (Nat.le_trans hlen hn2) hr hF hb (hsp w · a ns hlen) fun H => hCX w H st
end My
/-! ### == and != of two built-in classes -/
namespace My
open PySem PySem.Spec PyProof.Rows L2 PySem.TypeEq
theorem ty_ne1 : Slot "type" (cmpInfo .NotEq).2.1 "object.__ne__" := .of (owner := "object") (n := "__ne__")
  (by rw [typeLookup_type, builtinLookup_eq_fast]; kernel_rfl) (by decide +kernel) (by decide +kernel) (by decide +kernel) (by first | exact .inr (by decide +kernel) | exact .inl (by decide +kernel))
  (by rw [isSubtype_type]; kernel_rfl)
theorem ty_ne2 : Slot "type" (cmpInfo .NotEq).2.2 "object.__ne__" := .of (owner := "object") (n := "__ne__")
  (by rw [typeLookup_type, builtinLookup_eq_fast]; kernel_rfl) (by decide +kernel) (by decide +kernel) (by decide +kernel) (by first | exact .inr (by decide +kernel) | exact .inl (by decide +kernel))
  (by rw [isSubtype_type]; kernel_rfl)
section
variable {prog : Program} {w : World} {A : Around} {E : Value → Shared → Prop} {s : Shared}
theorem objNe_body {X : String} {b : Value} {Q : Fin → Shared → Prop} (hX : ∀ s' : Shared, s'.TypeIs (.type X) "type") (hv : [Value.type X, b].any Value.onHeap = false)
    (hc : wpAny (model prog w) A (call (.builtin "object.__eq__") [.type X, b]) (fun v s' => (v = .notImplemented ∧ Q (.done (.ret .notImplemented)) s') ∨ ∃ k, v = .bool k ∧ Q (.done (.ret (.bool (!k)))) s') E s) :
    wpAny (model prog w) A (Builtin.«object.__ne__» ⟨[.type X, b], []⟩) Q E s := by
  unfold Builtin.«object.__ne__»
  refine wpAny_bind (m := slotArgs "__ne__" 1 ⟨[.type X, b], []⟩) (wpAny_pure ?_)
  dsimp only
  refine wpAny_bind (wpAny_cRoomFor_or (.inl hv) ?_)
  refine wpAny_bind (m := callSpecialIfBound? (.type X) (Str.ofString "__eq__") [b]) (wpAny_callSpecialIfBound?_slot (T := "type") (hX s) slot_type_eq (wpAny_mono hc (fun v s' h => ?_) fun _ _ e => e))
  rcases h with ⟨rfl, h⟩ | ⟨k, rfl, h⟩
  · exact wpAny_pure h
  · exact wpAny_bind (wpAny_truthy_bool (wpAny_pure h))
theorem ne_ty_same {X : String} {Q : Value → Shared → Prop} (hX : ∀ s' : Shared, s'.TypeIs (.type X) "type") (h : Q (.bool false) s) : wpAny (model prog w) A (compareOp .NotEq (.type X) (.type X)) Q E s := by
  show wpAny _ A (richCompare .NotEq _ _) Q E s
  refine wpAny_richCompare_same (T := "type") (hX s) (hX s) ty_ne1 (wpAny_call_entry ty_ne1 (hX s) F.entry_object_ne (objNe_body hX rfl ?_) (F.args_object_ne_2 _ _))
  exact call_gives slot_type_eq (hX s) F.entry_object_eq (F.args_object_eq_2 _ _) (object_eq_same rfl (by simp)) (.inr ⟨true, rfl, _, rfl, (by intro e; cases e), h⟩)
theorem ne_ty_other {X Y : String} {Q : Value → Shared → Prop} (hX : ∀ s' : Shared, s'.TypeIs (.type X) "type") (hY : ∀ s' : Shared, s'.TypeIs (.type Y) "type")
    (hne : (Value.type X == Value.type Y) = false) (hen : (Value.type Y == Value.type X) = false) (h : Q (.bool true) s) : wpAny (model prog w) A (compareOp .NotEq (.type X) (.type Y)) Q E s := by
  show wpAny _ A (richCompare .NotEq _ _) Q E s
  have k1 := ty_ne1
  have k2 := ty_ne2
  rcases hi : cmpInfo CmpOp.NotEq with ⟨sym, f, r⟩
  rw [hi] at k1 k2
  simp only [richCompare, hi, (hX s).oneThing_none]
  try with_reducible refine wpAny_holding ?_
  refine wpAny_bind (wpAny_cRoomFor_or (.inl rfl) ?_)
  refine wpAny_bind (wpAny_typeOf (hX s) ?_)
  refine wpAny_bind (wpAny_typeOf (hY s) ?_)
  simp only [bne_self_eq_false, Bool.false_eq_true, if_false, pure_bind, Bool.not_false, if_true]
  refine wpAny_bind (m := tryCompare (.type X) _ (.type Y)) (wpAny_tryCompare_declines (hX s) k1 ?_)
  refine wpAny_call_entry k1 (hX s) F.entry_object_ne (objNe_body hX rfl ?_) (F.args_object_ne_2 _ _)
  refine call_gives slot_type_eq (hX s) F.entry_object_eq (F.args_object_eq_2 _ _) (object_eq_other rfl hne) (.inl ⟨rfl, _, rfl, rfl, ?_⟩)
  refine wpAny_bind (m := tryCompare (.type Y) _ (.type X)) (wpAny_tryCompare_declines (hY s) k2 ?_)
  refine wpAny_call_entry k2 (hY s) F.entry_object_ne (objNe_body hY rfl ?_) (F.args_object_ne_2 _ _)
  refine call_gives slot_type_eq (hY s) F.entry_object_eq (F.args_object_eq_2 _ _) (object_eq_other rfl hen) (.inl ⟨rfl, _, rfl, rfl, ?_⟩)
  refine wpAny_bind (wpAny_rule (wpAny_bind (wpAny_of_eq (isSame_plain rfl) (wpAny_pure ?_))))
  rw [hne]
  exact h
end
/-- the built-in classes that are compared -/
def isTy (T : String) : Prop := ∀ s' : Shared, s'.TypeIs (.type T) "type"
theorem tyB_ty {K : PySem.W.Frag} {H : Hp} {x : V} {T : String} (h : TyB K H x T) : isTy T := by
  cases h with
  | non => exact meta_NoneType
  | bl => exact meta_bool
  | int => exact meta_int
  | str => exact meta_str
  | byt => exact meta_bytes
  | lst => exact meta_list
  | tup => exact meta_tuple
  | dK => exact meta_dict
section
variable {X : Cx}
def rTyEq : R2 := fun x y H Q => ∃ a b, x = .ty a ∧ y = .ty b ∧ isTy a ∧ isTy b ∧ Q (.bl (decide (a = b))) H
def rTyNe : R2 := fun x y H Q => ∃ a b, x = .ty a ∧ y = .ty b ∧ isTy a ∧ isTy b ∧ Q (.bl (!decide (a = b))) H
theorem op_eqTy : OpR X (compareOp .Eq) rTyEq := by
  intro pins s σ H x y v u Q I rx ry h
  obtain ⟨a, b, rfl, rfl, ha, hb, q⟩ := h
  obtain rfl : v = Value.type a := rx
  obtain rfl : u = Value.type b := ry
  by_cases e : a = b
  · subst e
    exact eq_type_same ha ⟨.bl true, H, I, rfl, by rw [decide_eq_true rfl] at q; exact q⟩
  · exact eq_type_other ha hb ((ty_beq a b).trans (decide_eq_false e)) ⟨.bl false, H, I, rfl, by rw [decide_eq_false e] at q; exact q⟩
theorem op_neTy : OpR X (compareOp .NotEq) rTyNe := by
  intro pins s σ H x y v u Q I rx ry h
  obtain ⟨a, b, rfl, rfl, ha, hb, q⟩ := h
  obtain rfl : v = Value.type a := rx
  obtain rfl : u = Value.type b := ry
  by_cases e : a = b
  · subst e
    exact ne_ty_same ha ⟨.bl false, H, I, rfl, by rw [decide_eq_true rfl] at q; exact q⟩
  · exact ne_ty_other ha hb ((ty_beq a b).trans (decide_eq_false e)) ((ty_beq b a).trans (decide_eq_false fun z => e z.symm)) ⟨.bl true, H, I, rfl, by rw [decide_eq_false e] at q; exact q⟩
end
end My
/-! ### len(set(t)), t a tuple of tuples of ints -/
namespace My
open PySem PySem.Spec PyProof.Rows L2
section
variable {P : Program} {w : World} {A : Around} {E : Value → Shared → Prop} {s : Shared}
abbrev set0 (w : World) : Obj := ⟨.type "set", none, .set #[] 0 (.fresh 0 0 (!w.params.followText "set-order")), #[]⟩
/-- what stands behind set(t) -/
def SetGot (P : Program) (w : World) (ks : List (Addr × List Int)) (s : Shared) (s' : Shared) : Prop :=
  ∃ h' tk L es ep t, s' = { s with heap := h', toks := tk } ∧ SetTR P w h' s.heap.objs.size L es ep t ∧ Got ks ks.length L ∧ ∀ b o, s.heap.get? b = some o → h'.get? b = some o
theorem beyond {h : Heap} {b : Addr} (hb : h.objs.size ≤ b) : h.get? b = none := by
  cases q : h.get? b with
  | none => rfl
  | some o =>
    exact absurd (Nat.lt_of_lt_of_le (Heap.lt_size q) hb) (Nat.lt_irrefl _)
theorem set_of_tup {l : Addr} {vs : Array Value} (ks : List (Addr × List Int)) {Q : Value → Shared → Prop} (h0 : A.handled = none) (ht : s.heap.IsTuple l vs) (hv : vs.toList = ks.map fun p => Value.ref p.1)
    (hk : ∀ p ∈ ks, IsT P w s.heap p.2 p.1) (few : ks.length < 64) (hu : A.units + 3 < cLine) (h : ∀ s', SetGot P w ks s s' → Q (.ref s.heap.objs.size) s') :
    wpAny (model P w) A (call (.type "set") [.ref l]) Q E s := by
  have sz : vs.size = ks.length := by
    rw [← Array.length_toList, hv, List.length_map]
  obtain ⟨c, tl, mro⟩ := F.called_set.mro
  have made := F.called_set.made
  have sub1 := F.called_set.sub
  refine wpAny_call (codeAny_of_tree ?_)
  show wpAny _ _ (callAny (.type "set") _) _ _ _
  refine wpAny_pure ⟨Code.quiet_builtin _ (by decide +kernel), codeAny_builtin F.entry_type_call ?_⟩
  rw [Around.under_plain (weight_type_call_type "set" [.ref l] []) rfl]
  have nt := F.called_set.notType
  have cc := F.called_set.canCreate
  have tc := F.typeCall_set_1 (.ref l)
  repeat (any_goals (first | assumption | wp_step))
  refine codeAny_mono (code_set_led1 (.ref l) (E := E) (Q₁ := fun o s1 => o = .ref s.heap.objs.size ∧ s1 = { s with heap := s.heap.push (set0 w) }) ⟨rfl, rfl⟩) fun r s1 hr => ?_
  cases r with
  | error e => exact hr
  | ok fl =>
    cases fl with
    | ret o =>
      obtain ⟨rfl, rfl⟩ := hr
      have gS : (s.heap.push (set0 w)).get? s.heap.objs.size = some (set0 w) := Heap.get?_push_size _ rfl
      have tS : Shared.TypeIs { s with heap := s.heap.push (set0 w) } (.ref s.heap.objs.size) "set" := ⟨_, gS, rfl⟩
      have li := F.called_set.init.lookup
      have bi := F.called_set.init.bind (.ref s.heap.objs.size)
      repeat (any_goals (first | assumption | wp_step))
      refine codeAny_mono (codeAny_call_builtin (R := wants (fun r s2 => r = .none ∧ SetGot P w ks s s2) E) F.called_set.init.plain F.entry_set_init (check_set_init_1 tS ?_)) fun r2 s2 hr2 => ?_
      · have ht1 : (s.heap.push (set0 w)).IsTuple l vs := ht.push _
        have lS : l < s.heap.objs.size := by
          obtain ⟨_, e, _⟩ := ht
          exact Heap.lt_size e
        obtain ⟨⟨c1, d1, x1, sl1⟩, g1, e1, n1, e2⟩ := ht1
        simp only at e1 e2
        subst e1
        subst e2
        have ht1 : (s.heap.push (set0 w)).IsTuple l vs := ⟨_, g1, rfl, n1, rfl⟩
        have f1 := F.sub_tuple_set
        have f2 := F.sub_tuple_frozenset
        have f3 : (Value.type "tuple" == Value.type "dict") = false := by decide
        unfold Builtin.«set.__init__» noKeywords Builtin.Frozenset.updateFrom
        generalize hPI : pyIter = PI
        wp_walk
        subst hPI
        refine wpAny_pyIter_tuple ht1 ?_
        refine wpAny_bind (wpAny_runValue ?_)
        have h3 : A.in1.in1.in1.handled = none := by simp [h0]
        have z1 : (s.heap.push (set0 w)).objs.size = s.heap.objs.size + 1 := Heap.size_push ..
        have lI : l ≠ (s.heap.push (set0 w)).objs.size := by
          rw [z1]
          exact Nat.ne_of_lt (Nat.lt_succ_of_lt lS)
        have item : ∀ (i : Nat) (v : Value), vs[i]? = some v → ∃ p, ks[i]? = some p ∧ v = .ref p.1 := fun i v e => by
          rw [← Array.getElem?_toList, hv, List.getElem?_map] at e
          cases q : ks[i]? with
          | none =>
            rw [q] at e
            cases e
          | some p =>
            rw [q] at e
            exact ⟨p, rfl, (Option.some.inj e).symm⟩
        refine set_update_tups ((Walks.tuple h3 _ l lI vs).toS) s.heap.objs.size ?n1 ks sz few item s.heap hk (beyond (Nat.le_refl _)) ?n2 hu vs.size 0 _ (by omega) (Nat.zero_le _)
          ⟨⟨_, Heap.get?_push_size _ rfl, rfl, rfl⟩, ht1.push _⟩ (fun b o e => Heap.get?_push_of_some _ (Heap.get?_push_of_some _ e)) ?n3 ?n4
        case n1 =>
          intro m
          rcases List.mem_cons.mp m with m | m
          · rw [z1] at m
            exact absurd m (Nat.ne_of_lt (Nat.lt_succ_self _))
          · exact absurd (List.mem_singleton.mp m).symm (Nat.ne_of_lt lS)
        case n2 =>
          intro b m
          refine beyond ?_
          rw [List.mem_singleton.mp m, z1]
          exact Nat.le_succ _
        case n3 => exact ⟨[], #[], 0, _, setTR_fresh (Heap.get?_push_of_some _ gS), Got.zero ks⟩
        case n4 =>
          rintro ⟨h', g2, d', tk', os'⟩ L es ep t mv hS' got keep
          have eg : g2 = s.gens := mv.gens
          have ed : d' = s.drawn := mv.drawn
          have eo : os' = s.os := mv.os
          subst eg ed eo
          rw [sz] at got
          show wpAny _ _ _ _ _ _
          refine wpAny_pure ?_
          show wpAny _ _ (ret Value.none) _ _ _
          exact wpAny_pure ⟨rfl, h', tk', L, es, ep, t, rfl, hS', got, keep⟩
      · cases r2 with
        | error e => exact hr2
        | ok fl2 =>
          cases fl2 with
          | ret r =>
            obtain ⟨rfl, hg⟩ := hr2
            have hq := h _ hg
            repeat (any_goals (first | assumption | wp_step))
          | _ => exact hr2.elim
    | _ => exact hr.elim
end
end My
/-! ### len(set(t)), as an expression -/
namespace My
open PySem PySem.Spec PyProof.Rows L2
theorem nd_le {α : Type} [DecidableEq α] : ∀ (l D : List α), l.Nodup → (∀ x ∈ l, x ∈ D) → l.length ≤ D.length
  | [], _, _, _ => Nat.zero_le _
  | x :: l, D, nd, h => by
    have hx := h x (.head _)
    have nd' := List.nodup_cons.mp nd
    have := nd_le l (D.erase x) nd'.2 fun y hy => (List.mem_erase_of_ne (fun e => nd'.1 (by rw [← e]; exact hy))).mpr (h y (.tail _ hy))
    rw [List.length_erase_of_mem hx] at this
    have := List.length_pos_of_mem hx
    rw [List.length_cons]
    omega
theorem dup_of {α : Type} [DecidableEq α] : ∀ D : List α, ¬ D.Nodup → ∃ x, x ∈ D.erase x
  | [], h => absurd List.nodup_nil h
  | y :: t, h => by
    by_cases hy : y ∈ t
    · exact ⟨y, by rw [List.erase_cons_head]; exact hy⟩
    · obtain ⟨x, hx⟩ := dup_of t fun n => h (List.nodup_cons.mpr ⟨hy, n⟩)
      have ne : y ≠ x := fun e => hy (e ▸ List.mem_of_mem_erase hx)
      refine ⟨x, ?_⟩
      rw [List.erase_cons_tail (by simpa using ne)]
      exact .tail _ hx
theorem nd_lt {α : Type} [DecidableEq α] {l D : List α} (nd : l.Nodup) (sub : ∀ x ∈ l, x ∈ D) (n : ¬ D.Nodup) : l.length < D.length := by
  obtain ⟨x, hx⟩ := dup_of _ n
  have h2 := nd_le _ (D.erase x) nd fun y hy => by
    by_cases e : y = x
    · rw [e]
      exact hx
    · exact (List.mem_erase_of_ne e).mpr (sub y hy)
  have hm := List.mem_of_mem_erase hx
  have := List.length_pos_of_mem hm
  rw [List.length_erase_of_mem hm] at h2
  omega
theorem got_len {ks L : List (Addr × List Int)} (g : Got ks ks.length L) (nd : (L.map (·.2)).Nodup) : L.length = ks.length ↔ (ks.map (·.2)).Nodup := by
  have sub : ∀ x ∈ L.map (·.2), x ∈ ks.map (·.2) := fun x hx => by
    obtain ⟨p, hp, rfl⟩ := List.mem_map.mp hx
    exact List.mem_map.mpr ⟨p, List.mem_of_mem_take (g.sub p hp), rfl⟩
  have all : ∀ x ∈ ks.map (·.2), x ∈ L.map (·.2) := fun x hx => by
    obtain ⟨p, hp, rfl⟩ := List.mem_map.mp hx
    exact g.all p (by rw [List.take_length]; exact hp)
  have h1 := nd_le _ _ nd sub
  rw [List.length_map, List.length_map] at h1
  constructor
  · intro e
    refine Decidable.byContradiction fun n => ?_
    have h2 := nd_lt nd sub n
    rw [List.length_map, List.length_map] at h2
    omega
  · intro n
    have h2 := nd_le _ _ n all
    rw [List.length_map, List.length_map] at h2
    omega
section
variable {X : Cx} {ta : TE}
def tLenSetT (K : PySem.W.Frag) (ta : TE) : TE := fun σ H Q => ta σ H fun x H1 => ∃ (l : Addr) (ks : List (Addr × List Int)), x = V.ref l ∧ SqT K H1 l (ks.map fun p => V.ref p.1) ∧ (∀ p ∈ ks, SqT K H1 p.1 (p.2.map V.int)) ∧ ks.length < 64 ∧
  ∀ n : Nat, (n = ks.length ↔ (ks.map (·.2)).Nodup) → Q (.int n) H1
theorem pe_lenSetT {a : Expr} {p p2 q pos : Pos} (hc : X.calm = true) (hu : X.A.units + 64 < cLine) (hg : Gl X "len") (hm : X.mg "len" = none) (hg2 : Gl X "set") (hm2 : X.mg "set" = none) (ha : PE X a ta)
    (na : starEach [a] X.env = (false, eval a X.env) :: starEach [] X.env := by rfl) : PE X (.Call (.Name "len" p) [.Call (.Name "set" p2) [a] [] q] [] pos) (tLenSetT X.K ta) := by
  refine ⟨fun pins s σ H Q I h => ?_⟩
  refine Call_ (ld_blt I hg hm PySem.boot_len (PyProof.Rows.callWith_builtin1 (PyProof.Rows.args_cons ?_ rfl) rfl rfl))
  refine Call_ (ld_blt I hg2 hm2 PyProof.Rows.boot_set (PyProof.Rows.callWith_type1 (PyProof.Rows.args_cons (thn (ha.run pins s σ H _ I h) fun v s1 hv => PyProof.Rows.args_nil ?_) na) na rfl))
  obtain ⟨x, H1, I1, r1, l, ks, rfl, hq, hk, few, q1⟩ := hv
  cases r1
  obtain ⟨its, r, pl, hz⟩ := I1.tuple hq
  refine set_of_tup (P := X.prog) (w := X.w) ks (I1.ok.hd hc) pl (by simpa using refs_of_vals r) (fun p hp => I1.isT (hk p hp)) few (by omega) fun s' hs => PyProof.Rows.args_nil ?_
  obtain ⟨h', tk, L, es, ep, t, rfl, R, g, keep⟩ := hs
  have I2 : Inv X pins σ H1 { s1 with heap := h', toks := tk } := I1.kept keep
  obtain ⟨o, ho, hex, hd⟩ := R.ob
  have sz := SetTR.size (s := { s1 with heap := h', toks := tk }) R
  have fits := SetTR.fits (s := { s1 with heap := h', toks := tk }) R
  have few2 := R.few
  refine call_len_set ho hex hd fits (by omega) ⟨.int es.size, H1, I2.tok _, ⟨_, rfl⟩, q1 _ ?_⟩
  rw [sz]
  exact got_len g R.nd
end
end My
/-! ### the program's looks at machines and rules, over data -/
namespace My
open PySem PySem.Spec PyProof.Rows L2
abbrev sWhole : Stmt := topS 15
abbrev sBetween : Stmt := topS 35
abbrev sTuple : Stmt := topS 34
abbrev sLetters : Stmt := topS 28
abbrev sWayOn : Stmt := topS 33
abbrev sTable : Stmt := topS 30
abbrev sRule : Stmt := topS 25
theorem scWhole : FnScope ["thing"] ["thing"] (defScope sWhole) := ⟨rfl, rfl, rfl, by decide +kernel, rfl, by decide +kernel, by decide +kernel⟩
theorem scBetween : FnScope ["thing", "low", "high"] ["thing", "low", "high"] (defScope sBetween) := ⟨rfl, rfl, rfl, by decide +kernel, rfl, by decide +kernel, by decide +kernel⟩
theorem scTuple : FnScope ["thing", "least", "most"] ["thing", "least", "most"] (defScope sTuple) := ⟨rfl, rfl, rfl, by decide +kernel, rfl, by decide +kernel, by decide +kernel⟩
theorem scLetters : FnScope ["thing", "ascending", "at"] ["thing"] (defScope sLetters) := ⟨rfl, rfl, rfl, by decide +kernel, rfl, by decide +kernel, by decide +kernel⟩
theorem scWayOn : FnScope ["state", "many", "targets", "target"] ["state", "many"] (defScope sWayOn) := ⟨rfl, rfl, rfl, by decide +kernel, rfl, by decide +kernel, by decide +kernel⟩
theorem scTable : FnScope ["thing", "letters", "most", "state"] ["thing", "letters", "most"] (defScope sTable) := ⟨rfl, rfl, rfl, by decide +kernel, rfl, by decide +kernel, by decide +kernel⟩
theorem scRule : FnScope ["thing", "letters", "states", "state"] ["thing"] (defScope sRule) := ⟨rfl, rfl, rfl, by decide +kernel, rfl, by decide +kernel, by decide +kernel⟩
/-! ### data: x is what d says, in the heap H -/
mutual
inductive Rp (K : PySem.W.Frag) (H : Hp) : V → PyData → Prop
  | non : Rp K H .non .none
  | bl (b : Bool) : Rp K H (.bl b) (.bool b)
  | int (i : Int) : Rp K H (.int i) (.int i)
  | str (x : Str) : x.length ≤ sizeLine → Rp K H (.str x) (.str x)
  | lst {a : Addr} {xs : List V} {ds : List PyData} : SqL K H a xs → RpAll K H xs ds → Rp K H (.ref a) (.list ds)
  | tup {a : Addr} {xs : List V} {ds : List PyData} : SqT K H a xs → RpAll K H xs ds → Rp K H (.ref a) (.tuple ds)
  | dct {a : Addr} : H a = some (.dK []) → Rp K H (.ref a) (.dict [])
inductive RpAll (K : PySem.W.Frag) (H : Hp) : List V → List PyData → Prop
  | nil : RpAll K H [] []
  | cons {v : V} {vs : List V} {d : PyData} {ds : List PyData} : Rp K H v d → RpAll K H vs ds → RpAll K H (v :: vs) (d :: ds)
end
def kindOf : PyData → String
  | .none => "NoneType"
  | .bool _ => "bool"
  | .int _ => "int"
  | .str _ => "str"
  | .list _ => "list"
  | .tuple _ => "tuple"
  | .dict _ => "dict"
theorem Rp.ty {K : PySem.W.Frag} {H : Hp} {v : V} {d : PyData} (h : Rp K H v d) : TyB K H v (kindOf d) := by
  cases h with
  | non => exact .non
  | bl => exact .bl _
  | int => exact .int _
  | str => exact .str _
  | lst h => exact .lst h
  | tup h => exact .tup h
  | dct h => exact .dK h
theorem same_tup {K : PySem.W.Frag} {H H' : Hp} {a : Addr} {xs : List V} (e : Same H H') (h : SqT K H a xs) : SqT K H' a xs := by
  rcases h with (h | ⟨o, h⟩) | h
  · exact .inl (.inl (e _ _ h))
  · exact .inl (.inr ⟨o, e _ _ h⟩)
  · exact .inr h
theorem eq_false_of_ne_true {b : Bool} (h : ¬ b = true) : b = false := by
  cases b
  · rfl
  · exact absurd rfl h
mutual
theorem Rp.go {K : PySem.W.Frag} {H H' : Hp} (s : Same H H') : ∀ {v : V} {d : PyData}, Rp K H v d → Rp K H' v d
  | _, _, .non => .non
  | _, _, .bl b => .bl b
  | _, _, .int i => .int i
  | _, _, .str x h => .str x h
  | _, _, .lst h t => .lst (s.seq h) (RpAll.go s t)
  | _, _, .tup h t => .tup (same_tup s h) (RpAll.go s t)
  | _, _, .dct h => .dct (s _ _ h)
theorem RpAll.go {K : PySem.W.Frag} {H H' : Hp} (s : Same H H') : ∀ {vs : List V} {ds : List PyData}, RpAll K H vs ds → RpAll K H' vs ds
  | _, _, .nil => .nil
  | _, _, .cons h t => .cons (Rp.go s h) (RpAll.go s t)
end
theorem RpAll.len {K : PySem.W.Frag} {H : Hp} : ∀ {vs : List V} {ds : List PyData}, RpAll K H vs ds → vs.length = ds.length
  | _, _, .nil => rfl
  | _, _, .cons _ t => congrArg (· + 1) t.len
theorem RpAll.at {K : PySem.W.Frag} {H : Hp} : ∀ {vs : List V} {ds : List PyData}, RpAll K H vs ds → ∀ {i : Nat} {v : V}, vs[i]? = some v → ∃ d, ds[i]? = some d ∧ Rp K H v d
  | _, _, .cons (d := d) h t, 0, v, e => ⟨d, rfl, by cases e; exact h⟩
  | _, _, .cons h t, i + 1, v, e => t.at (i := i) (by simpa using e)
/-! ### what the looks tell -/
def betD (lo hi : Int) : PyData → Bool
  | .int i => decide (lo ≤ i) && decide (i ≤ hi)
  | _ => false
def tupD (lo hi : Int) : PyData → Bool
  | .tuple ds => decide (lo ≤ (ds.length : Int)) && decide ((ds.length : Int) ≤ hi)
  | _ => false
def lettersL : List Nat → Bool
  | [a] => decide (97 ≤ a) && decide (a ≤ 122)
  | [a, b] => decide (a < b) && (decide (97 ≤ a) && decide (b ≤ 122))
  | [a, b, c] => (decide (a < b) && decide (b < c)) && (decide (97 ≤ a) && decide (c ≤ 122))
  | _ => false
def ltrD : PyData → Bool
  | .str z => lettersL z.cps.toList
  | _ => false
def pairD (most many : Int) : PyData → Bool
  | .tuple [p, t] => betD (-most) most p && betD 0 (many - 1) t
  | _ => false
theorem RpAll.two {K : PySem.W.Frag} {H : Hp} {vs : List V} {ds : List PyData} (h : RpAll K H vs ds) (e : ds.length = 2) : ∃ u v p t, vs = [u, v] ∧ ds = [p, t] ∧ Rp K H u p ∧ Rp K H v t := by
  cases h with
  | nil => cases e
  | cons h1 h =>
    cases h with
    | nil => cases e
    | cons h2 h =>
      cases h with
      | nil => exact ⟨_, _, _, _, rfl, rfl, h1, h2⟩
      | cons _ _ => simp at e
theorem tup_of {K : PySem.W.Frag} {H : Hp} {x : V} {d : PyData} {lo hi : Int} (h : Rp K H x d) (z : tupD lo hi d = true) : ∃ a xs ds, x = .ref a ∧ d = .tuple ds ∧ SqT K H a xs ∧ RpAll K H xs ds ∧ lo ≤ (ds.length : Int) ∧ (ds.length : Int) ≤ hi := by
  cases h with
  | tup h1 h2 =>
    rw [tupD, Bool.and_eq_true, decide_eq_true_eq, decide_eq_true_eq] at z
    exact ⟨_, _, _, rfl, rfl, h1, h2, z⟩
  | _ => exact absurd z (by simp [tupD])
theorem Rp.two {K : PySem.W.Frag} {H : Hp} {x : V} {d : PyData} (h : Rp K H x d) (z : tupD 2 2 d = true) : ∃ a u v p t, x = .ref a ∧ d = .tuple [p, t] ∧ SqT K H a [u, v] ∧ Rp K H u p ∧ Rp K H v t := by
  obtain ⟨a, xs, ds, rfl, rfl, hS, hA, l1, l2⟩ := tup_of h z
  obtain ⟨u, v, p, t, rfl, rfl, hp, ht⟩ := hA.two (by omega)
  exact ⟨a, u, v, p, t, rfl, rfl, hS, hp, ht⟩
theorem pairD_not {most many : Int} {d : PyData} (z : ¬ tupD 2 2 d = true) : pairD most many d = false := by
  unfold pairD
  split
  · exact absurd (show tupD 2 2 _ = true from rfl) z
  · rfl
theorem Rp.isStr {K : PySem.W.Frag} {H : Hp} {x : V} {d : PyData} (h : Rp K H x d) (e : kindOf d = "str") : ∃ z, x = .str z ∧ d = .str z ∧ z.length ≤ sizeLine := by
  cases h with
  | str z hz => exact ⟨z, rfl, rfl, hz⟩
  | _ => exact absurd e (by simp [kindOf])
theorem lettersL_not {z : Str} (h : ¬ (1 ≤ z.length ∧ z.length ≤ 3)) : lettersL z.cps.toList = false := by
  have e : z.cps.toList.length = z.length := Array.length_toList
  generalize z.cps.toList = l at e
  unfold lettersL
  split
  · exact absurd ⟨by rw [← e]; simp, by rw [← e]; simp⟩ h
  · exact absurd ⟨by rw [← e]; simp, by rw [← e]; simp⟩ h
  · exact absurd ⟨by rw [← e]; simp, by rw [← e]; simp⟩ h
  · rfl
theorem nat_at {l : List Nat} {j : Nat} (h : j < l.length) : l[j]? = some (l.getD j 0) := by
  rw [List.getD_eq_getElem?_getD, List.getElem?_eq_getElem h]
  rfl
theorem one_lt (a b : Nat) : decide (([a] : List Nat) < [b]) = decide (a < b) := by
  simp [List.cons_lt_cons_iff]
theorem atI_last {α : Type} {l : List α} (h : 0 < l.length) : atI l (-1) = l[l.length - 1]? := by
  unfold atI ixN
  rw [if_neg (by decide), if_pos (by omega)]
  show l[(-1 + (l.length : Int)).toNat]? = _
  rw [show (-1 + (l.length : Int)).toNat = l.length - 1 by omega]
theorem same_new {H H' : Hp} {D : Addr} {o : HO} (sm : Same H H') (n : H D = none) : Same H (upd H' D o) := fun b x e => by
  rw [upd_ne (ne_of_none e n)]
  exact sm _ _ e
theorem letters_eq {l : List Nat} (h : 1 ≤ l.length ∧ l.length ≤ 3) : lettersL l = (((List.range (l.length - 1)).map fun i => decide (l.getD i 0 < l.getD (i + 1) 0)).all id && (!decide (([l.getD 0 0] : List Nat) < [97]) && !decide (([122] : List Nat) < [l.getD (l.length - 1) 0]))) := by
  have e : ∀ a b : Nat, (!decide (a < b)) = decide (b ≤ a) := fun a b => by
    by_cases z : a < b
    · rw [decide_eq_true z, decide_eq_false (by omega)]
      rfl
    · rw [decide_eq_false z, decide_eq_true (by omega)]
      rfl
  rw [one_lt, one_lt, e, e]
  match l, h with
  | [a], _ => simp [lettersL]
  | [a, b], _ => simp [lettersL, List.range_succ]
  | [a, b, c], _ => simp [lettersL, List.range_succ]
theorem ltrD_not {d : PyData} (h : ¬ kindOf d = "str") : ltrD d = false := by
  cases d with
  | str z => exact absurd rfl h
  | _ => rfl
def lenD : PyData → Nat
  | .str z => z.length
  | _ => 0
def tabD (n : Nat) (most : Int) : PyData → Bool
  | .tuple ds => tupD 1 most (.tuple ds) && ds.all (tupD (n : Int) (n : Int))
  | _ => false
def frmD (most : Int) : PyData → Bool
  | .tuple [b, l, s] => betD 2 9 b && (ltrD l && tabD (lenD l) most s)
  | _ => false
def someD : PyData → Bool
  | .none => false
  | _ => true
def wayD (many : Int) : PyData → Bool
  | .tuple ds => decide ((0 : Int) < ((ds.filter someD).length : Int)) && (ds.filter someD).all (betD 0 (many - 1))
  | _ => false
theorem lc_tupO {K : PySem.W.Frag} {a : Addr} {xs : List V} {H0 : Hp} {Qd : Hp → Prop} {B : V → Hp → (Hp → Prop) → Prop} (Pv : Nat → Hp → Prop) (h0 : Pv 0 H0) (hl : ∀ i H, Pv i H → SqT K H a xs)
    (hs : ∀ i x H, xs[i]? = some x → Pv i H → B x H (Pv (i + 1))) (hd : ∀ H, Pv xs.length H → Qd H) :
    ∃ W : Nat → Nat → Hp → Prop, (∃ m, W 0 m H0) ∧ ∀ i m H, W i m H → ((Itt K a).stop i H ∧ Qd H) ∨ ((Itt K a).go i H ∧ ∃ Nx : Hp → Prop, (∀ H', Nx H' → ∃ m', m' < m ∧ W (i + 1) m' H') ∧ ∀ x H', (Itt K a).yld i H x H' → B x H' Nx) := by
  refine ⟨fun i m H => m + i = xs.length ∧ Pv i H, ⟨xs.length, by omega, h0⟩, fun i m H h => ?_⟩
  have q := hl i H h.2
  rcases Nat.lt_or_ge i xs.length with lt | ge
  · refine .inr ⟨⟨xs, xs[i], q, List.getElem?_eq_getElem lt⟩, Pv (i + 1), fun H' p => ⟨m - 1, by omega, by omega, p⟩, fun x H' y => ?_⟩
    obtain ⟨rfl, y⟩ := y
    exact hs i x _ (y xs q) h.2
  · obtain rfl : i = xs.length := by omega
    exact .inl ⟨⟨xs, q, Nat.le_refl _⟩, hd H h.2⟩
theorem lc_lstO {K : PySem.W.Frag} {a : Addr} {xs : List V} {H0 : Hp} {Qd : Hp → Prop} {B : V → Hp → (Hp → Prop) → Prop} (Pv : Nat → Hp → Prop) (h0 : Pv 0 H0) (hl : ∀ i H, Pv i H → SqL K H a xs)
    (hs : ∀ i x H, xs[i]? = some x → Pv i H → B x H (Pv (i + 1))) (hd : ∀ H, Pv xs.length H → Qd H) :
    ∃ W : Nat → Nat → Hp → Prop, (∃ m, W 0 m H0) ∧ ∀ i m H, W i m H → ((Itl K a).stop i H ∧ Qd H) ∨ ((Itl K a).go i H ∧ ∃ Nx : Hp → Prop, (∀ H', Nx H' → ∃ m', m' < m ∧ W (i + 1) m' H') ∧ ∀ x H', (Itl K a).yld i H x H' → B x H' Nx) := by
  refine ⟨fun i m H => m + i = xs.length ∧ Pv i H, ⟨xs.length, by omega, h0⟩, fun i m H h => ?_⟩
  have q := hl i H h.2
  rcases Nat.lt_or_ge i xs.length with lt | ge
  · refine .inr ⟨⟨xs, xs[i], q, List.getElem?_eq_getElem lt⟩, Pv (i + 1), fun H' p => ⟨m - 1, by omega, by omega, p⟩, fun x H' y => ?_⟩
    obtain ⟨rfl, y⟩ := y
    exact hs i x _ (y xs q) h.2
  · obtain rfl : i = xs.length := by omega
    exact .inl ⟨⟨xs, q, Nat.le_refl _⟩, hd H h.2⟩
theorem RpAll.three {K : PySem.W.Frag} {H : Hp} {vs : List V} {ds : List PyData} (h : RpAll K H vs ds) (e : ds.length = 3) : ∃ u v y p t z, vs = [u, v, y] ∧ ds = [p, t, z] ∧ Rp K H u p ∧ Rp K H v t ∧ Rp K H y z := by
  cases h with
  | nil => cases e
  | cons h1 h =>
    obtain ⟨_, _, _, _, rfl, rfl, h2, h3⟩ := h.two (by simpa using e)
    exact ⟨_, _, _, _, _, _, rfl, rfl, h1, h2, h3⟩
theorem frmD_not {most : Int} {d : PyData} (z : ¬ tupD 3 3 d = true) : frmD most d = false := by
  unfold frmD
  split
  · exact absurd (show tupD 3 3 _ = true from rfl) z
  · rfl
theorem tabD_not {n : Nat} {most : Int} {d : PyData} (z : ¬ tupD 1 most d = true) : tabD n most d = false := by
  unfold tabD
  split
  · rw [eq_false_of_ne_true z, Bool.false_and]
  · rfl
theorem take_all {α : Type} {f : α → Bool} {ds : List α} {j : Nat} {d : α} (e : ds[j]? = some d) : (ds.take (j + 1)).map f = (ds.take j).map f ++ [f d] := by
  rw [List.take_succ, e, List.map_append]
  rfl
theorem all_map {α : Type} (f : α → Bool) (ds : List α) : (ds.map f).all id = ds.all f := by
  rw [List.all_map]
  rfl
theorem ltrD_str {d : PyData} (h : ltrD d = true) : kindOf d = "str" := by
  cases d with
  | str z => rfl
  | _ => exact absurd h (by simp [ltrD])
def someV : V → Bool
  | .non => false
  | _ => true
theorem someV_eq (x : V) : someV x = !decide (x = .non) := by
  by_cases h : x = .non
  · rw [decide_eq_true h, h]
    rfl
  · rw [decide_eq_false h]
    cases x <;> first | rfl | exact absurd rfl h
theorem some_of {K : PySem.W.Frag} {H : Hp} {x : V} {d : PyData} (h : Rp K H x d) : someV x = someD d := by
  cases h <;> rfl
theorem RpAll.some {K : PySem.W.Frag} {H : Hp} : ∀ {vs : List V} {ds : List PyData}, RpAll K H vs ds → RpAll K H (vs.filter someV) (ds.filter someD)
  | _, _, .nil => .nil
  | _, _, .cons (v := v) (d := d) h t => by
    have e := some_of h
    rw [List.filter_cons, List.filter_cons, e]
    cases someD d
    · exact t.some
    · exact .cons h t.some
def rulD : PyData → Bool
  | .tuple [l, .tuple ss] => ltrD l && (tabD (lenD l) 4 (.tuple ss) && ss.all (wayD (ss.length : Int)))
  | _ => false
def elems : PyData → List PyData
  | .tuple ds => ds
  | _ => []
def keyD : PyData → List Int
  | .tuple [.int p, .int t] => [p, t]
  | _ => []
def chD (many : Int) : PyData → Bool
  | .tuple ds => tupD 1 3 (.tuple ds) && (ds.all (pairD 20 many) && decide ((ds.map keyD).Nodup))
  | _ => false
def plnD : PyData → Bool
  | .tuple [b, l, .tuple ss] => frmD 300 (.tuple [b, l, .tuple ss]) && (ss.flatMap fun st => (elems st).map (pairD ((10 : Int) ^ (30 : Int).toNat) (ss.length : Int))).all id
  | _ => false
def mchD : PyData → Bool
  | .tuple [b, l, .tuple ss] => frmD 4 (.tuple [b, l, .tuple ss]) && (ss.flatMap fun st => (elems st).map (chD (ss.length : Int))).all id
  | _ => false
theorem ltrD_len {d : PyData} (h : ltrD d = true) : lenD d ≤ 3 := by
  cases d with
  | str z =>
    by_cases e : 1 ≤ z.length ∧ z.length ≤ 3
    · exact e.2
    · rw [ltrD, lettersL_not e] at h
      cases h
  | _ => exact absurd h (by simp [ltrD])
theorem rulD_not {d : PyData} (z : ¬ tupD 2 2 d = true) : rulD d = false := by
  unfold rulD
  split
  · exact absurd (show tupD 2 2 _ = true from rfl) z
  · rfl
theorem tabD_tup {n : Nat} {most : Int} {d : PyData} (h : tabD n most d = true) : tupD 1 most d = true ∧ ∀ e ∈ elems d, tupD (n : Int) (n : Int) e = true := by
  cases d with
  | tuple ds =>
    rw [tabD, Bool.and_eq_true, List.all_eq_true] at h
    exact h
  | _ => exact absurd h (by simp [tabD])
theorem flat_len {α β : Type} {g : α → List β} {n : Nat} : ∀ (l : List α), (∀ x ∈ l, (g x).length ≤ n) → (l.flatMap g).length ≤ n * l.length
  | [], _ => by simp
  | x :: l, h => by
    have h1 := h x (.head _)
    have h2 := flat_len l fun y hy => h y (.tail _ hy)
    rw [List.flatMap_cons, List.length_append, List.length_cons, Nat.mul_add, Nat.mul_one]
    omega
theorem take_flat {α β : Type} {g : α → List β} {l : List α} {i : Nat} {x : α} (e : l[i]? = some x) : (l.take (i + 1)).flatMap g = (l.take i).flatMap g ++ g x := by
  rw [List.take_succ, e, List.flatMap_append]
  simp
theorem frm_of {K : PySem.W.Frag} {H : Hp} {x : V} {d : PyData} {most : Int} (h : Rp K H x d) (z : frmD most d = true) : ∃ a u v c b l ss xs, x = .ref a ∧ d = .tuple [b, l, .tuple ss] ∧ SqT K H a [u, v, .ref c] ∧ SqT K H c xs ∧ RpAll K H xs ss ∧ (∀ e ∈ ss, ∃ es, e = .tuple es ∧ es.length ≤ 3) ∧ 1 ≤ ss.length ∧ (ss.length : Int) ≤ most := by
  by_cases y : tupD 3 3 d = true
  · obtain ⟨a, xs, ds, rfl, rfl, hS, hA, l1, l2⟩ := tup_of h y
    obtain ⟨u, v, t, b, l, e, rfl, rfl, hb, hl, he⟩ := hA.three (by omega)
    rw [frmD, Bool.and_eq_true, Bool.and_eq_true] at z
    have ht := tabD_tup z.2.2
    have hlen := ltrD_len z.2.1
    obtain ⟨c, ys, ss, rfl, rfl, hS2, hA2, l3, l4⟩ := tup_of he ht.1
    refine ⟨a, u, v, c, b, l, ss, ys, rfl, rfl, hS, hS2, hA2, fun e he => ?_, by omega, l4⟩
    have := ht.2 e he
    cases e with
    | tuple es =>
      rw [tupD, Bool.and_eq_true, decide_eq_true_eq, decide_eq_true_eq] at this
      exact ⟨es, rfl, by omega⟩
    | _ => exact absurd this (by simp [tupD])
  · rw [frmD_not y] at z
    cases z
theorem plnD_not {d : PyData} (z : ¬ frmD 300 d = true) : plnD d = false := by
  unfold plnD
  split
  · rw [eq_false_of_ne_true z, Bool.false_and]
  · rfl
theorem mchD_not {d : PyData} (z : ¬ frmD 4 d = true) : mchD d = false := by
  unfold mchD
  split
  · rw [eq_false_of_ne_true z, Bool.false_and]
  · rfl
theorem Rp.isTup {K : PySem.W.Frag} {H : Hp} {x : V} {es : List PyData} (h : Rp K H x (.tuple es)) : ∃ a ys, x = .ref a ∧ SqT K H a ys ∧ RpAll K H ys es := by
  cases h with
  | tup h1 h2 => exact ⟨_, _, rfl, h1, h2⟩
theorem chD_not {many : Int} {d : PyData} (z : ¬ tupD 1 3 d = true) : chD many d = false := by
  unfold chD
  split
  · rw [eq_false_of_ne_true z, Bool.false_and]
  · rfl
theorem betD_int {lo hi : Int} {d : PyData} (h : betD lo hi d = true) : ∃ i, d = .int i := by
  cases d with
  | int i => exact ⟨i, rfl⟩
  | _ => exact absurd h (by simp [betD])
theorem Rp.isInt {K : PySem.W.Frag} {H : Hp} {x : V} {i : Int} (h : Rp K H x (.int i)) : x = .int i := by
  cases h
  rfl
theorem pairs_of {K : PySem.W.Frag} {H : Hp} {most many : Int} : ∀ {vs : List V} {ds : List PyData}, RpAll K H vs ds → (∀ e ∈ ds, pairD most many e = true) →
    ∃ ks : List (Addr × List Int), vs = ks.map (fun p => V.ref p.1) ∧ (∀ p ∈ ks, SqT K H p.1 (p.2.map V.int)) ∧ ks.map (·.2) = ds.map keyD
  | _, _, .nil, _ => ⟨[], rfl, fun _ h => (nomatch h), rfl⟩
  | _, _, .cons (d := d) h t, al => by
    obtain ⟨ks, e1, e2, e3⟩ := pairs_of t fun e he => al e (.tail _ he)
    have hd := al d (.head _)
    by_cases z : tupD 2 2 d = true
    · obtain ⟨a, u, v, p, t, rfl, rfl, hS, hp, ht⟩ := h.two z
      rw [pairD, Bool.and_eq_true] at hd
      obtain ⟨i, rfl⟩ := betD_int hd.1
      obtain ⟨j, rfl⟩ := betD_int hd.2
      obtain rfl := hp.isInt
      obtain rfl := ht.isInt
      refine ⟨(a, [i, j]) :: ks, by rw [e1]; rfl, fun p hp => ?_, by rw [List.map_cons, e3]; rfl⟩
      rcases List.mem_cons.mp hp with rfl | hp
      · exact hS
      · exact e2 p hp
    · rw [pairD_not z] at hd
      cases hd
theorem len_seqK {X : Cx} {K : PySem.W.Frag} (e : X.K = K) : CallR X (.builtin "len") (fun xs H Q => ∃ p ys, xs = [.ref p] ∧ (SqL K H p ys ∨ SqT K H p ys) ∧ Q (.int ys.length) H) := by
  subst e
  exact call_len_seq
theorem pi_tupK {X : Cx} {K : PySem.W.Frag} {tg l : Expr} {tl : TE} (e : X.K = K) (h : PE X l tl) : PI X tg l (iTup K tl) := by
  subst e
  exact pi_tup h
structure LookTxt (K : PySem.W.Frag) (mg : Str → Option Value) (m1 m2 m3 m4 m6 m7 m12 : Addr) (n1 n2 n3 n4 n6 n7 n12 : FuncData) (t1 t2 : Tok) : Prop where
  type : mg "type" = none
  int : mg "int" = none
  tuple : mg "tuple" = none
  str : mg "str" = none
  len : mg "len" = none
  all : mg "all" = none
  range : mg "range" = none
  mLetters : mg "MOST_LETTERS" = some (.int 3 t1)
  mStates : mg "MOST_STATES" = some (.int 4 t2)
  FWhole : Fun K "is_whole" "is_whole" sWhole m1 n1
  bWhole : Binds K n1 ["thing"] []
  gWhole : mg "is_whole" = some (.ref m1)
  FBetween : Fun K "is_between" "is_between" sBetween m2 n2
  bBetween : Binds K n2 ["thing", "low", "high"] []
  gBetween : mg "is_between" = some (.ref m2)
  FTuple : Fun K "is_tuple" "is_tuple" sTuple m3 n3
  bTuple : Binds K n3 ["thing", "least", "most"] []
  gTuple : mg "is_tuple" = some (.ref m3)
  FLetters : Fun K "is_letters" "is_letters" sLetters m4 n4
  bLetters : Binds K n4 ["thing"] []
  gLetters : mg "is_letters" = some (.ref m4)
  FWayOn : Fun K "is_way_on" "is_way_on" sWayOn m6 n6
  bWayOn : Binds K n6 ["state", "many"] []
  gWayOn : mg "is_way_on" = some (.ref m6)
  FTable : Fun K "is_table" "is_table" sTable m7 n7
  bTable : Binds K n7 ["thing", "letters", "most"] []
  gTable : mg "is_table" = some (.ref m7)
  FRule : Fun K "is_rule" "is_rule" sRule m12 n12
  bRule : Binds K n12 ["thing"] []
  gRule : mg "is_rule" = some (.ref m12)
/-! ### the promises -/
def spWhole (K : PySem.W.Frag) : Sp := fun vs H Q _ => ∃ x d, vs = [x] ∧ Rp K H x d ∧ Q (.bl (decide (kindOf d = "int"))) H
def spBetween (K : PySem.W.Frag) : Sp := fun vs H Q _ => ∃ x d lo hi, vs = [x, .int lo, .int hi] ∧ Rp K H x d ∧ Q (.bl (betD lo hi d)) H
def spTuple (K : PySem.W.Frag) : Sp := fun vs H Q _ => ∃ x d lo hi, vs = [x, .int lo, .int hi] ∧ Rp K H x d ∧ Q (.bl (tupD lo hi d)) H
def spLetters (K : PySem.W.Frag) : Sp := fun vs H Q _ => ∃ x d, vs = [x] ∧ Rp K H x d ∧ ∀ H', Same H H' → Q (.bl (ltrD d)) H'
def spTable (K : PySem.W.Frag) : Sp := fun vs H Q _ => ∃ x d z most, vs = [x, .str z, .int most] ∧ Rp K H x d ∧ z.length ≤ sizeLine ∧ most < sizeLine ∧ ∀ H', Same H H' → Q (.bl (tabD z.length most d)) H'
def spWayOn (K : PySem.W.Frag) : Sp := fun vs H Q _ => ∃ a xs ds many, vs = [.ref a, .int many] ∧ SqT K H a xs ∧ RpAll K H xs ds ∧ ds.length ≤ 1000 ∧ ∀ H', Same H H' → Q (.bl (wayD many (.tuple ds))) H'
def spRule (K : PySem.W.Frag) : Sp := fun vs H Q _ => ∃ x d, vs = [x] ∧ Rp K H x d ∧ ∀ H', Same H H' → Q (.bl (rulD d)) H'
section
variable {P : Program} {w : World} {K : PySem.W.Frag} {mg : Str → Option Value} {base : Heap} {m1 m2 m3 m4 m6 m7 m12 : Addr} {n1 n2 n3 n4 n6 n7 n12 : FuncData} {t1 t2 : Tok}
theorem ok_whole (T : LookTxt K mg m1 m2 m3 m4 m6 m7 m12 n1 n2 n3 n4 n6 n7 n12 t1 t2) {k : Nat} : FnOk P w K mg base CX0 (k + 1) m1 n1 ["thing"] (spWhole K) := by
  refine T.FWhole.ok scWhole (fun vs H Q E h => ?_) (fun cdv A outer s H vs Q E hr h => ?_)
  · obtain ⟨x, t, rfl, _⟩ := h
    rfl
  · obtain ⟨x, d, rfl, hd, q⟩ := h
    refine ⟨_, (pss_one (ps_ret (pe_cmpR op_eqTy (pe_callTy call_type1 (by rfl) T.type (by decide +kernel) (pa_cons (pv 0) pa_nil)) (pe_bltn (v := .ty "int") (by rfl) T.int (by decide +kernel) rfl) (nomark _)))), ?_⟩
    exact ⟨_, rfl, _, _, rfl, hd.ty, _, _, rfl, rfl, tyB_ty hd.ty, TypeEq.meta_int, q⟩
theorem ok_between (T : LookTxt K mg m1 m2 m3 m4 m6 m7 m12 n1 n2 n3 n4 n6 n7 n12 t1 t2) {k : Nat} : FnOk P w K mg base CX0 (k + 2) m2 n2 ["thing", "low", "high"] (spBetween K) := by
  have GW : FnOk P w K mg base CX0 (k + 1) m1 n1 ["thing"] (spWhole K) := ok_whole T
  refine T.FBetween.ok scBetween (fun vs H Q E h => ?_) (fun cdv A outer s H vs Q E hr h => ?_)
  · obtain ⟨x, t, lo, hi, rfl, _⟩ := h
    rfl
  · obtain ⟨x, d, lo, hi, rfl, hd, q⟩ := h
    refine ⟨_, (pss_one (ps_ret (pe_and (pe_call GW hr (by rfl) T.gWhole T.FWhole.kp T.bWhole .nil pass0 (pa_cons (pv 0) pa_nil)) (pe_one (pe_chain op_le op_le (pv 1) (pv 0) (pv 2)))))), ?_⟩
    refine ⟨_, rfl, x, d, rfl, hd, _, rfl, ?_⟩
    cases hd with
    | int i =>
      refine ite2 (fun _ => ?_) (fun z => absurd (decide_eq_true rfl) z)
      refine ⟨_, rfl, _, rfl, _, _, rfl, rfl, _, rfl, ite2 (fun z => ?_) (fun z => ?_)⟩
      · refine ⟨_, rfl, _, _, rfl, rfl, ?_⟩
        rw [betD, z, Bool.true_and] at q
        exact q
      · rw [betD, eq_false_of_ne_true z, Bool.false_and] at q
        exact q
    | _ => exact ite2 (fun z => absurd (of_decide_eq_true z) (by simp [kindOf])) (fun _ => q)
theorem ok_tuple (T : LookTxt K mg m1 m2 m3 m4 m6 m7 m12 n1 n2 n3 n4 n6 n7 n12 t1 t2) {k : Nat} : FnOk P w K mg base CX0 (k + 1) m3 n3 ["thing", "least", "most"] (spTuple K) := by
  refine T.FTuple.ok scTuple (fun vs H Q E h => ?_) (fun cdv A outer s H vs Q E hr h => ?_)
  · obtain ⟨x, t, lo, hi, rfl, _⟩ := h
    rfl
  · obtain ⟨x, d, lo, hi, rfl, hd, q⟩ := h
    refine ⟨_, (pss_one (ps_ret (pe_and (pe_cmpR op_eqTy (pe_callTy call_type1 (by rfl) T.type (by decide +kernel) (pa_cons (pv 0) pa_nil)) (pe_bltn (v := .ty "tuple") (by rfl) T.tuple (by decide +kernel) rfl) (nomark _)) (pe_one (pe_chain op_le op_le (pv 1) (pe_callB call_len_seq (by rfl) T.len PySem.boot_len (pa_cons (pv 0) pa_nil)) (pv 2)))))), ?_⟩
    refine ⟨_, rfl, _, _, rfl, hd.ty, _, _, rfl, rfl, tyB_ty hd.ty, TypeEq.meta_tuple, _, rfl, ?_⟩
    cases hd with
    | @tup a xs ds h1 h2 =>
      refine ite2 (fun _ => ?_) (fun z => absurd (decide_eq_true rfl) z)
      refine ⟨_, rfl, _, rfl, a, xs, rfl, .inr h1, _, _, rfl, rfl, _, rfl, ?_⟩
      rw [h2.len]
      refine ite2 (fun z => ?_) (fun z => ?_)
      · refine ⟨_, rfl, _, _, rfl, rfl, ?_⟩
        rw [tupD, z, Bool.true_and] at q
        exact q
      · rw [tupD, eq_false_of_ne_true z, Bool.false_and] at q
        exact q
    | _ => exact ite2 (fun z => absurd (of_decide_eq_true z) (by simp [kindOf])) (fun _ => q)
theorem ok_letters (T : LookTxt K mg m1 m2 m3 m4 m6 m7 m12 n1 n2 n3 n4 n6 n7 n12 t1 t2) {k : Nat} : FnOk P w K mg base CX0 (k + 1) m4 n4 ["thing"] (spLetters K) := by
  refine T.FLetters.ok scLetters (fun vs H Q E h => ?_) (fun cdv A outer s H vs Q E hr h => ?_)
  · obtain ⟨x, t, rfl, _⟩ := h
    rfl
  · obtain ⟨x, d, rfl, hd, q⟩ := h
    refine ⟨_, (pss_cons (ps_if (PW.pt (pw_or (pt_cmpR op_neTy (pe_callTy call_type1 (by rfl) T.type (by decide +kernel) (pa_cons (pv 0) pa_nil)) (pe_bltn (v := .ty "str") (by rfl) T.str (by decide +kernel) rfl) (nomark _)) (pw_or1 (pt_not (pt_chain op_le op_le pe_int (pe_callB call_len_str (by rfl) T.len PySem.boot_len (pa_cons (pv 0) pa_nil)) (pe_glob (v := .int 3) (by rfl) T.mLetters ⟨_, rfl⟩)))))) (pss_one (ps_ret pe_bl)) pss_nil)
 (pss_cons (ps_setLc (i := 1) (own := [("at", 2)]) (g := gName 2) (tt := tYes) (by rfl) scLetters.nd rfl rfl (sw_true rfl rfl rfl (by decide +kernel)) (pi_range1 (by rfl) T.range (pa_cons (pe_op op_sub (pe_callB call_len_str (by rfl) T.len PySem.boot_len (pa_cons (pv 0) pa_nil)) pe_int) pa_nil)) (blkOk_by (N := ["thing", "ascending", "at"]) (sc := defScope sLetters) (by decide +kernel)) (fun _ _ _ _ _ => pg_name (i := 2) scLetters.nd rfl (Or.inl rfl)) (fun _ _ _ _ _ => pts_nil) (fun _ _ _ _ _ => (pe_cmpR op_lt_str (pe_ix ix_str (pv 0) (pv 2) (fun _ _ => rfl)) (pe_ix ix_str (pv 0) (pe_op op_add (pv 2) pe_int) (fun _ _ => rfl)) (nomark _))))
 (pss_one (ps_ret (pe_and (pe_callB (cr_all rfl) (by rfl) T.all (by decide +kernel) (pa_cons (pv 1) pa_nil)) (pe_and (pe_cmpR op_le_str pe_str (pe_ix ix_str (pv 0) pe_int (fun _ _ => rfl)) (nomark _)) (pe_one (pe_cmpR op_le_str (pe_ix ix_str (pv 0) (pe_un un_neg pe_int) (fun _ _ => rfl)) pe_str (nomark _))))))))), ?_⟩
    refine ⟨_, rfl, _, _, rfl, hd.ty, _, _, rfl, rfl, tyB_ty hd.ty, TypeEq.meta_str, _, rfl, ?_⟩
    by_cases hk : kindOf d = "str"
    · obtain ⟨z, rfl, rfl, hz⟩ := hd.isStr hk
      refine ite2 (fun y => absurd y (by simp [kindOf])) (fun _ => ?_)
      refine ⟨_, rfl, z, rfl, hz, _, _, rfl, rfl, _, rfl, ?_⟩
      by_cases hl : 1 ≤ z.length ∧ z.length ≤ 3
      · have e1 : (1 : Int) ≤ (z.length : Int) := by omega
        have e3 : (z.length : Int) ≤ 3 := by omega
        refine ite2 (fun _ => ?_) (fun y => absurd (decide_eq_true e1) y)
        refine ⟨_, _, rfl, rfl, _, rfl, ?_⟩
        refine ite2 (fun y => absurd y (by rw [decide_eq_true e3]; decide)) (fun _ => ?_)
        refine ⟨_, rfl, z, rfl, hz, _, _, rfl, rfl, ?_⟩
        refine ⟨_, rfl, by omega, by omega, fun D nD => ?_⟩
        have en : ((z.length : Int) - 1).toNat = z.length - 1 := by omega
        rw [en]
        have ll : z.cps.toList.length = z.length := Array.length_toList
        refine lc_range (lo := 0) (n := z.length - 1) (fun j H' => Same H H' ∧ H' D = some (.lst (((List.range j).map fun i => decide (z.cps.toList.getD i 0 < z.cps.toList.getD (i + 1) 0)).map V.bl))) ⟨same_upd nD, upd_same⟩ ?_ ?_
        · rintro j H' hj ⟨sm, hD⟩
          have a1 := nat_at (l := z.cps.toList) (j := j) (by omega)
          have a2 := nat_at (l := z.cps.toList) (j := j + 1) (by omega)
          refine ⟨rfl, ?_⟩
          refine ⟨_, rfl, _, rfl, z, _, _, rfl, rfl, hz, (by rw [Int.zero_add]; exact atI_nat a1), ?_⟩
          refine ⟨_, rfl, _, rfl, _, _, rfl, rfl, z, _, _, rfl, rfl, hz, (by rw [show (0 + (j : Int)) + 1 = ((j + 1 : Nat) : Int) by omega]; exact atI_nat a2), ?_⟩
          refine ⟨_, _, rfl, rfl, _, hD, ?_, same_new sm nD, ?_⟩
          · rw [List.length_map, List.length_map, List.length_range]
            exact Nat.lt_of_lt_of_le (show j < 3 by omega) (by decide)
          · rw [upd_same, List.range_succ, List.map_append, List.map_append]
            show some (HO.lst (_ ++ [V.bl (decide ([z.cps.toList.getD j 0] < [z.cps.toList.getD (j + 1) 0]))])) = _
            rw [one_lt]
            rfl
        · rintro H' ⟨sm, hD⟩
          have a1 := nat_at (l := z.cps.toList) (j := 0) (by omega)
          have a2 := nat_at (l := z.cps.toList) (j := z.cps.toList.length - 1) (by omega)
          have q1 := q H' sm
          rw [ltrD, letters_eq (by rw [ll]; exact hl), ll] at q1
          refine ⟨_, rfl, D, _, rfl, SqL.of hD, _, rfl, ite2 (fun y => ?_) (fun y => ?_)⟩
          · rw [y, Bool.true_and] at q1
            refine ⟨_, rfl, z, 0, _, rfl, rfl, hz, atI_nat (j := 0) a1, _, _, rfl, rfl, _, rfl, ite2 (fun u => ?_) (fun u => ?_)⟩
            · refine ⟨_, rfl, _, rfl, z, _, _, rfl, rfl, hz, (atI_last (by omega)).trans a2, _, _, rfl, rfl, ?_⟩
              rw [show (!decide ([z.cps.toList.getD 0 0] < [97])) = true from u, Bool.true_and] at q1
              rw [ll]
              exact q1
            · rw [show (!decide ([z.cps.toList.getD 0 0] < [97])) = false from eq_false_of_ne_true u, Bool.false_and] at q1
              exact q1
          · rw [eq_false_of_ne_true y, Bool.false_and] at q1
            exact q1
      · have q0 := q H (Same.refl H)
        rw [ltrD, lettersL_not hl] at q0
        refine ite2 (fun y => ?_) (fun y => ?_)
        · refine ⟨_, _, rfl, rfl, _, rfl, ?_⟩
          refine ite2 (fun _ => q0) (fun z3 => absurd ?_ z3)
          have y1 := of_decide_eq_true y
          rw [decide_eq_false (by omega)]
          rfl
        · exact ⟨_, rfl, ite2 (fun _ => q0) (fun u => absurd rfl u)⟩
    · refine ite2 (fun _ => ?_) (fun y => absurd (by rw [decide_eq_false hk]; rfl) y)
      have q0 := q H (Same.refl H)
      rw [ltrD_not hk] at q0
      exact q0
theorem ok_table (T : LookTxt K mg m1 m2 m3 m4 m6 m7 m12 n1 n2 n3 n4 n6 n7 n12 t1 t2) {k : Nat} : FnOk P w K mg base CX0 (k + 2) m7 n7 ["thing", "letters", "most"] (spTable K) := by
  have GT : FnOk P w K mg base CX0 (k + 1) m3 n3 ["thing", "least", "most"] (spTuple K) := ok_tuple T
  refine T.FTable.ok scTable (fun vs H Q E h => ?_) (fun cdv A outer s H vs Q E hr h => ?_)
  · obtain ⟨x, d, z, most, rfl, _⟩ := h
    rfl
  · obtain ⟨x, d, z, most, rfl, hd, hz, hm, q⟩ := h
    refine ⟨_, (pss_cons (ps_if (pt_not (pt_val (pe_call GT hr (by rfl) T.gTuple T.FTuple.kp T.bTuple .nil pass0 (pa_cons (pv 0) (pa_cons pe_int (pa_cons (pv 2) pa_nil)))))) (pss_one (ps_ret pe_bl)) pss_nil)
 (pss_one (ps_ret (pe_callB (cr_all rfl) (by rfl) T.all (by decide +kernel) (pa_cons (pe_lc (own := [("state", 3)]) (g := gName 3) (tt := tYes) (by rfl) scTable.nd (pi_tup (pv 0)) (blkOk_by (N := ["thing", "letters", "most", "state"]) (sc := defScope sTable) (by decide +kernel)) (fun _ _ _ _ _ => pg_name (i := 3) scTable.nd rfl (Or.inl rfl)) (fun _ _ _ _ _ => pts_nil) (fun _ _ _ _ _ => (pe_call GT hr (by rfl) T.gTuple T.FTuple.kp T.bTuple .nil pass0 (pa_cons (pv 3) (pa_cons (pe_callB call_len_str (by rfl) T.len PySem.boot_len (pa_cons (pv 1) pa_nil)) (pa_cons (pe_callB call_len_str (by rfl) T.len PySem.boot_len (pa_cons (pv 1) pa_nil)) pa_nil)))))) pa_nil))))), ?_⟩
    refine ⟨_, rfl, _, rfl, x, d, 1, most, rfl, hd, ?_⟩
    by_cases y : tupD 1 most d = true
    · obtain ⟨a, xs, ds, rfl, rfl, hS, hA, l1, l2⟩ := tup_of hd y
      refine ⟨_, rfl, ite2 (fun u => absurd u (by rw [y]; decide)) (fun _ => ?_)⟩
      refine ⟨_, rfl, a, rfl, ⟨xs, hS⟩, fun D nD => ?_⟩
      refine lc_tupO (xs := xs) (fun j H' => Same H H' ∧ H' D = some (.lst (((ds.take j).map (tupD (z.length : Int) (z.length : Int))).map V.bl))) ⟨same_upd nD, upd_same⟩ (fun i H' h => same_tup h.1 hS) ?_ ?_
      · rintro i u H' hu ⟨sm, hD⟩
        obtain ⟨e, he, re⟩ := hA.at hu
        refine ⟨rfl, ?_⟩
        refine ⟨_, rfl, _, rfl, z, rfl, hz, _, rfl, z, rfl, hz, u, e, _, _, rfl, re.go sm, _, hD, ?_, same_new sm nD, ?_⟩
        · rw [List.length_map, List.length_map]
          have := List.length_take_le' i ds
          omega
        · rw [upd_same, take_all he, List.map_append]
          rfl
      · rintro H' ⟨sm, hD⟩
        have q1 := q H' sm
        refine ⟨D, _, rfl, SqL.of hD, ?_⟩
        rw [hA.len, List.take_length, all_map]
        rw [tabD, y, Bool.true_and] at q1
        exact q1
    · refine ⟨_, rfl, ite2 (fun _ => ?_) (fun u => absurd (by rw [eq_false_of_ne_true y]; rfl) u)⟩
      have q1 := q H (Same.refl H)
      rw [tabD_not y] at q1
      exact q1
theorem ok_wayOn (T : LookTxt K mg m1 m2 m3 m4 m6 m7 m12 n1 n2 n3 n4 n6 n7 n12 t1 t2) {k : Nat} : FnOk P w K mg base CX0 (k + 3) m6 n6 ["state", "many"] (spWayOn K) := by
  have GB : FnOk P w K mg base CX0 (k + 2) m2 n2 ["thing", "low", "high"] (spBetween K) := ok_between T
  refine T.FWayOn.ok scWayOn (fun vs H Q E h => ?_) (fun cdv A outer s H vs Q E hr h => ?_)
  · obtain ⟨a, xs, ds, many, rfl, _⟩ := h
    rfl
  · obtain ⟨a, xs, ds, many, rfl, hS, hA, hl, q⟩ := h
    refine ⟨_, (pss_cons (ps_setLc (i := 2) (own := [("target", 3)]) (g := gName 3) (by rfl) scWayOn.nd rfl rfl (sw_true rfl rfl rfl (by decide +kernel)) (pi_tup (pv 0)) (blkOk_by (N := ["state", "many", "targets", "target"]) (sc := defScope sWayOn) (by decide +kernel)) (fun _ _ _ _ _ => pg_name (i := 3) scWayOn.nd rfl (Or.inl rfl)) (fun _ _ _ _ _ => (pts_one (pt_cmpR op_notN (pv 3) pe_non (nomark _)))) (fun _ _ _ _ _ => (pv 3)))
 (pss_one (ps_ret (pe_and (pe_cmpR op_gt (pe_callB call_len_seq (by rfl) T.len PySem.boot_len (pa_cons (pv 2) pa_nil)) pe_int (nomark _)) (pe_one (pe_callB (cr_all rfl) (by rfl) T.all (by decide +kernel) (pa_cons (pe_lc (own := [("target", 3)]) (g := gName 3) (tt := tYes) (by rfl) scWayOn.nd (pi_list (pv 2)) (blkOk_by (N := ["state", "many", "targets", "target"]) (sc := defScope sWayOn) (by decide +kernel)) (fun _ _ _ _ _ => pg_name (i := 3) scWayOn.nd rfl (Or.inl rfl)) (fun _ _ _ _ _ => pts_nil) (fun _ _ _ _ _ => (pe_call GB hr (by rfl) T.gBetween T.FBetween.kp T.bBetween .nil pass0 (pa_cons (pv 3) (pa_cons pe_int (pa_cons (pe_op op_sub (pv 1) pe_int) pa_nil)))))) pa_nil))))))), ?_⟩
    refine ⟨_, rfl, a, rfl, ⟨xs, hS⟩, fun D nD => ?_⟩
    refine lc_tupO (xs := xs) (fun j H' => Same H H' ∧ H' D = some (.lst ((xs.take j).filter someV))) ⟨same_upd nD, upd_same⟩ (fun i H' h => same_tup h.1 hS) ?_ ?_
    · rintro i u H' hu ⟨sm, hD⟩
      refine ⟨rfl, ?_⟩
      refine ⟨_, rfl, rfl, _, rfl, ite2 (fun z => ?_) (fun z => ?_)⟩
      · refine ⟨_, rfl, _, hD, ?_, same_new sm nD, ?_⟩
        · have h1 := List.length_filter_le someV (xs.take i)
          have h2 := List.length_take_le' i xs
          have h3 := hA.len
          exact Nat.lt_of_le_of_lt (show _ ≤ 1000 by omega) (by decide)
        · rw [upd_same, List.take_succ, hu, List.filter_append]
          show _ = some (HO.lst (_ ++ [u].filter someV))
          rw [List.filter_cons, someV_eq, z]
          rfl
      · refine ⟨sm, ?_⟩
        rw [hD, List.take_succ, hu, List.filter_append]
        show _ = some (HO.lst (_ ++ [u].filter someV))
        rw [List.filter_cons, someV_eq, eq_false_of_ne_true z]
        simp
    · rintro H' ⟨sm, hD⟩
      rw [List.take_length] at hD
      have hF := hA.some
      have hl2 : (ds.filter someD).length ≤ 1000 := Nat.le_trans (List.length_filter_le _ _) hl
      refine ⟨_, rfl, D, _, rfl, .inl (SqL.of hD), _, _, rfl, rfl, _, rfl, ?_⟩
      rw [hF.len]
      refine ite2 (fun z => ?_) (fun z => ?_)
      · refine ⟨_, rfl, D, rfl, ⟨_, SqL.of hD⟩, fun D2 nD2 => ?_⟩
        refine lc_lstO (xs := xs.filter someV) (fun j H2 => Same H' H2 ∧ H2 D2 = some (.lst ((((ds.filter someD).take j).map (betD 0 (many - 1))).map V.bl))) ⟨same_upd nD2, upd_same⟩ (fun i H2 h => h.1.seq (SqL.of hD)) ?_ ?_
        · rintro i u H2 hu ⟨s2, hD2⟩
          obtain ⟨e, he, re⟩ := hF.at hu
          refine ⟨rfl, ?_⟩
          refine ⟨_, rfl, _, rfl, _, _, rfl, rfl, u, e, _, _, rfl, re.go (sm.trans s2), _, hD2, ?_, same_new s2 nD2, ?_⟩
          · rw [List.length_map, List.length_map]
            have := List.length_take_le' i (ds.filter someD)
            exact Nat.lt_of_le_of_lt (show _ ≤ 1000 by omega) (by decide)
          · rw [upd_same, take_all he, List.map_append]
            rfl
        · rintro H2 ⟨s2, hD2⟩
          have q1 := q H2 (sm.trans s2)
          refine ⟨D2, _, rfl, SqL.of hD2, ?_⟩
          rw [hF.len, List.take_length, all_map]
          rw [wayD, z, Bool.true_and] at q1
          exact q1
      · have q1 := q H' sm
        rw [wayD, eq_false_of_ne_true z, Bool.false_and] at q1
        exact q1
theorem ok_rule (T : LookTxt K mg m1 m2 m3 m4 m6 m7 m12 n1 n2 n3 n4 n6 n7 n12 t1 t2) {k : Nat} : FnOk P w K mg base CX0 (k + 4) m12 n12 ["thing"] (spRule K) := by
  have GT : FnOk P w K mg base CX0 (k + 3) m3 n3 ["thing", "least", "most"] (spTuple K) := ok_tuple T
  have GL : FnOk P w K mg base CX0 (k + 3) m4 n4 ["thing"] (spLetters K) := ok_letters T
  have GA : FnOk P w K mg base CX0 (k + 3) m7 n7 ["thing", "letters", "most"] (spTable K) := ok_table T
  have GW : FnOk P w K mg base CX0 (k + 3) m6 n6 ["state", "many"] (spWayOn K) := ok_wayOn T
  refine T.FRule.ok scRule (fun vs H Q E h => ?_) (fun cdv A outer s H vs Q E hr h => ?_)
  · obtain ⟨x, d, rfl, _⟩ := h
    rfl
  · obtain ⟨x, d, rfl, hd, q⟩ := h
    refine ⟨_, (pss_cons (ps_if (pt_not (pt_val (pe_call GT hr (by rfl) T.gTuple T.FTuple.kp T.bTuple .nil pass0 (pa_cons (pv 0) (pa_cons pe_int (pa_cons pe_int pa_nil)))))) (pss_one (ps_ret pe_bl)) pss_nil)
 (pss_cons (ps_asg (pv 0) (pg_tup rfl (pgs_cons (pg_name (i := 1) scRule.nd rfl (.inl rfl)) (pgs_cons (pg_name (i := 2) scRule.nd rfl (.inr rfl)) pgs_nil))))
 (pss_cons (ps_if (PW.pt (pw_or (pt_not (pt_val (pe_call GL hr (by rfl) T.gLetters T.FLetters.kp T.bLetters .nil pass0 (pa_cons (pv 1) pa_nil)))) (pw_or1 (pt_not (pt_val (pe_call GA hr (by rfl) T.gTable T.FTable.kp T.bTable .nil pass0 (pa_cons (pv 2) (pa_cons (pv 1) (pa_cons (pe_glob (v := .int 4) (by rfl) T.mStates ⟨_, rfl⟩) pa_nil))))))))) (pss_one (ps_ret pe_bl)) pss_nil)
 (pss_one (ps_ret (pe_callB (cr_all rfl) (by rfl) T.all (by decide +kernel) (pa_cons (pe_lc (own := [("state", 3)]) (g := gName 3) (tt := tYes) (by rfl) scRule.nd (pi_tup (pv 2)) (blkOk_by (N := ["thing", "letters", "states", "state"]) (sc := defScope sRule) (by decide +kernel)) (fun _ _ _ _ _ => pg_name (i := 3) scRule.nd rfl (Or.inl rfl)) (fun _ _ _ _ _ => pts_nil) (fun _ _ _ _ _ => (pe_call GW hr (by rfl) T.gWayOn T.FWayOn.kp T.bWayOn .nil pass0 (pa_cons (pv 3) (pa_cons (pe_callB (len_seqK (K := K) rfl) (by rfl) T.len PySem.boot_len (pa_cons (pv 2) pa_nil)) pa_nil))))) pa_nil))))))), ?_⟩
    refine ⟨_, rfl, x, d, 2, 2, rfl, hd, ?_⟩
    by_cases y : tupD 2 2 d = true
    · obtain ⟨a, u, v, l, st, rfl, rfl, hS, hl, hst⟩ := hd.two y
      refine ⟨_, rfl, ite2 (fun u => absurd u (by rw [y]; decide)) (fun _ => ?_)⟩
      refine ⟨_, rfl, a, _, rfl, hS, rfl, u, [v], rfl, v, [], rfl, rfl, ?_⟩
      have bad : ∀ H', Same H H' → (ltrD l && tabD (lenD l) 4 st) = false → Q (.bl false) H' := fun H' s' e => by
        have q1 := q H' s'
        have : rulD (.tuple [l, st]) = false := by
          cases st with
          | tuple ss => rw [rulD, ← Bool.and_assoc, e, Bool.false_and]
          | _ => rfl
        rw [this] at q1
        exact q1
      refine ⟨_, rfl, u, l, rfl, hl, fun H1 s1 => ⟨_, rfl, ?_⟩⟩
      by_cases zl : ltrD l = true
      · obtain ⟨w1, rfl, rfl, hw⟩ := hl.isStr (ltrD_str zl)
        refine ite2 (fun u => absurd u (by rw [zl]; decide)) (fun _ => ?_)
        refine ⟨_, rfl, _, rfl, v, st, w1, 4, rfl, hst.go s1, hw, (by decide), fun H2 s2 => ⟨_, rfl, ?_⟩⟩
        by_cases zt : tabD w1.length 4 st = true
        · refine ite2 (fun u => absurd u (by rw [zt]; decide)) (fun _ => ?_)
          have ht := tabD_tup zt
          obtain ⟨b, xs, ds, rfl, rfl, hS2, hA, l1, l2⟩ := tup_of hst ht.1
          have s12 := s1.trans s2
          refine ⟨_, rfl, b, rfl, ⟨xs, same_tup s12 hS2⟩, fun D nD => ?_⟩
          refine lc_tupO (xs := xs) (fun j H' => Same H2 H' ∧ H' D = some (.lst (((ds.take j).map (wayD (ds.length : Int))).map V.bl))) ⟨same_upd nD, upd_same⟩ (fun i H' h => same_tup (s12.trans h.1) hS2) ?_ ?_
          · rintro i u H' hu ⟨sm, hD⟩
            obtain ⟨e, he, re⟩ := hA.at hu
            obtain ⟨a2, ys, es, rfl, rfl, hS3, hA3, l3, l4⟩ := tup_of re (ht.2 e (List.mem_of_getElem? he))
            have lw := ltrD_len zl
            have s13 := s12.trans sm
            refine ⟨rfl, ?_⟩
            refine ⟨_, rfl, _, rfl, b, xs, rfl, .inr (same_tup s13 hS2), a2, ys, es, _, rfl, same_tup s13 hS3, ?_, ?_, fun H3 s3 => ?_⟩
            · exact hA3.go s13
            · have l5 : w1.length ≤ 3 := lw
              omega
            · refine ⟨_, s3 _ _ hD, ?_, same_new (sm.trans s3) nD, ?_⟩
              · rw [List.length_map, List.length_map]
                have := List.length_take_le' i ds
                exact Nat.lt_of_le_of_lt (show _ ≤ 1000 by omega) (by decide)
              · rw [upd_same, take_all he, List.map_append, hA.len]
                rfl
          · rintro H' ⟨sm, hD⟩
            have q1 := q H' (s12.trans sm)
            refine ⟨D, _, rfl, SqL.of hD, ?_⟩
            rw [hA.len, List.take_length, all_map]
            rw [rulD, show lenD (.str w1) = w1.length from rfl, zl, zt, Bool.true_and, Bool.true_and] at q1
            exact q1
        · refine ite2 (fun _ => ?_) (fun u => absurd (by rw [eq_false_of_ne_true zt]; rfl) u)
          exact bad H2 (s1.trans s2) (by rw [show lenD (.str w1) = w1.length from rfl, eq_false_of_ne_true zt, Bool.and_false])
      · refine ite2 (fun _ => ?_) (fun u => absurd (by rw [eq_false_of_ne_true zl]; rfl) u)
        exact bad H1 s1 (by rw [eq_false_of_ne_true zl, Bool.false_and])
    · refine ⟨_, rfl, ite2 (fun _ => ?_) (fun u => absurd (by rw [eq_false_of_ne_true y]; rfl) u)⟩
      have q1 := q H (Same.refl H)
      rw [rulD_not y] at q1
      exact q1
end
end My
/-! ### machines -/
namespace My
open PySem PySem.Spec PyProof.Rows L2
abbrev sPair : Stmt := topS 32
abbrev sFrame : Stmt := topS 29
abbrev sChoice : Stmt := topS 31
abbrev sMachine : Stmt := topS 23
abbrev sPlain : Stmt := topS 24
theorem scPair : FnScope ["thing", "most", "many", "pay", "state"] ["thing", "most", "many"] (defScope sPair) := ⟨rfl, rfl, rfl, by decide +kernel, rfl, by decide +kernel, by decide +kernel⟩
theorem scFrame : FnScope ["thing", "most", "base", "letters", "states"] ["thing", "most"] (defScope sFrame) := ⟨rfl, rfl, rfl, by decide +kernel, rfl, by decide +kernel, by decide +kernel⟩
theorem scChoice : FnScope ["thing", "many", "pair"] ["thing", "many"] (defScope sChoice) := ⟨rfl, rfl, rfl, by decide +kernel, rfl, by decide +kernel, by decide +kernel⟩
theorem scMachine : FnScope ["thing", "states", "state", "choice"] ["thing"] (defScope sMachine) := ⟨rfl, rfl, rfl, by decide +kernel, rfl, by decide +kernel, by decide +kernel⟩
theorem scPlain : FnScope ["thing", "states", "state", "pair"] ["thing"] (defScope sPlain) := ⟨rfl, rfl, rfl, by decide +kernel, rfl, by decide +kernel, by decide +kernel⟩
structure MachTxt (K : PySem.W.Frag) (mg : Str → Option Value) (m1 m2 m3 m4 m5 m6 m7 m8 m9 m10 m11 m12 : Addr) (n1 n2 n3 n4 n5 n6 n7 n8 n9 n10 n11 n12 : FuncData) (t1 t2 t3 t4 t5 : Tok) : Prop where
  look : LookTxt K mg m1 m2 m3 m4 m6 m7 m12 n1 n2 n3 n4 n6 n7 n12 t1 t2
  set : mg "set" = none
  mPlain : mg "MOST_PLAIN_STATES" = some (.int 300 t3)
  mWide : ∃ t, mg "MOST_PLAIN_PAY" = some (.int ((10 : Int) ^ (30 : Int).toNat) t)
  mPairs : mg "MOST_PAIRS" = some (.int 3 t4)
  mPay : mg "MOST_PAY" = some (.int 20 t5)
  FPair : Fun K "is_pair" "is_pair" sPair m5 n5
  bPair : Binds K n5 ["thing", "most", "many"] []
  gPair : mg "is_pair" = some (.ref m5)
  FFrame : Fun K "is_frame" "is_frame" sFrame m8 n8
  bFrame : Binds K n8 ["thing", "most"] []
  gFrame : mg "is_frame" = some (.ref m8)
  FChoice : Fun K "is_choice" "is_choice" sChoice m9 n9
  bChoice : Binds K n9 ["thing", "many"] []
  gChoice : mg "is_choice" = some (.ref m9)
  FMachine : Fun K "is_machine" "is_machine" sMachine m10 n10
  bMachine : Binds K n10 ["thing"] []
  gMachine : mg "is_machine" = some (.ref m10)
  FPlain : Fun K "is_plain" "is_plain" sPlain m11 n11
  bPlain : Binds K n11 ["thing"] []
  gPlain : mg "is_plain" = some (.ref m11)
/-! ### the promises -/
def spPair (K : PySem.W.Frag) : Sp := fun vs H Q _ => ∃ x d most many, vs = [x, .int most, .int many] ∧ Rp K H x d ∧ Q (.bl (pairD most many d)) H
def spFrame (K : PySem.W.Frag) : Sp := fun vs H Q _ => ∃ x d most, vs = [x, .int most] ∧ Rp K H x d ∧ most < sizeLine ∧ ∀ H', Same H H' → Q (.bl (frmD most d)) H'
def spChoice (K : PySem.W.Frag) : Sp := fun vs H Q _ => ∃ x d many, vs = [x, .int many] ∧ Rp K H x d ∧ ∀ H', Same H H' → Q (.bl (chD many d)) H'
def spPlain (K : PySem.W.Frag) : Sp := fun vs H Q _ => ∃ x d, vs = [x] ∧ Rp K H x d ∧ ∀ H', Same H H' → Q (.bl (plnD d)) H'
def spMachine (K : PySem.W.Frag) : Sp := fun vs H Q _ => ∃ x d, vs = [x] ∧ Rp K H x d ∧ ∀ H', Same H H' → Q (.bl (mchD d)) H'
section
variable {P : Program} {w : World} {K : PySem.W.Frag} {mg : Str → Option Value} {base : Heap} {m1 m2 m3 m4 m5 m6 m7 m8 m9 m10 m11 m12 : Addr} {n1 n2 n3 n4 n5 n6 n7 n8 n9 n10 n11 n12 : FuncData} {t1 t2 t3 t4 t5 : Tok}
theorem ok_pair (T : MachTxt K mg m1 m2 m3 m4 m5 m6 m7 m8 m9 m10 m11 m12 n1 n2 n3 n4 n5 n6 n7 n8 n9 n10 n11 n12 t1 t2 t3 t4 t5) {k : Nat} : FnOk P w K mg base CX0 (k + 3) m5 n5 ["thing", "most", "many"] (spPair K) := by
  have GB : FnOk P w K mg base CX0 (k + 2) m2 n2 ["thing", "low", "high"] (spBetween K) := ok_between T.look
  have GT : FnOk P w K mg base CX0 (k + 2) m3 n3 ["thing", "least", "most"] (spTuple K) := ok_tuple T.look
  refine T.FPair.ok scPair (fun vs H Q E h => ?_) (fun cdv A outer s H vs Q E hr h => ?_)
  · obtain ⟨x, t, lo, hi, rfl, _⟩ := h
    rfl
  · obtain ⟨x, d, most, many, rfl, hd, q⟩ := h
    refine ⟨_, (pss_cons (ps_if (pt_not (pt_val (pe_call GT hr (by rfl) T.look.gTuple T.look.FTuple.kp T.look.bTuple .nil pass0 (pa_cons (pv 0) (pa_cons pe_int (pa_cons pe_int pa_nil)))))) (pss_one (ps_ret pe_bl)) pss_nil)
 (pss_cons (ps_asg (pv 0) (pg_tup rfl (pgs_cons (pg_name (i := 3) scPair.nd rfl (.inl rfl)) (pgs_cons (pg_name (i := 4) scPair.nd rfl (.inl rfl)) pgs_nil))))
 (pss_one (ps_ret (pe_and (pe_call GB hr (by rfl) T.look.gBetween T.look.FBetween.kp T.look.bBetween .nil pass0 (pa_cons (pv 3) (pa_cons (pe_un un_neg (pv 1)) (pa_cons (pv 1) pa_nil)))) (pe_one (pe_call GB hr (by rfl) T.look.gBetween T.look.FBetween.kp T.look.bBetween .nil pass0 (pa_cons (pv 4) (pa_cons pe_int (pa_cons (pe_op op_sub (pv 2) pe_int) pa_nil)))))))))), ?_⟩
    refine ⟨_, rfl, x, d, 2, 2, rfl, hd, ?_⟩
    by_cases z : tupD 2 2 d = true
    · obtain ⟨a, u, v, p, t, rfl, rfl, hS, hp, ht⟩ := hd.two z
      refine ⟨_, rfl, ite2 (fun y => absurd y (by rw [z]; decide)) (fun _ => ?_)⟩
      refine ⟨_, rfl, a, _, rfl, hS, rfl, u, [v], rfl, v, [], rfl, rfl, ?_⟩
      refine ⟨_, rfl, _, rfl, _, rfl, _, rfl, u, p, _, _, rfl, hp, _, rfl, ?_⟩
      refine ite2 (fun y => ?_) (fun y => ?_)
      · refine ⟨_, rfl, _, rfl, _, _, rfl, rfl, v, t, _, _, rfl, ht, ?_⟩
        rw [pairD, y, Bool.true_and] at q
        exact q
      · rw [pairD, eq_false_of_ne_true y, Bool.false_and] at q
        exact q
    · refine ⟨_, rfl, ite2 (fun _ => ?_) (fun y => absurd (by rw [eq_false_of_ne_true z]; rfl) y)⟩
      rw [pairD_not z] at q
      exact q
theorem ok_frame (T : MachTxt K mg m1 m2 m3 m4 m5 m6 m7 m8 m9 m10 m11 m12 n1 n2 n3 n4 n5 n6 n7 n8 n9 n10 n11 n12 t1 t2 t3 t4 t5) {k : Nat} : FnOk P w K mg base CX0 (k + 3) m8 n8 ["thing", "most"] (spFrame K) := by
  have GT : FnOk P w K mg base CX0 (k + 2) m3 n3 ["thing", "least", "most"] (spTuple K) := ok_tuple T.look
  have GB : FnOk P w K mg base CX0 (k + 2) m2 n2 ["thing", "low", "high"] (spBetween K) := ok_between T.look
  have GL : FnOk P w K mg base CX0 (k + 2) m4 n4 ["thing"] (spLetters K) := ok_letters T.look
  have GA : FnOk P w K mg base CX0 (k + 2) m7 n7 ["thing", "letters", "most"] (spTable K) := ok_table T.look
  refine T.FFrame.ok scFrame (fun vs H Q E h => ?_) (fun cdv A outer s H vs Q E hr h => ?_)
  · obtain ⟨x, d, most, rfl, _⟩ := h
    rfl
  · obtain ⟨x, d, most, rfl, hd, hm, q⟩ := h
    refine ⟨_, (pss_cons (ps_if (pt_not (pt_val (pe_call GT hr (by rfl) T.look.gTuple T.look.FTuple.kp T.look.bTuple .nil pass0 (pa_cons (pv 0) (pa_cons pe_int (pa_cons pe_int pa_nil)))))) (pss_one (ps_ret pe_bl)) pss_nil)
 (pss_cons (ps_asg (pv 0) (pg_tup rfl (pgs_cons (pg_name (i := 2) scFrame.nd rfl (.inl rfl)) (pgs_cons (pg_name (i := 3) scFrame.nd rfl (.inl rfl)) (pgs_cons (pg_name (i := 4) scFrame.nd rfl (.inl rfl)) pgs_nil)))))
 (pss_one (ps_ret (pe_and (pe_call GB hr (by rfl) T.look.gBetween T.look.FBetween.kp T.look.bBetween .nil pass0 (pa_cons (pv 2) (pa_cons pe_int (pa_cons pe_int pa_nil)))) (pe_and (pe_call GL hr (by rfl) T.look.gLetters T.look.FLetters.kp T.look.bLetters .nil pass0 (pa_cons (pv 3) pa_nil)) (pe_one (pe_call GA hr (by rfl) T.look.gTable T.look.FTable.kp T.look.bTable .nil pass0 (pa_cons (pv 4) (pa_cons (pv 3) (pa_cons (pv 1) pa_nil))))))))))), ?_⟩
    refine ⟨_, rfl, x, d, 3, 3, rfl, hd, ?_⟩
    by_cases y : tupD 3 3 d = true
    · obtain ⟨a, xs, ds, rfl, rfl, hS, hA, l1, l2⟩ := tup_of hd y
      obtain ⟨u, v, t, b, l, e, rfl, rfl, hb, hl, he⟩ := hA.three (by omega)
      refine ⟨_, rfl, ite2 (fun u => absurd u (by rw [y]; decide)) (fun _ => ?_)⟩
      refine ⟨_, rfl, a, _, rfl, hS, rfl, u, [v, t], rfl, v, [t], rfl, t, [], rfl, rfl, ?_⟩
      refine ⟨_, rfl, u, b, _, _, rfl, hb, _, rfl, ite2 (fun z => ?_) (fun z => ?_)⟩
      · refine ⟨_, rfl, v, l, rfl, hl, fun H1 s1 => ⟨_, rfl, ite2 (fun zl => ?_) (fun zl => ?_)⟩⟩
        · obtain ⟨w1, rfl, rfl, hw⟩ := hl.isStr (ltrD_str zl)
          refine ⟨_, rfl, _, rfl, _, rfl, t, e, w1, most, rfl, he.go s1, hw, hm, fun H2 s2 => ?_⟩
          have q1 := q H2 (s1.trans s2)
          rw [frmD, z, zl, Bool.true_and, Bool.true_and] at q1
          exact q1
        · have q1 := q H1 s1
          rw [frmD, eq_false_of_ne_true zl, Bool.false_and, Bool.and_false] at q1
          exact q1
      · have q1 := q H (Same.refl H)
        rw [frmD, eq_false_of_ne_true z, Bool.false_and] at q1
        exact q1
    · refine ⟨_, rfl, ite2 (fun _ => ?_) (fun u => absurd (by rw [eq_false_of_ne_true y]; rfl) u)⟩
      have q1 := q H (Same.refl H)
      rw [frmD_not y] at q1
      exact q1
theorem ok_plain (T : MachTxt K mg m1 m2 m3 m4 m5 m6 m7 m8 m9 m10 m11 m12 n1 n2 n3 n4 n5 n6 n7 n8 n9 n10 n11 n12 t1 t2 t3 t4 t5) {k : Nat} : FnOk P w K mg base CX0 (k + 4) m11 n11 ["thing"] (spPlain K) := by
  have GF : FnOk P w K mg base CX0 (k + 3) m8 n8 ["thing", "most"] (spFrame K) := ok_frame T
  have GP : FnOk P w K mg base CX0 (k + 3) m5 n5 ["thing", "most", "many"] (spPair K) := ok_pair T
  refine T.FPlain.ok scPlain (fun vs H Q E h => ?_) (fun cdv A outer s H vs Q E hr h => ?_)
  · obtain ⟨x, d, rfl, _⟩ := h
    rfl
  · obtain ⟨x, d, rfl, hd, q⟩ := h
    obtain ⟨tW, hWide⟩ := T.mWide
    refine ⟨_, (pss_cons (ps_if (pt_not (pt_val (pe_call GF hr (by rfl) T.gFrame T.FFrame.kp T.bFrame .nil pass0 (pa_cons (pv 0) (pa_cons (pe_glob (v := .int 300) (by rfl) T.mPlain ⟨_, rfl⟩) pa_nil))))) (pss_one (ps_ret pe_bl)) pss_nil)
 (pss_cons (ps_set (i := 1) scPlain.nd rfl (.inr rfl) (pe_ix ix_tup (pv 0) pe_int (fun _ _ => rfl)))
 (pss_one (ps_ret (pe_callB (cr_all rfl) (by rfl) T.look.all (by decide +kernel) (pa_cons (pe_lc2 (own := [("state", 2), ("pair", 3)]) (vs1 := [3]) (g := gName 2) (g1 := gName 3) (tt := tYes) (tt1 := tYes) (by rfl) scPlain.nd (pi_tup (pv 1)) (blkOk_by (N := ["thing", "states", "state", "pair"]) (sc := defScope sPlain) (by decide +kernel)) (by decide) (fun _ _ _ _ _ => pg_name (i := 2) scPlain.nd rfl (Or.inl rfl)) (fun _ _ _ _ _ => pts_nil) (fun _ _ _ _ _ => (pi_tupK (K := K) rfl (pv 2))) (fun _ _ _ _ _ => pg_name (i := 3) scPlain.nd rfl (Or.inl rfl)) (fun _ _ _ _ _ => pts_nil) (fun _ _ _ _ _ => (pe_call GP hr (by rfl) T.gPair T.FPair.kp T.bPair .nil pass0 (pa_cons (pv 3) (pa_cons (pe_glob (v := .int ((10 : Int) ^ (30 : Int).toNat)) (by rfl) hWide ⟨_, rfl⟩) (pa_cons (pe_callB (len_seqK (K := K) rfl) (by rfl) T.look.len PySem.boot_len (pa_cons (pv 1) pa_nil)) pa_nil)))))) pa_nil)))))), ?_⟩
    refine ⟨_, rfl, x, d, 300, rfl, hd, (by decide), fun H1 s1 => ⟨_, rfl, ?_⟩⟩
    by_cases y : frmD 300 d = true
    · refine ite2 (fun u => absurd u (by rw [y]; decide)) (fun _ => ?_)
      obtain ⟨a, u, v, c, b, l, ss, xs, rfl, rfl, hS, hS2, hA, hall, hl1, hl2⟩ := frm_of hd y
      refine ⟨_, rfl, _, _, 2, _, rfl, rfl, same_tup s1 hS, rfl, ?_⟩
      have sS := same_tup s1 hS2
      have ln := hA.len
      refine ⟨_, rfl, c, rfl, ⟨xs, sS⟩, fun D nD => ?_⟩
      refine lc_tupO (xs := xs) (fun i H' => Same H1 H' ∧ H' D = some (.lst (((ss.take i).flatMap fun st => (elems st).map (pairD ((10 : Int) ^ (30 : Int).toNat) (ss.length : Int))).map V.bl))) ⟨same_upd nD, upd_same⟩ (fun i H' h => same_tup h.1 sS) ?_ ?_
      · rintro i u2 H' hu ⟨sm, hD⟩
        obtain ⟨e, he, re⟩ := hA.at hu
        obtain ⟨es, rfl, le⟩ := hall e (List.mem_of_getElem? he)
        obtain ⟨a2, ys, rfl, hS3, hA3⟩ := re.isTup
        have s13 := s1.trans sm
        refine ⟨rfl, ?_⟩
        refine ⟨_, rfl, a2, rfl, ⟨ys, same_tup s13 hS3⟩, ?_⟩
        refine lc_tupO (xs := ys) (fun j H2 => Same H1 H2 ∧ H2 D = some (.lst ((((ss.take i).flatMap fun st => (elems st).map (pairD ((10 : Int) ^ (30 : Int).toNat) (ss.length : Int))) ++ (es.take j).map (pairD ((10 : Int) ^ (30 : Int).toNat) (ss.length : Int))).map V.bl))) ⟨sm, by rw [hD]; simp⟩ (fun j H2 h => same_tup (s1.trans h.1) hS3) ?_ ?_
        · rintro j u3 H2 hu3 ⟨sm2, hD2⟩
          obtain ⟨e3, he3, re3⟩ := hA3.at hu3
          have bound : ((((ss.take i).flatMap fun st => (elems st).map (pairD ((10 : Int) ^ (30 : Int).toNat) (ss.length : Int))) ++ (es.take j).map (pairD ((10 : Int) ^ (30 : Int).toNat) (ss.length : Int))).map V.bl).length < sizeLine := by
            have h1 := flat_len (g := fun st => (elems st).map (pairD ((10 : Int) ^ (30 : Int).toNat) (ss.length : Int))) (n := 3) (ss.take i) fun x hx => by
              obtain ⟨es', rfl, le'⟩ := hall x (List.mem_of_mem_take hx)
              rw [List.length_map]
              exact le'
            have h2 := List.length_take_le' i ss
            have h3 := List.length_take_le' j es
            rw [List.length_map, List.length_append, List.length_map]
            exact Nat.lt_of_le_of_lt (show _ ≤ 1000 by omega) (by decide)
          refine ⟨rfl, ?_⟩
          refine ⟨_, rfl, _, rfl, c, xs, rfl, .inr (same_tup sm2 sS), u3, e3, _, _, rfl, re3.go (s1.trans sm2), _, hD2, bound, same_new sm2 nD, ?_⟩
          rw [upd_same, take_all he3, ln]
          simp only [List.map_append, List.map_cons, List.map_nil, List.append_assoc]
        · rintro H2 ⟨sm2, hD2⟩
          refine ⟨sm2, ?_⟩
          rw [hD2, hA3.len, List.take_length, take_flat he]
          rfl
      · rintro H' ⟨sm, hD⟩
        have q1 := q H' (s1.trans sm)
        refine ⟨D, _, rfl, SqL.of hD, ?_⟩
        rw [ln, List.take_length]
        rw [plnD, y, Bool.true_and] at q1
        exact q1
    · refine ite2 (fun _ => ?_) (fun u => absurd (by rw [eq_false_of_ne_true y]; rfl) u)
      have q1 := q H1 s1
      rw [plnD_not y] at q1
      exact q1
theorem ok_choice (T : MachTxt K mg m1 m2 m3 m4 m5 m6 m7 m8 m9 m10 m11 m12 n1 n2 n3 n4 n5 n6 n7 n8 n9 n10 n11 n12 t1 t2 t3 t4 t5) {k : Nat} : FnOk P w K mg base CX0 (k + 4) m9 n9 ["thing", "many"] (spChoice K) := by
  have GT : FnOk P w K mg base CX0 (k + 3) m3 n3 ["thing", "least", "most"] (spTuple K) := ok_tuple T.look
  have GP : FnOk P w K mg base CX0 (k + 3) m5 n5 ["thing", "most", "many"] (spPair K) := ok_pair T
  refine T.FChoice.ok scChoice (fun vs H Q E h => ?_) (fun cdv A outer s H vs Q E hr h => ?_)
  · obtain ⟨x, d, many, rfl, _⟩ := h
    rfl
  · obtain ⟨x, d, many, rfl, hd, q⟩ := h
    have hu : (A.deeper (envOfC "is_choice" (defScope sChoice) s.heap.objs.size m9 cdv)).units + 64 < cLine := by have := hr.un; omega
    refine ⟨_, (pss_cons (ps_if (pt_not (pt_val (pe_call GT hr (by rfl) T.look.gTuple T.look.FTuple.kp T.look.bTuple .nil pass0 (pa_cons (pv 0) (pa_cons pe_int (pa_cons (pe_glob (v := .int 3) (by rfl) T.mPairs ⟨_, rfl⟩) pa_nil)))))) (pss_one (ps_ret pe_bl)) pss_nil)
 (pss_one (ps_ret (pe_and (pe_callB (cr_all rfl) (by rfl) T.look.all (by decide +kernel) (pa_cons (pe_lc (own := [("pair", 2)]) (g := gName 2) (tt := tYes) (by rfl) scChoice.nd (pi_tup (pv 0)) (blkOk_by (N := ["thing", "many", "pair"]) (sc := defScope sChoice) (by decide +kernel)) (fun _ _ _ _ _ => pg_name (i := 2) scChoice.nd rfl (Or.inl rfl)) (fun _ _ _ _ _ => pts_nil) (fun _ _ _ _ _ => (pe_call GP hr (by rfl) T.gPair T.FPair.kp T.bPair .nil pass0 (pa_cons (pv 2) (pa_cons (pe_glob (v := .int 20) (by rfl) T.mPay ⟨_, rfl⟩) (pa_cons (pv 1) pa_nil)))))) pa_nil)) (pe_one (pe_cmpR op_eq (pe_lenSetT rfl hu (by rfl) T.look.len (by rfl) T.set (pv 0)) (pe_callB call_len_seq (by rfl) T.look.len PySem.boot_len (pa_cons (pv 0) pa_nil)) (nomark _))))))), ?_⟩
    refine ⟨_, rfl, x, d, 1, 3, rfl, hd, _, rfl, ?_⟩
    by_cases y : tupD 1 3 d = true
    · refine ite2 (fun u => absurd u (by rw [y]; decide)) (fun _ => ?_)
      obtain ⟨a, xs, ds, rfl, rfl, hS, hA, l1, l2⟩ := tup_of hd y
      have ln := hA.len
      refine ⟨_, rfl, a, rfl, ⟨xs, hS⟩, fun D nD => ?_⟩
      refine lc_tupO (xs := xs) (fun j H' => Same H H' ∧ H' D = some (.lst (((ds.take j).map (pairD 20 many)).map V.bl))) ⟨same_upd nD, upd_same⟩ (fun i H' h => same_tup h.1 hS) ?_ ?_
      · rintro i u H' hu ⟨sm, hD⟩
        obtain ⟨e, he, re⟩ := hA.at hu
        refine ⟨rfl, ?_⟩
        refine ⟨_, rfl, _, rfl, u, e, _, _, rfl, re.go sm, _, hD, ?_, same_new sm nD, ?_⟩
        · rw [List.length_map, List.length_map]
          have := List.length_take_le' i ds
          exact Nat.lt_of_le_of_lt (show _ ≤ 1000 by omega) (by decide)
        · rw [upd_same, take_all he, List.map_append]
          rfl
      · rintro H' ⟨sm, hD⟩
        have q1 := q H' sm
        rw [chD, y, Bool.true_and] at q1
        refine ⟨D, _, rfl, SqL.of hD, _, rfl, ?_⟩
        rw [ln, List.take_length, all_map]
        refine ite2 (fun z => ?_) (fun z => ?_)
        · rw [z, Bool.true_and] at q1
          obtain ⟨ks, rfl, hk, ek⟩ := pairs_of hA fun e he => List.all_eq_true.mp z e he
          have sS := same_tup sm hS
          rw [List.length_map] at ln
          refine ⟨_, rfl, a, ks, rfl, sS, fun p hp => same_tup sm (hk p hp), by omega, fun n hn => ?_⟩
          refine ⟨_, rfl, a, _, rfl, .inr sS, rfl, ?_⟩
          rw [List.length_map]
          rw [ek] at hn
          by_cases nd : (ds.map keyD).Nodup
          · rw [decide_eq_true nd] at q1
            rw [hn.mpr nd, decide_eq_true rfl]
            exact q1
          · rw [decide_eq_false nd] at q1
            rw [decide_eq_false (fun e => nd (hn.mp (by have := V.int.inj e; omega)))]
            exact q1
        · rw [eq_false_of_ne_true z, Bool.false_and] at q1
          exact q1
    · refine ite2 (fun _ => ?_) (fun u => absurd (by rw [eq_false_of_ne_true y]; rfl) u)
      have q1 := q H (Same.refl H)
      rw [chD_not y] at q1
      exact q1
theorem ok_machine (T : MachTxt K mg m1 m2 m3 m4 m5 m6 m7 m8 m9 m10 m11 m12 n1 n2 n3 n4 n5 n6 n7 n8 n9 n10 n11 n12 t1 t2 t3 t4 t5) {k : Nat} : FnOk P w K mg base CX0 (k + 5) m10 n10 ["thing"] (spMachine K) := by
  have GF : FnOk P w K mg base CX0 (k + 4) m8 n8 ["thing", "most"] (spFrame K) := ok_frame T
  have GC : FnOk P w K mg base CX0 (k + 4) m9 n9 ["thing", "many"] (spChoice K) := ok_choice T
  refine T.FMachine.ok scMachine (fun vs H Q E h => ?_) (fun cdv A outer s H vs Q E hr h => ?_)
  · obtain ⟨x, d, rfl, _⟩ := h
    rfl
  · obtain ⟨x, d, rfl, hd, q⟩ := h
    refine ⟨_, (pss_cons (ps_if (pt_not (pt_val (pe_call GF hr (by rfl) T.gFrame T.FFrame.kp T.bFrame .nil pass0 (pa_cons (pv 0) (pa_cons (pe_glob (v := .int 4) (by rfl) T.look.mStates ⟨_, rfl⟩) pa_nil))))) (pss_one (ps_ret pe_bl)) pss_nil)
 (pss_cons (ps_set (i := 1) scMachine.nd rfl (.inr rfl) (pe_ix ix_tup (pv 0) pe_int (fun _ _ => rfl)))
 (pss_one (ps_ret (pe_callB (cr_all rfl) (by rfl) T.look.all (by decide +kernel) (pa_cons (pe_lc2 (own := [("state", 2), ("choice", 3)]) (vs1 := [3]) (g := gName 2) (g1 := gName 3) (tt := tYes) (tt1 := tYes) (by rfl) scMachine.nd (pi_tup (pv 1)) (blkOk_by (N := ["thing", "states", "state", "choice"]) (sc := defScope sMachine) (by decide +kernel)) (by decide) (fun _ _ _ _ _ => pg_name (i := 2) scMachine.nd rfl (Or.inl rfl)) (fun _ _ _ _ _ => pts_nil) (fun _ _ _ _ _ => (pi_tupK (K := K) rfl (pv 2))) (fun _ _ _ _ _ => pg_name (i := 3) scMachine.nd rfl (Or.inl rfl)) (fun _ _ _ _ _ => pts_nil) (fun _ _ _ _ _ => (pe_call GC hr (by rfl) T.gChoice T.FChoice.kp T.bChoice .nil pass0 (pa_cons (pv 3) (pa_cons (pe_callB (len_seqK (K := K) rfl) (by rfl) T.look.len PySem.boot_len (pa_cons (pv 1) pa_nil)) pa_nil))))) pa_nil)))))), ?_⟩
    refine ⟨_, rfl, x, d, 4, rfl, hd, (by decide), fun H1 s1 => ⟨_, rfl, ?_⟩⟩
    by_cases y : frmD 4 d = true
    · refine ite2 (fun u => absurd u (by rw [y]; decide)) (fun _ => ?_)
      obtain ⟨a, u, v, c, b, l, ss, xs, rfl, rfl, hS, hS2, hA, hall, hl1, hl2⟩ := frm_of hd y
      refine ⟨_, rfl, _, _, 2, _, rfl, rfl, same_tup s1 hS, rfl, ?_⟩
      have sS := same_tup s1 hS2
      have ln := hA.len
      refine ⟨_, rfl, c, rfl, ⟨xs, sS⟩, fun D nD => ?_⟩
      refine lc_tupO (xs := xs) (fun i H' => Same H1 H' ∧ H' D = some (.lst (((ss.take i).flatMap fun st => (elems st).map (chD (ss.length : Int))).map V.bl))) ⟨same_upd nD, upd_same⟩ (fun i H' h => same_tup h.1 sS) ?_ ?_
      · rintro i u2 H' hu ⟨sm, hD⟩
        obtain ⟨e, he, re⟩ := hA.at hu
        obtain ⟨es, rfl, le⟩ := hall e (List.mem_of_getElem? he)
        obtain ⟨a2, ys, rfl, hS3, hA3⟩ := re.isTup
        have s13 := s1.trans sm
        refine ⟨rfl, ?_⟩
        refine ⟨_, rfl, a2, rfl, ⟨ys, same_tup s13 hS3⟩, ?_⟩
        refine lc_tupO (xs := ys) (fun j H2 => Same H1 H2 ∧ H2 D = some (.lst ((((ss.take i).flatMap fun st => (elems st).map (chD (ss.length : Int))) ++ (es.take j).map (chD (ss.length : Int))).map V.bl))) ⟨sm, by rw [hD]; simp⟩ (fun j H2 h => same_tup (s1.trans h.1) hS3) ?_ ?_
        · rintro j u3 H2 hu3 ⟨sm2, hD2⟩
          obtain ⟨e3, he3, re3⟩ := hA3.at hu3
          have bound : ((((ss.take i).flatMap fun st => (elems st).map (chD (ss.length : Int))) ++ (es.take j).map (chD (ss.length : Int))).map V.bl).length < sizeLine := by
            have h1 := flat_len (g := fun st => (elems st).map (chD (ss.length : Int))) (n := 3) (ss.take i) fun x hx => by
              obtain ⟨es', rfl, le'⟩ := hall x (List.mem_of_mem_take hx)
              rw [List.length_map]
              exact le'
            have h2 := List.length_take_le' i ss
            have h3 := List.length_take_le' j es
            rw [List.length_map, List.length_append, List.length_map]
            exact Nat.lt_of_le_of_lt (show _ ≤ 1000 by omega) (by decide)
          refine ⟨rfl, ?_⟩
          refine ⟨_, rfl, _, rfl, c, xs, rfl, .inr (same_tup sm2 sS), u3, e3, _, rfl, re3.go (s1.trans sm2), fun H3 s3 => ⟨_, s3 _ _ hD2, bound, same_new (sm2.trans s3) nD, ?_⟩⟩
          rw [upd_same, take_all he3, ln]
          simp only [List.map_append, List.map_cons, List.map_nil, List.append_assoc]
        · rintro H2 ⟨sm2, hD2⟩
          refine ⟨sm2, ?_⟩
          rw [hD2, hA3.len, List.take_length, take_flat he]
          rfl
      · rintro H' ⟨sm, hD⟩
        have q1 := q H' (s1.trans sm)
        refine ⟨D, _, rfl, SqL.of hD, ?_⟩
        rw [ln, List.take_length]
        rw [mchD, y, Bool.true_and] at q1
        exact q1
    · refine ite2 (fun _ => ?_) (fun u => absurd (by rw [eq_false_of_ne_true y]; rfl) u)
      have q1 := q H1 s1
      rw [mchD_not y] at q1
      exact q1
end
end My
/-! ### what arguments have to be -/
namespace My
open PySem PySem.Spec PyProof.Rows L2
abbrev sNeedMachine : Stmt := topS 37
abbrev sWith : Stmt := topS 26
theorem scNeedMachine : FnScope ["thing", "name"] ["thing", "name"] (defScope sNeedMachine) := ⟨rfl, rfl, rfl, by decide +kernel, rfl, by decide +kernel, by decide +kernel⟩
theorem scWith : FnScope ["plain", "base", "letters", "states", "state", "pair"] ["plain"] (defScope sWith) := ⟨rfl, rfl, rfl, by decide +kernel, rfl, by decide +kernel, by decide +kernel⟩
/-- an own class of errors over ValueError, without an __init__ -/
structure ExcF (K : PySem.W.Frag) (mg : Str → Option Value) (x : Str) (C : Addr) : Prop where
  g : mg x = some (.ref C)
  q : PySem.W.excIn K C [.type "ValueError", .type "Exception", .type "BaseException", .type "object"] "ValueError.__new__" = true
  k : PySem.W.keepIn K (.ref C) = true
  b : PySem.W.subIn K (.ref C) (.type "BaseException") = some true
  t : PySem.W.typeIn K (.ref C) = some (.type "type")
structure FrmTxt (K : PySem.W.Frag) (mg : Str → Option Value) (m1 m2 m3 m4 m5 m6 m7 m8 m9 m10 m11 m12 : Addr) (n1 n2 n3 n4 n5 n6 n7 n8 n9 n10 n11 n12 : FuncData) (t1 t2 t3 t4 t5 : Tok) (CM a1 a3 : Addr) (b1 b3 : FuncData) : Prop where
  mach : MachTxt K mg m1 m2 m3 m4 m5 m6 m7 m8 m9 m10 m11 m12 n1 n2 n3 n4 n5 n6 n7 n8 n9 n10 n11 n12 t1 t2 t3 t4 t5
  noMachine : ExcF K mg "NoMachine" CM
  FNeedMachine : Fun K "need_machine" "need_machine" sNeedMachine a1 b1
  bNeedMachine : Binds K b1 ["thing", "name"] []
  gNeedMachine : mg "need_machine" = some (.ref a1)
  FWith : Fun K "with_choices" "with_choices" sWith a3 b3
  bWith : Binds K b3 ["plain"] []
  gWith : mg "with_choices" = some (.ref a3)
/-- a plain machine with choices of one pair -/
def withD : PyData → PyData
  | .tuple [b, l, .tuple ss] => .tuple [b, l, .tuple (ss.map fun st => .tuple ((elems st).map fun pr => .tuple [pr]))]
  | d => d
def spWith (K : PySem.W.Frag) : Sp := fun vs H Q _ => ∃ x d, vs = [x] ∧ Rp K H x d ∧ plnD d = true ∧ ∀ H' t, Same H H' → Rp K H' (.ref t) (withD d) → Q (.ref t) H'
theorem call_tuple_ofK {X : Cx} {K : PySem.W.Frag} (e : X.K = K) : CallR X (.type "tuple") (fun xs H Q => ∃ p ys, xs = [.ref p] ∧ ((SqL K H p ys ∧ ∀ l, H l = none → Q (.ref l) (upd H l (.tup ys))) ∨ (SqT K H p ys ∧ Q (.ref p) H))) := by
  subst e
  exact call_tuple_of
/-! new tuples over data that stands -/
def ButU (H H' : Hp) : Prop := ∀ b xs, H b = some (.tup xs) → H' b = some (.tup xs)
theorem butU_same {H H' : Hp} (s : Same H H') : ButU H H' := fun b xs e => s b _ e
theorem butU_lst {S : Addr} {ys : List V} {o : HO} {H : Hp} (h : H S = some (.lst ys)) : ButU H (upd H S o) := fun b xs e => by
  rw [upd_ne (ne_of e h (by intro z; cases z))]
  exact e
mutual
inductive Rk (K : PySem.W.Frag) (H0 H : Hp) : V → PyData → Prop
  | base {v : V} {d : PyData} (h : Rp K H0 v d) : Rk K H0 H v d
  | tup {a : Addr} {xs : List V} {ds : List PyData} (h : H a = some (.tup xs)) (t : RkAll K H0 H xs ds) : Rk K H0 H (.ref a) (.tuple ds)
inductive RkAll (K : PySem.W.Frag) (H0 H : Hp) : List V → List PyData → Prop
  | nil : RkAll K H0 H [] []
  | cons {v : V} {d : PyData} {vs : List V} {ds : List PyData} (h : Rk K H0 H v d) (t : RkAll K H0 H vs ds) : RkAll K H0 H (v :: vs) (d :: ds)
end
mutual
theorem Rk.go {K : PySem.W.Frag} {H0 H H' : Hp} (s : ButU H H') : ∀ {v : V} {d : PyData}, Rk K H0 H v d → Rk K H0 H' v d
  | _, _, .base h => .base h
  | _, _, .tup h t => .tup (s _ _ h) (RkAll.go s t)
theorem RkAll.go {K : PySem.W.Frag} {H0 H H' : Hp} (s : ButU H H') : ∀ {vs : List V} {ds : List PyData}, RkAll K H0 H vs ds → RkAll K H0 H' vs ds
  | _, _, .nil => .nil
  | _, _, .cons h t => .cons (Rk.go s h) (RkAll.go s t)
end
mutual
theorem Rk.rp {K : PySem.W.Frag} {H0 H : Hp} (s : Same H0 H) : ∀ {v : V} {d : PyData}, Rk K H0 H v d → Rp K H v d
  | _, _, .base h => h.go s
  | _, _, .tup h t => .tup (SqT.of h) (RkAll.rp s t)
theorem RkAll.rp {K : PySem.W.Frag} {H0 H : Hp} (s : Same H0 H) : ∀ {vs : List V} {ds : List PyData}, RkAll K H0 H vs ds → RpAll K H vs ds
  | _, _, .nil => .nil
  | _, _, .cons h t => .cons (Rk.rp s h) (RkAll.rp s t)
end
theorem RkAll.snoc {K : PySem.W.Frag} {H0 H : Hp} {v : V} {d : PyData} : ∀ {vs : List V} {ds : List PyData}, RkAll K H0 H vs ds → Rk K H0 H v d → RkAll K H0 H (vs ++ [v]) (ds ++ [d])
  | _, _, .nil, h => .cons h .nil
  | _, _, .cons a t, h => .cons a (t.snoc h)
theorem frm_of2 {K : PySem.W.Frag} {H : Hp} {x : V} {d : PyData} {most : Int} (h : Rp K H x d) (z : frmD most d = true) : ∃ a u v c b l ss xs, x = .ref a ∧ d = .tuple [b, l, .tuple ss] ∧ SqT K H a [u, v, .ref c] ∧ SqT K H c xs ∧ RpAll K H xs ss ∧ (∀ e ∈ ss, ∃ es, e = .tuple es ∧ es.length ≤ 3) ∧ (ss.length : Int) ≤ most ∧ Rp K H u b ∧ Rp K H v l := by
  by_cases y : tupD 3 3 d = true
  · obtain ⟨a, xs, ds, rfl, rfl, hS, hA, l1, l2⟩ := tup_of h y
    obtain ⟨u, v, t, b, l, e, rfl, rfl, hb, hl, he⟩ := hA.three (by omega)
    rw [frmD, Bool.and_eq_true, Bool.and_eq_true] at z
    have ht := tabD_tup z.2.2
    have hlen := ltrD_len z.2.1
    obtain ⟨c, ys, ss, rfl, rfl, hS2, hA2, l3, l4⟩ := tup_of he ht.1
    refine ⟨a, u, v, c, b, l, ss, ys, rfl, rfl, hS, hS2, hA2, fun e he => ?_, l4, hb, hl⟩
    have := ht.2 e he
    cases e with
    | tuple es =>
      rw [tupD, Bool.and_eq_true, decide_eq_true_eq, decide_eq_true_eq] at this
      exact ⟨es, rfl, by omega⟩
    | _ => exact absurd this (by simp [tupD])
  · rw [frmD_not y] at z
    cases z
def choD (st : PyData) : PyData := .tuple ((elems st).map fun pr => .tuple [pr])
/-- the frame: the machine itself, or the plain one with choices of one pair -/
def spNeedMachine (K : PySem.W.Frag) (CM : Addr) : Sp := fun vs H Q E => ∃ x d nm, vs = [x, .str nm] ∧ Rp K H x d ∧ nm.length ≤ 100 ∧
  ((mchD d = true ∧ ∀ H', Same H H' → Q x H') ∨ (mchD d = false ∧ plnD d = true ∧ ∀ H' t, Same H H' → Rp K H' (.ref t) (withD d) → Q (.ref t) H') ∨ (mchD d = false ∧ plnD d = false ∧ ∀ H', Same H H' → E (.ref CM) none H'))
section
variable {P : Program} {w : World} {K : PySem.W.Frag} {mg : Str → Option Value} {base : Heap} {m1 m2 m3 m4 m5 m6 m7 m8 m9 m10 m11 m12 : Addr} {n1 n2 n3 n4 n5 n6 n7 n8 n9 n10 n11 n12 : FuncData} {t1 t2 t3 t4 t5 t6 t7 : Tok} {r2 : Addr} {v2 : FuncData} {CM CW a1 a2 a3 : Addr} {b1 b2 b3 : FuncData}
theorem ok_with (T : FrmTxt K mg m1 m2 m3 m4 m5 m6 m7 m8 m9 m10 m11 m12 n1 n2 n3 n4 n5 n6 n7 n8 n9 n10 n11 n12 t1 t2 t3 t4 t5 CM a1 a3 b1 b3) {k : Nat} : FnOk P w K mg base CX0 (k + 1) a3 b3 ["plain"] (spWith K) := by
  refine T.FWith.ok scWith (fun vs H Q E h => ?_) (fun cdv A outer s H vs Q E hr h => ?_)
  · obtain ⟨x, d, rfl, _⟩ := h
    rfl
  · obtain ⟨x, d, rfl, hd, hp, q⟩ := h
    refine ⟨_, (pss_cons (ps_asg (pv 0) (pg_tup rfl (pgs_cons (pg_name (i := 1) scWith.nd rfl (.inl rfl)) (pgs_cons (pg_name (i := 2) scWith.nd rfl (.inl rfl)) (pgs_cons (pg_name (i := 3) scWith.nd rfl (.inl rfl)) pgs_nil)))))
 (pss_one (ps_ret (pe_tup (pa_cons (pv 1) (pa_cons (pv 2) (pa_cons (pe_callTy (call_tuple_ofK (K := K) rfl) (by rfl) T.mach.look.tuple (by decide +kernel) (pa_cons (pe_lc (own := [("state", 4)]) (g := gName 4) (tt := tYes) (by rfl) scWith.nd (pi_tup (pv 3)) (blkOk_by (N := ["plain", "base", "letters", "states", "state", "pair"]) (sc := defScope sWith) (by decide +kernel)) (fun _ _ _ _ _ => pg_name (i := 4) scWith.nd rfl (Or.inl rfl)) (fun _ _ _ _ _ => pts_nil) (fun _ _ _ _ _ => (pe_callTy (call_tuple_ofK (K := K) rfl) (by rfl) T.mach.look.tuple (by decide +kernel) (pa_cons (pe_lc (own := [("pair", 5)]) (g := gName 5) (tt := tYes) (by rfl) scWith.nd (pi_tupK (K := K) rfl (pv 4)) (blkOk_by (N := ["plain", "base", "letters", "states", "state", "pair"]) (sc := { kind := ScopeKind.function, names := [(".0", NameKind.local), ("state", NameKind.local), ("tuple", NameKind.globalImplicit)], isGenerator := false, isCoroutine := false }) (by decide +kernel)) (fun _ _ _ _ _ => pg_name (i := 5) scWith.nd rfl (Or.inl rfl)) (fun _ _ _ _ _ => pts_nil) (fun _ _ _ _ _ => (pe_tup (pa_cons (pv 5) pa_nil)))) pa_nil)))) pa_nil)) pa_nil))))))), ?_⟩
    have y : frmD 300 d = true := by
      cases e : frmD 300 d with
      | true => rfl
      | false =>
        rw [plnD_not (by rw [e]; decide)] at hp
        cases hp
    obtain ⟨a, u, v, c, b, l, ss, xs, rfl, rfl, hS, hS2, hA, hall, hl2, hb, hl⟩ := frm_of2 hd y
    have ln := hA.len
    refine ⟨_, rfl, a, _, rfl, hS, rfl, u, [v, .ref c], rfl, v, [.ref c], rfl, .ref c, [], rfl, rfl, ?_⟩
    refine ⟨_, rfl, _, rfl, _, rfl, c, rfl, ⟨xs, hS2⟩, fun D nD => ?_⟩
    refine lc_tupO (xs := xs) (fun i H' => Same H H' ∧ ∃ us, H' D = some (.lst us) ∧ us.length = i ∧ RkAll K H H' us ((ss.take i).map choD)) ⟨same_upd nD, [], upd_same, rfl, .nil⟩ (fun i H' h => same_tup h.1 hS2) ?_ ?_
    · rintro i u2 H' hu ⟨sm, us, hD, lu, hU⟩
      obtain ⟨e, he, re⟩ := hA.at hu
      obtain ⟨es, rfl, le⟩ := hall e (List.mem_of_getElem? he)
      obtain ⟨a2, ys, rfl, hS3, hA3⟩ := re.isTup
      refine ⟨rfl, ?_⟩
      refine ⟨_, rfl, a2, rfl, ⟨ys, same_tup sm hS3⟩, fun D2 nD2 => ?_⟩
      have nDD : D ≠ D2 := ne_of_none hD nD2
      refine lc_tupO (xs := ys) (fun j H2 => Same H' H2 ∧ ∃ ws, H2 D2 = some (.lst ws) ∧ ws.length = j ∧ RkAll K H H2 ws ((es.take j).map fun pr => .tuple [pr])) ⟨same_upd nD2, [], upd_same, rfl, .nil⟩ (fun j H2 h => same_tup (sm.trans h.1) hS3) ?_ ?_
      · rintro j u3 H2 hu3 ⟨s2, ws, hD2, lw, hW⟩
        obtain ⟨e3, he3, re3⟩ := hA3.at hu3
        refine ⟨rfl, ?_⟩
        refine ⟨_, rfl, (by show 1 ≤ sizeLine; decide), fun t ht => ?_⟩
        have xt := same_upd (o := HO.tup [u3]) ht
        have hD2t := xt _ _ hD2
        have bt := butU_lst (o := HO.lst (ws ++ [V.ref t])) hD2t
        have jl : j < es.length := by
          have := (List.getElem?_eq_some_iff.mp he3).1
          exact this
        refine ⟨_, hD2t, Nat.lt_of_le_of_lt (show _ ≤ 1000 by omega) (by decide), same_new (s2.trans xt) nD2, ws ++ [V.ref t], upd_same, by rw [List.length_append, lw]; rfl, ?_⟩
        rw [List.take_succ, he3, List.map_append]
        exact ((hW.go (butU_same xt)).go bt).snoc (.tup (bt _ _ upd_same) (.cons (.base re3) .nil))
      · rintro H2 ⟨s2, ws, hD2, lw, hW⟩
        rw [hA3.len, List.take_length] at hW
        refine ⟨D2, _, rfl, .inl ⟨SqL.of hD2, fun t ht => ?_⟩⟩
        have xt := same_upd (o := HO.tup ws) ht
        have hDt := xt _ _ (s2 _ _ hD)
        have bt := butU_lst (o := HO.lst (us ++ [V.ref t])) hDt
        have il : i < ss.length := (List.getElem?_eq_some_iff.mp he).1
        refine ⟨_, hDt, Nat.lt_of_le_of_lt (show _ ≤ 1000 by omega) (by decide), same_new (sm.trans (s2.trans xt)) nD, us ++ [V.ref t], upd_same, by rw [List.length_append, lu]; rfl, ?_⟩
        rw [List.take_succ, he, List.map_append]
        exact ((hU.go (butU_same (s2.trans xt))).go bt).snoc (.tup (bt _ _ upd_same) ((hW.go (butU_same xt)).go bt))
    · rintro H' ⟨sm, us, hD, lu, hU⟩
      rw [ln, List.take_length] at hU
      refine ⟨D, _, rfl, .inl ⟨SqL.of hD, fun t ht => ⟨(by show 3 ≤ sizeLine; decide), fun t2 ht2 => ?_⟩⟩⟩
      have xt := same_upd (o := HO.tup us) ht
      have xt2 := same_upd (o := HO.tup [u, v, V.ref t]) ht2
      have s4 := sm.trans (xt.trans xt2)
      exact q _ t2 s4 (.tup (SqT.of upd_same) (.cons (hb.go s4) (.cons (hl.go s4) (.cons (.tup (SqT.of (xt2 _ _ upd_same)) ((hU.go (butU_same (xt.trans xt2))).rp s4)) .nil))))
theorem ok_needMachine (T : FrmTxt K mg m1 m2 m3 m4 m5 m6 m7 m8 m9 m10 m11 m12 n1 n2 n3 n4 n5 n6 n7 n8 n9 n10 n11 n12 t1 t2 t3 t4 t5 CM a1 a3 b1 b3) {k : Nat} : FnOk P w K mg base (L2.CX P w) (k + 6) a1 b1 ["thing", "name"] (spNeedMachine K CM) := by
  have GM : FnOk P w K mg base CX0 (k + 5) m10 n10 ["thing"] (spMachine K) := ok_machine T.mach
  have GP : FnOk P w K mg base CX0 (k + 5) m11 n11 ["thing"] (spPlain K) := ok_plain T.mach (k := k + 1)
  have GW : FnOk P w K mg base CX0 (k + 5) a3 b3 ["plain"] (spWith K) := ok_with T (k := k + 4)
  refine T.FNeedMachine.okX scNeedMachine (fun vs H Q E h => ?_) (fun cdv A outer s H vs Q E hr h => ?_)
  · obtain ⟨x, d, nm, rfl, _⟩ := h
    rfl
  · obtain ⟨x, d, nm, rfl, hd, hn, h⟩ := h
    refine ⟨_, (pss_cons (ps_if (pt_val (pe_call GM hr (by rfl) T.mach.gMachine T.mach.FMachine.kp T.mach.bMachine .nil pass0 (pa_cons (pv 0) pa_nil))) (pss_one (ps_ret (pv 0))) pss_nil)
 (pss_cons (ps_if (pt_not (pt_val (pe_call GP hr (by rfl) T.mach.gPlain T.mach.FPlain.kp T.mach.bPlain .nil pass0 (pa_cons (pv 0) pa_nil)))) (pss_one (ps_raise rfl (takes_of rfl rfl rfl rfl) (SkE.pmk_own1 PySem.F.excBase_ValueError T.noMachine.q T.noMachine.g T.noMachine.k (raises_own T.noMachine.b T.noMachine.t) (by exact rfl) (pe_joined (.cons (pe_fmt (pv 1)) (.cons pe_str .nil)))))) pss_nil)
 (pss_one (ps_ret (pe_call GW hr (by rfl) T.gWith T.FWith.kp T.bWith .nil pass0 (pa_cons (pv 0) pa_nil)))))), ?_⟩
    refine ⟨_, rfl, x, d, rfl, hd, fun H1 s1 => ⟨_, rfl, ?_⟩⟩
    rcases h with ⟨zm, q⟩ | ⟨zm, zp, q⟩ | ⟨zm, zp, q⟩
    · exact ite2 (fun _ => ⟨_, rfl, q H1 s1⟩) (fun u => absurd zm u)
    · refine ite2 (fun u => absurd u (by rw [zm]; decide)) (fun _ => ?_)
      refine ⟨_, rfl, x, d, rfl, hd.go s1, fun H2 s2 => ⟨_, rfl, ite2 (fun u => absurd u (by rw [zp]; decide)) (fun _ => ?_)⟩⟩
      exact ⟨_, rfl, x, d, rfl, (hd.go s1).go s2, zp, fun H3 t s3 r3 => q H3 t (s1.trans (s2.trans s3)) r3⟩
    · refine ite2 (fun u => absurd u (by rw [zm]; decide)) (fun _ => ?_)
      refine ⟨_, rfl, x, d, rfl, hd.go s1, fun H2 s2 => ⟨_, rfl, ite2 (fun _ => ?_) (fun u => absurd (by rw [zp]; rfl) u)⟩⟩
      have big : 1000 ≤ sizeLine := by decide
      have ap : ∀ a b : Str, (a ++ b).length = a.length + b.length := fun a b => Array.size_append
      have l1 : (Str.empty ++ nm).length ≤ 100 := by
        rw [ap]
        show 0 + nm.length ≤ 100
        omega
      refine ⟨_, rfl, .inl ⟨nm, rfl, Nat.le_trans hn (by decide), nm, rfl, by omega, _, rfl, ?_, q H2 (s1.trans s2)⟩⟩
      rw [ap]
      refine Nat.le_trans (show _ ≤ 200 from ?_) (by decide)
      have l2 : (Str.ofString " is neither a machine nor a plain machine").length ≤ 100 := by decide +kernel
      omega
end
end My
namespace My
/-! ### dicts of ints, as lists of pairs -/
abbrev Dk := List (Int × Int)
def getI (d : Dk) (k : Int) : Option Int := (d.find? fun kv => decide (kv.1 = k)).map (·.2)
def putI (d : Dk) (k v : Int) : Dk := if (d.any fun kv => decide (kv.1 = k)) = true then d.map (fun kv => if kv.1 = k then (kv.1, v) else kv) else d ++ [(k, v)]
def upMax (d : Dk) (k v : Int) : Dk := match getI d k with
  | none => putI d k v
  | some w => if w < v then putI d k v else d
theorem getI_nil {k : Int} : getI [] k = none := rfl
theorem getI_cons (p : Int × Int) (r : Dk) (k : Int) : getI (p :: r) k = if p.1 = k then some p.2 else getI r k := by
  unfold getI
  rw [List.find?_cons]
  by_cases e : p.1 = k <;> simp [e]
theorem getI_any (k : Int) : ∀ d : Dk, (d.any fun kv => decide (kv.1 = k)) = (getI d k).isSome
  | [] => rfl
  | p :: r => by
    rw [List.any_cons, getI_cons, getI_any k r]
    by_cases e : p.1 = k <;> simp [e]
theorem getI_map (k j y : Int) : ∀ d : Dk, getI (d.map fun kv => if kv.1 = k then (kv.1, y) else kv) j = (getI d j).map fun x => if j = k then y else x
  | [] => rfl
  | p :: r => by
    rw [List.map_cons, getI_cons, getI_cons, getI_map k j y r]
    by_cases h : p.1 = k
    · rw [if_pos h]
      by_cases e : p.1 = j
      · simp [e, ← h]
      · simp [e]
    · rw [if_neg h]
      by_cases e : p.1 = j
      · have : ¬ j = k := fun z => h (e.trans z)
        simp [e, this]
      · simp [e]
theorem getI_snoc (k j y : Int) : ∀ d : Dk, getI d k = none → getI (d ++ [(k, y)]) j = if j = k then some y else getI d j
  | [], _ => by
    rw [List.nil_append, getI_cons]
    by_cases e : k = j
    · rw [if_pos e, if_pos e.symm]
    · rw [if_neg e, if_neg (fun z => e z.symm)]
  | p :: r, h => by
    rw [getI_cons] at h
    by_cases e : p.1 = k
    · rw [if_pos e] at h
      cases h
    · rw [if_neg e] at h
      rw [List.cons_append, getI_cons, getI_cons, getI_snoc k j y r h]
      by_cases e2 : p.1 = j
      · rw [if_pos e2, if_pos e2, if_neg (fun z => e (e2.trans z))]
      · rw [if_neg e2, if_neg e2]
theorem getI_put (d : Dk) (k j y : Int) : getI (putI d k y) j = if j = k then some y else getI d j := by
  unfold putI
  rw [getI_any]
  cases h : getI d k with
  | none => exact getI_snoc k j y d h
  | some x =>
    rw [if_pos (show (some x).isSome = true from rfl), getI_map]
    by_cases e : j = k
    · rw [e, h]; simp
    · simp [e]
def keysI (d : Dk) : List Int := d.map (·.1)
theorem put_keys (d : Dk) (k y : Int) : keysI (putI d k y) = if (getI d k).isSome then keysI d else keysI d ++ [k] := by
  unfold putI
  rw [getI_any]
  split
  · unfold keysI
    rw [List.map_map]
    refine List.map_congr_left fun p _ => ?_
    show (if p.1 = k then (p.1, y) else p).1 = p.1
    split <;> rfl
  · unfold keysI
    rw [List.map_append]
    rfl
theorem getI_mem {d : Dk} {k : Int} : (getI d k).isSome = true ↔ k ∈ keysI d := by
  rw [← getI_any, List.any_eq_true]
  unfold keysI
  simp only [decide_eq_true_eq, List.mem_map]
theorem getI_some_mem {d : Dk} {k v : Int} (h : getI d k = some v) : (k, v) ∈ d := by
  induction d with
  | nil => cases h
  | cons p r ih =>
    rw [getI_cons] at h
    by_cases e : p.1 = k
    · rw [if_pos e] at h
      cases h
      rw [← e]
      exact .head _
    · rw [if_neg e] at h
      exact .tail _ (ih h)
theorem mem_getI {d : Dk} {k v : Int} (nd : (keysI d).Nodup) (h : (k, v) ∈ d) : getI d k = some v := by
  induction d with
  | nil => cases h
  | cons p r ih =>
    rw [getI_cons]
    have nd2 : p.1 ∉ keysI r ∧ (keysI r).Nodup := List.nodup_cons.mp nd
    rcases List.mem_cons.mp h with e | e
    · rw [← e, if_pos rfl]
    · have : ¬ p.1 = k := fun z => nd2.1 (by rw [z]; exact List.mem_map_of_mem (f := (·.1)) e)
      rw [if_neg this]
      exact ih nd2.2 e
theorem put_nodup {d : Dk} {k y : Int} (nd : (keysI d).Nodup) : (keysI (putI d k y)).Nodup := by
  rw [put_keys]
  split
  · exact nd
  · rename_i h
    rw [List.nodup_append]
    refine ⟨nd, by simp, fun a ha b hb => ?_⟩
    simp only [List.mem_singleton] at hb
    rintro rfl
    rw [hb] at ha
    exact h (getI_mem.mpr ha)
theorem up_get (d : Dk) (k v j : Int) : getI (upMax d k v) j = if j = k then some (match getI d k with | none => v | some w => if w < v then v else w) else getI d j := by
  unfold upMax
  cases h : getI d k with
  | none => exact getI_put d k j v
  | some w =>
    show getI (if w < v then putI d k v else d) j = if j = k then some (if w < v then v else w) else getI d j
    by_cases l : w < v
    · rw [if_pos l, if_pos l]
      exact getI_put d k j v
    · rw [if_neg l, if_neg l]
      by_cases e : j = k
      · rw [e, h, if_pos rfl]
      · rw [if_neg e]
theorem up_nodup {d : Dk} {k v : Int} (nd : (keysI d).Nodup) : (keysI (upMax d k v)).Nodup := by
  unfold upMax
  split
  · exact put_nodup nd
  · split
    · exact put_nodup nd
    · exact nd
theorem put_same {d : Dk} {k v : Int} (nd : (keysI d).Nodup) (h : getI d k = some v) : putI d k v = d := by
  unfold putI
  rw [getI_any, h, if_pos (show (some v).isSome = true from rfl)]
  have : ∀ p ∈ d, (fun kv : Int × Int => if kv.1 = k then (kv.1, v) else kv) p = id p := fun p hp => by
    show (if p.1 = k then (p.1, v) else p) = p
    split
    · rename_i e
      have := mem_getI nd (k := p.1) (v := p.2) hp
      rw [e, h] at this
      cases this
      rfl
    · rfl
  rw [List.map_congr_left this, List.map_id]
/-- the law's own way to the greater one -/
theorem up_put {d : Dk} {k v : Int} (nd : (keysI d).Nodup) : putI d k (max v ((getI d k).getD v)) = upMax d k v := by
  unfold upMax
  cases h : getI d k with
  | none =>
    show putI d k (max v v) = putI d k v
    rw [Int.max_self]
  | some w =>
    show putI d k (max v w) = if w < v then putI d k v else d
    by_cases l : w < v
    · rw [if_pos l, Int.max_eq_left (by omega)]
    · rw [if_neg l, Int.max_eq_right (by omega)]
      exact put_same nd h
/-! ### the best ways on -/
def bestIn (f : Int → Int → Int) (v : Int) (ps : List (Int × Int)) (d : Dk) : Dk := ps.foldl (fun l pr => upMax l pr.2 (f v pr.1)) d
def bestOn (P : Int → List (Int × Int)) (f : Int → Int → Int) (d l : Dk) : Dk := d.foldl (fun l kv => bestIn f kv.2 (P kv.1) l) l
def bestOf (P : Int → List (Int × Int)) (f : Int → Int → Int) (d : Dk) : Dk := bestOn P f d []
theorem bestIn_nodup {f : Int → Int → Int} {v : Int} : ∀ {ps : List (Int × Int)} {d : Dk}, (keysI d).Nodup → (keysI (bestIn f v ps d)).Nodup
  | [], _, h => h
  | p :: ps, d, h => bestIn_nodup (ps := ps) (d := upMax d p.2 (f v p.1)) (up_nodup h)
theorem bestOn_nodup {P : Int → List (Int × Int)} {f : Int → Int → Int} : ∀ {d l : Dk}, (keysI l).Nodup → (keysI (bestOn P f d l)).Nodup
  | [], _, h => h
  | q :: d, l, h => bestOn_nodup (d := d) (l := bestIn f q.2 (P q.1) l) (bestIn_nodup h)
theorem up_le (d : Dk) (k v : Int) {j w : Int} (h : getI d j = some w) : ∃ u, getI (upMax d k v) j = some u ∧ w ≤ u := by
  rw [up_get]
  by_cases e : j = k
  · subst e
    rw [if_pos rfl, h]
    refine ⟨_, rfl, ?_⟩
    show w ≤ if w < v then v else w
    split <;> omega
  · rw [if_neg e]
    exact ⟨w, h, Int.le_refl _⟩
theorem up_has (d : Dk) (k v : Int) : ∃ u, getI (upMax d k v) k = some u ∧ v ≤ u := by
  rw [up_get, if_pos rfl]
  refine ⟨_, rfl, ?_⟩
  split
  · exact Int.le_refl _
  · split <;> omega
theorem up_from {d : Dk} {k v j w : Int} (h : getI (upMax d k v) j = some w) : getI d j = some w ∨ (j = k ∧ w = v) := by
  rw [up_get] at h
  by_cases e : j = k
  · rw [if_pos e] at h
    cases g : getI d k with
    | none =>
      rw [g] at h
      cases h
      exact .inr ⟨e, rfl⟩
    | some x =>
      rw [g] at h
      have h2 : (if x < v then v else x) = w := Option.some.inj h
      by_cases l : x < v
      · rw [if_pos l] at h2
        exact .inr ⟨e, h2.symm⟩
      · rw [if_neg l] at h2
        rw [e, g, h2]
        exact .inl rfl
  · rw [if_neg e] at h
    exact .inl h
theorem bestIn_le {f : Int → Int → Int} {v : Int} : ∀ (ps : List (Int × Int)) (d : Dk) {j w : Int}, getI d j = some w → ∃ u, getI (bestIn f v ps d) j = some u ∧ w ≤ u
  | [], _, _, w, h => ⟨w, h, Int.le_refl _⟩
  | p :: ps, d, j, w, h => by
    obtain ⟨u, h2, l2⟩ := up_le d p.2 (f v p.1) h
    obtain ⟨u3, h3, l3⟩ := bestIn_le ps _ h2
    exact ⟨u3, h3, Int.le_trans l2 l3⟩
theorem bestIn_has {f : Int → Int → Int} {v : Int} : ∀ (ps : List (Int × Int)) (d : Dk) {p k : Int}, (p, k) ∈ ps → ∃ u, getI (bestIn f v ps d) k = some u ∧ f v p ≤ u
  | q :: ps, d, p, k, h => by
    rcases List.mem_cons.mp h with e | e
    · subst e
      obtain ⟨u, h2, l2⟩ := up_has d k (f v p)
      obtain ⟨u3, h3, l3⟩ := bestIn_le ps (upMax d k (f v p)) h2
      exact ⟨u3, h3, Int.le_trans l2 l3⟩
    · exact bestIn_has ps _ e
theorem bestIn_from {f : Int → Int → Int} {v : Int} : ∀ (ps : List (Int × Int)) (d : Dk) {j w : Int}, getI (bestIn f v ps d) j = some w → getI d j = some w ∨ ∃ p, (p, j) ∈ ps ∧ w = f v p
  | [], _, _, _, h => .inl h
  | q :: ps, d, j, w, h => by
    rcases bestIn_from ps _ h with h | ⟨p, h, e⟩
    · rcases up_from h with h | ⟨e1, e2⟩
      · exact .inl h
      · refine .inr ⟨q.1, ?_, e2⟩
        rw [e1]
        exact .head _
    · exact .inr ⟨p, .tail _ h, e⟩
theorem bestOn_le {P : Int → List (Int × Int)} {f : Int → Int → Int} : ∀ (d l : Dk) {j w : Int}, getI l j = some w → ∃ u, getI (bestOn P f d l) j = some u ∧ w ≤ u
  | [], _, _, w, h => ⟨w, h, Int.le_refl _⟩
  | q :: d, l, j, w, h => by
    obtain ⟨u, h2, l2⟩ := bestIn_le (f := f) (v := q.2) (P q.1) l h
    obtain ⟨u3, h3, l3⟩ := bestOn_le (P := P) (f := f) d _ h2
    exact ⟨u3, h3, Int.le_trans l2 l3⟩
theorem bestOn_has {P : Int → List (Int × Int)} {f : Int → Int → Int} : ∀ (d l : Dk) {s v p k : Int}, (s, v) ∈ d → (p, k) ∈ P s → ∃ u, getI (bestOn P f d l) k = some u ∧ f v p ≤ u
  | q :: d, l, s, v, p, k, h, hp => by
    rcases List.mem_cons.mp h with e | e
    · subst e
      obtain ⟨u, h2, l2⟩ := bestIn_has (f := f) (v := v) (P s) l hp
      obtain ⟨u3, h3, l3⟩ := bestOn_le (P := P) (f := f) d _ h2
      exact ⟨u3, h3, Int.le_trans l2 l3⟩
    · exact bestOn_has (P := P) (f := f) d _ e hp
theorem bestOn_from {P : Int → List (Int × Int)} {f : Int → Int → Int} : ∀ (d l : Dk) {j w : Int}, getI (bestOn P f d l) j = some w → getI l j = some w ∨ ∃ s v p, (s, v) ∈ d ∧ (p, j) ∈ P s ∧ w = f v p
  | [], _, _, _, h => .inl h
  | q :: d, l, j, w, h => by
    rcases bestOn_from d _ h with h | ⟨s, v, p, h, hp, e⟩
    · rcases bestIn_from (P q.1) l h with h | ⟨p, h, e⟩
      · exact .inl h
      · exact .inr ⟨q.1, q.2, p, .head _, h, e⟩
    · exact .inr ⟨s, v, p, .tail _ h, hp, e⟩
/-! ### the greatest of some -/
def maxL : List Int → Int
  | [] => 0
  | x :: xs => xs.foldl max x
def minL : List Int → Int
  | [] => 0
  | x :: xs => xs.foldl min x
theorem foldmax_le : ∀ (xs : List Int) (x : Int), x ≤ xs.foldl max x ∧ ∀ y ∈ xs, y ≤ xs.foldl max x
  | [], x => ⟨Int.le_refl _, fun _ h => nomatch h⟩
  | z :: xs, x => by
    have := foldmax_le xs (max x z)
    refine ⟨by show x ≤ xs.foldl max (max x z); omega, fun y hy => ?_⟩
    rcases List.mem_cons.mp hy with e | e
    · subst e
      show y ≤ xs.foldl max (max x y)
      omega
    · exact this.2 y e
theorem foldmax_mem : ∀ (xs : List Int) (x : Int), xs.foldl max x = x ∨ xs.foldl max x ∈ xs
  | [], x => .inl rfl
  | z :: xs, x => by
    show xs.foldl max (max x z) = x ∨ xs.foldl max (max x z) ∈ z :: xs
    rcases foldmax_mem xs (max x z) with h | h
    · rw [h]
      rcases (show max x z = x ∨ max x z = z by omega) with e | e
      · exact .inl e
      · rw [e]; exact .inr (.head _)
    · exact .inr (.tail _ h)
theorem maxL_mem {l : List Int} (h : l ≠ []) : maxL l ∈ l := by
  cases l with
  | nil => exact absurd rfl h
  | cons x xs =>
    rcases foldmax_mem xs x with e | e
    · show xs.foldl max x ∈ _
      rw [e]; exact .head _
    · exact .tail _ e
theorem le_maxL {l : List Int} {y : Int} (h : y ∈ l) : y ≤ maxL l := by
  cases l with
  | nil => cases h
  | cons x xs =>
    rcases List.mem_cons.mp h with e | e
    · subst e; exact (foldmax_le xs y).1
    · exact (foldmax_le xs x).2 y e
theorem maxL_eq {l : List Int} {m : Int} (h : m ∈ l) (g : ∀ y ∈ l, y ≤ m) : m = maxL l := by
  have h1 := le_maxL h
  have h2 := g _ (maxL_mem (l := l) (by intro z; rw [z] at h; cases h))
  omega
theorem foldmin_le : ∀ (xs : List Int) (x : Int), xs.foldl min x ≤ x ∧ ∀ y ∈ xs, xs.foldl min x ≤ y
  | [], x => ⟨Int.le_refl _, fun _ h => nomatch h⟩
  | z :: xs, x => by
    have := foldmin_le xs (min x z)
    refine ⟨by show xs.foldl min (min x z) ≤ x; omega, fun y hy => ?_⟩
    rcases List.mem_cons.mp hy with e | e
    · subst e
      show xs.foldl min (min x y) ≤ y
      omega
    · exact this.2 y e
theorem foldmin_mem : ∀ (xs : List Int) (x : Int), xs.foldl min x = x ∨ xs.foldl min x ∈ xs
  | [], x => .inl rfl
  | z :: xs, x => by
    show xs.foldl min (min x z) = x ∨ xs.foldl min (min x z) ∈ z :: xs
    rcases foldmin_mem xs (min x z) with h | h
    · rw [h]
      rcases (show min x z = x ∨ min x z = z by omega) with e | e
      · exact .inl e
      · rw [e]; exact .inr (.head _)
    · exact .inr (.tail _ h)
theorem minL_mem {l : List Int} (h : l ≠ []) : minL l ∈ l := by
  cases l with
  | nil => exact absurd rfl h
  | cons x xs =>
    rcases foldmin_mem xs x with e | e
    · show xs.foldl min x ∈ _
      rw [e]; exact .head _
    · exact .tail _ e
theorem minL_le {l : List Int} {y : Int} (h : y ∈ l) : minL l ≤ y := by
  cases l with
  | nil => cases h
  | cons x xs =>
    rcases List.mem_cons.mp h with e | e
    · subst e; exact (foldmin_le xs y).1
    · exact (foldmin_le xs x).2 y e
theorem minL_eq {l : List Int} {m : Int} (h : m ∈ l) (g : ∀ y ∈ l, m ≤ y) : m = minL l := by
  have h1 := minL_le h
  have h2 := g _ (minL_mem (l := l) (by intro z; rw [z] at h; cases h))
  omega
/-! ### sorted -/
def insI (x : Int) : List Int → List Int
  | [] => [x]
  | y :: r => if x ≤ y then x :: y :: r else y :: insI x r
def sortI : List Int → List Int
  | [] => []
  | x :: r => insI x (sortI r)
theorem ins_perm (x : Int) : ∀ l, (insI x l).Perm (x :: l)
  | [] => .refl _
  | y :: r => by
    unfold insI
    split
    · exact .refl _
    · exact ((ins_perm x r).cons y).trans (.swap x y r)
theorem sort_perm : ∀ l, (sortI l).Perm l
  | [] => .refl _
  | x :: r => (ins_perm x _).trans ((sort_perm r).cons x)
theorem ins_sorted {x : Int} : ∀ {l : List Int}, l.Pairwise (· ≤ ·) → (insI x l).Pairwise (· ≤ ·)
  | [], _ => by simp [insI]
  | y :: r, h => by
    have h2 := List.pairwise_cons.mp h
    unfold insI
    split
    · rename_i l
      refine List.pairwise_cons.mpr ⟨fun z hz => ?_, h⟩
      rcases List.mem_cons.mp hz with e | e
      · omega
      · have := h2.1 z e; omega
    · rename_i l
      refine List.pairwise_cons.mpr ⟨fun z hz => ?_, ins_sorted h2.2⟩
      rcases List.mem_cons.mp ((ins_perm x r).mem_iff.mp hz) with e | e
      · omega
      · exact h2.1 z e
theorem sort_sorted : ∀ l : List Int, (sortI l).Pairwise (· ≤ ·)
  | [] => .nil
  | _ :: r => ins_sorted (sort_sorted r)
theorem sorted_unique : ∀ {a b : List Int}, a.Perm b → a.Pairwise (· ≤ ·) → b.Pairwise (· ≤ ·) → a = b
  | [], b, p, _, _ => (List.Perm.nil_eq p)
  | x :: a, [], p, _, _ => absurd p.length_eq (by simp)
  | x :: a, y :: b, p, ha, hb => by
    have ha2 := List.pairwise_cons.mp ha
    have hb2 := List.pairwise_cons.mp hb
    have h1 : x = y ∨ x ∈ b := by
      have := p.mem_iff.mp (List.mem_cons_self (a := x) (l := a))
      rcases List.mem_cons.mp this with e | e
      · exact .inl e
      · exact .inr e
    have h2 : y = x ∨ y ∈ a := by
      have := p.mem_iff.mpr (List.mem_cons_self (a := y) (l := b))
      rcases List.mem_cons.mp this with e | e
      · exact .inl e
      · exact .inr e
    have e : x = y := by
      rcases h1 with e | e
      · exact e
      · rcases h2 with e2 | e2
        · exact e2.symm
        · have a1 := hb2.1 x e
          have a2 := ha2.1 y e2
          omega
    subst e
    rw [sorted_unique (p.cons_inv) ha2.2 hb2.2]
theorem sort_eq {l ys : List Int} (p : ys.Perm l) (h : ys.Pairwise (· ≤ ·)) : ys = sortI l := sorted_unique (p.trans (sort_perm l).symm) h (sort_sorted l)
/-! ### lacks -/
def hopes (b sp k : Int) : Bool := decide (k = 0) || decide (k * (b - 1) < sp * b)
def laterOf (b sp : Int) (g : Dk) : Dk := (sortI (keysI g)).filterMap fun to => if hopes b sp (b * (maxL (g.map (·.2)) - (getI g to).getD 0)) = true then some (to, b * (maxL (g.map (·.2)) - (getI g to).getD 0)) else none
def gainOf (P : Int → List (Int × Int)) (d : Dk) : Dk := bestOf P (fun v p => p - v) d
def sumOf (P : Int → List (Int × Int)) (b : Int) (d : Dk) : Dk := bestOf P (fun v p => b * v + p) d
theorem later_keys {b sp : Int} {g : Dk} (nd : (keysI g).Nodup) : (keysI (laterOf b sp g)).Nodup := by
  have h1 : (sortI (keysI g)).Nodup := (sort_perm _).nodup_iff.mpr nd
  unfold laterOf keysI
  unfold keysI at h1
  generalize hF : (fun to => if hopes b sp (b * (maxL (g.map (·.2)) - (getI g to).getD 0)) = true then some (to, b * (maxL (g.map (·.2)) - (getI g to).getD 0)) else none) = F
  have hk : ∀ t p, F t = some p → p.1 = t := fun t p e => by
    rw [← hF] at e
    simp only at e
    split at e
    · cases e; rfl
    · cases e
  generalize sortI (List.map (fun x => x.fst) g) = l at h1 ⊢
  clear hF
  induction l with
  | nil => exact .nil
  | cons x r ih =>
    have h2 := List.nodup_cons.mp h1
    rw [List.filterMap_cons]
    cases e : F x with
    | none => exact ih h2.2
    | some p =>
      rw [List.map_cons]
      refine List.nodup_cons.mpr ⟨fun hm => ?_, ih h2.2⟩
      obtain ⟨q, hq, e2⟩ := List.mem_map.mp hm
      obtain ⟨t, ht, e3⟩ := List.mem_filterMap.mp hq
      rw [hk _ _ e3, hk _ _ e] at e2
      exact h2.1 (e2 ▸ ht)
theorem later_get {b sp : Int} {g : Dk} (nd : (keysI g).Nodup) {to k : Int} : getI (laterOf b sp g) to = some k ↔ ∃ x, getI g to = some x ∧ k = b * (maxL (g.map (·.2)) - x) ∧ hopes b sp k = true := by
  constructor
  · intro h
    have hm := getI_some_mem h
    unfold laterOf at hm
    obtain ⟨t, ht, e⟩ := List.mem_filterMap.mp hm
    split at e
    · rename_i hh
      cases e
      have : to ∈ keysI g := (sort_perm _).mem_iff.mp ht
      obtain ⟨x, hx⟩ := Option.isSome_iff_exists.mp (getI_mem.mpr this)
      rw [hx] at hh
      exact ⟨x, hx, by rw [hx]; rfl, by rw [hx]; exact hh⟩
    · cases e
  · rintro ⟨x, hx, rfl, hh⟩
    refine mem_getI (later_keys nd) ?_
    unfold laterOf
    refine List.mem_filterMap.mpr ⟨to, (sort_perm _).mem_iff.mpr (getI_mem.mp (by rw [hx]; rfl)), ?_⟩
    rw [hx, Option.getD_some, if_pos hh]
/-- what holds behind a word between the sums, the lacks and what is paid in all -/
structure Lk (b sp T : Int) (S D : Dk) : Prop where
  nS : (keysI S).Nodup
  nD : (keysI D).Nodup
  top : ∃ s, getI S s = some T ∧ getI D s = some 0
  of : ∀ s v, getI S s = some v → v ≤ T ∧ (getI D s = some (b * (T - v)) ∨ (getI D s = none ∧ 0 < b * (T - v) ∧ sp * b ≤ b * (T - v) * (b - 1)))
  sub : ∀ s k, getI D s = some k → ∃ v, getI S s = some v ∧ k = b * (T - v)
theorem lk_start (b sp : Int) : Lk b sp 0 [(0, 0)] [(0, 0)] := by
  refine ⟨by simp [keysI], by simp [keysI], ⟨0, rfl, rfl⟩, fun s v h => ?_, fun s k h => ?_⟩
  · rw [getI_cons] at h
    split at h
    · rename_i e
      cases h
      refine ⟨Int.le_refl _, .inl ?_⟩
      rw [getI_cons, if_pos e]
      simp
    · cases h
  · rw [getI_cons] at h
    split at h
    · rename_i e
      cases h
      exact ⟨0, by rw [getI_cons, if_pos e], by simp⟩
    · cases h
theorem lk_step {P : Int → List (Int × Int)} {b T lo hi : Int} {S D : Dk} (h : Lk b (hi - lo) T S D) (b2 : 2 ≤ b) (hl : lo ≤ hi)
    (hP : ∀ s v, getI S s = some v → ∃ p k, (p, k) ∈ P s) (hlo : ∀ s v p k, getI S s = some v → (p, k) ∈ P s → lo ≤ p ∧ p ≤ hi) :
    Lk b (hi - lo) (b * T + maxL ((gainOf P D).map (·.2))) (sumOf P b S) (laterOf b (hi - lo) (gainOf P D)) ∧ gainOf P D ≠ [] ∧ sumOf P b S ≠ [] := by
  have nS := bestOn_nodup (P := P) (f := fun v p => b * v + p) (d := S) (l := []) .nil
  have nG := bestOn_nodup (P := P) (f := fun v p => p - v) (d := D) (l := []) .nil
  have eS : ∀ {k w}, getI (sumOf P b S) k = some w → ∃ s v p, getI S s = some v ∧ (p, k) ∈ P s ∧ w = b * v + p := fun {k w} e => by
    rcases bestOn_from S [] e with e | ⟨s, v, p, m, hp, e⟩
    · cases e
    · exact ⟨s, v, p, mem_getI h.nS m, hp, e⟩
  have eG : ∀ {k w}, getI (gainOf P D) k = some w → ∃ s v p, getI D s = some v ∧ (p, k) ∈ P s ∧ w = p - v := fun {k w} e => by
    rcases bestOn_from D [] e with e | ⟨s, v, p, m, hp, e⟩
    · cases e
    · exact ⟨s, v, p, mem_getI h.nD m, hp, e⟩
  have hS : ∀ {s v p k}, getI S s = some v → (p, k) ∈ P s → ∃ u, getI (sumOf P b S) k = some u ∧ b * v + p ≤ u := fun {s v p k} e hp => bestOn_has (f := fun v p => b * v + p) S [] (getI_some_mem e) hp
  have hG : ∀ {s v p k}, getI D s = some v → (p, k) ∈ P s → ∃ u, getI (gainOf P D) k = some u ∧ p - v ≤ u := fun {s v p k} e hp => bestOn_has (f := fun v p => p - v) D [] (getI_some_mem e) hp
  obtain ⟨s0, t1, t2⟩ := h.top
  obtain ⟨p0, k0, hp0⟩ := hP s0 T t1
  obtain ⟨u0, hu0, lu0⟩ := hG t2 hp0
  have r0 := hlo s0 T p0 k0 t1 hp0
  have gne : gainOf P D ≠ [] := fun z => by rw [z] at hu0; cases hu0
  have sne : sumOf P b S ≠ [] := fun z => by
    obtain ⟨u, hu, _⟩ := hS t1 hp0
    rw [z] at hu; cases hu
  generalize hm : maxL ((gainOf P D).map (·.2)) = m
  have mle : ∀ {k w}, getI (gainOf P D) k = some w → w ≤ m := fun {k w} e => by
    rw [← hm]
    exact le_maxL (List.mem_map_of_mem (f := (·.2)) (getI_some_mem e))
  have mmem : ∃ k, getI (gainOf P D) k = some m := by
    have := maxL_mem (l := (gainOf P D).map (·.2)) (by simpa using gne)
    obtain ⟨q, hq, e⟩ := List.mem_map.mp this
    rw [hm] at e
    exact ⟨q.1, mem_getI nG (by rw [← e]; exact hq)⟩
  have mlo : lo ≤ m := by have := mle hu0; omega
  obtain ⟨kt, hkt⟩ := mmem
  -- what a path along s pays
  have path : ∀ {s v p k}, getI S s = some v → (p, k) ∈ P s → (getI D s = some (b * (T - v)) ∧ b * v + p = b * T + (p - b * (T - v))) ∨
      (0 < b * (b * T + m - (b * v + p)) ∧ (hi - lo) * b ≤ b * (b * T + m - (b * v + p)) * (b - 1)) := fun {s v p k} e hp => by
    rcases (h.of s v e).2 with d | ⟨_, d1, d2⟩
    · refine .inl ⟨d, ?_⟩
      rw [Int.mul_sub]
      omega
    · right
      have r := hlo s v p k e hp
      generalize hx : b * (T - v) = x at d1 d2
      have e1 : b * T + m - (b * v + p) = x + (m - p) := by
        rw [← hx, Int.mul_sub]; omega
      rw [e1]
      have x1 : hi - lo < x := by
        rcases Int.lt_or_le (hi - lo) x with l | l
        · exact l
        · exfalso
          have a1 : x * (b - 1) ≤ (hi - lo) * (b - 1) := Int.mul_le_mul_of_nonneg_right l (by omega)
          have a2 : (hi - lo) * (b - 1) = (hi - lo) * b - (hi - lo) := by rw [Int.mul_sub, Int.mul_one]
          omega
      have y0 : x - (hi - lo) ≤ x + (m - p) := by omega
      generalize hy : x + (m - p) = y at y0
      have y1 : 0 < y := by omega
      refine ⟨Int.mul_pos (by omega) y1, ?_⟩
      rw [Int.mul_assoc, Int.mul_comm (hi - lo) b]
      refine Int.mul_le_mul_of_nonneg_left ?_ (by omega)
      have a1 : (x - (hi - lo)) * (b - 1) ≤ y * (b - 1) := Int.mul_le_mul_of_nonneg_right y0 (by omega)
      have a2 : (x - (hi - lo)) * (b - 1) = x * (b - 1) - ((hi - lo) * b - (hi - lo)) := by
        rw [Int.sub_mul, Int.mul_sub (hi - lo), Int.mul_one]
      omega
  have gto : ∀ {k w}, getI (gainOf P D) k = some w → ∃ u, getI (sumOf P b S) k = some u ∧ b * T + w ≤ u := fun {k w} e => by
    obtain ⟨s, v, p, hs, hp, e2⟩ := eG e
    obtain ⟨x, hx, e3⟩ := h.sub s v hs
    obtain ⟨u, hu, lu⟩ := hS hx hp
    refine ⟨u, hu, ?_⟩
    rw [e3, Int.mul_sub] at e2
    omega
  have stop : ∀ {k w}, getI (sumOf P b S) k = some w → w ≤ b * T + m := fun {k w} e => by
    obtain ⟨s, v, p, hs, hp, e2⟩ := eS e
    rcases path hs hp with ⟨d, e3⟩ | ⟨d1, _⟩
    · obtain ⟨u, hu, lu⟩ := hG d hp
      have := mle hu
      omega
    · rw [← e2] at d1
      have := Int.pos_of_mul_pos_right d1 (by omega)
      omega
  have lg := fun {to k} => later_get (b := b) (sp := hi - lo) (g := gainOf P D) nG (to := to) (k := k)
  simp only [hm] at lg
  refine ⟨⟨nS, later_keys nG, ⟨kt, ?_, ?_⟩, fun to w e => ⟨stop e, ?_⟩, fun to k e => ?_⟩, gne, sne⟩
  · obtain ⟨u, hu, lu⟩ := gto hkt
    have := stop hu
    rw [hu, show u = b * T + m by omega]
  · refine lg.mpr ⟨m, hkt, by simp, rfl⟩
  · obtain ⟨s, v, p, hs, hp, e2⟩ := eS e
    rcases path hs hp with ⟨d, e3⟩ | ⟨d1, d2⟩
    · obtain ⟨x, hx, lx⟩ := hG d hp
      obtain ⟨u, hu, lu⟩ := gto hx
      rw [e] at hu
      cases hu
      have ex : x = w - b * T := by omega
      have le := stop e
      have ew : b * (b * T + m - w) = b * (m - x) := by rw [ex]; congr 1; omega
      by_cases hh : hopes b (hi - lo) (b * (m - x)) = true
      · left
        rw [ew]
        exact lg.mpr ⟨x, hx, rfl, hh⟩
      · right
        have hh2 : ¬ (b * (m - x) = 0) ∧ ¬ (b * (m - x) * (b - 1) < (hi - lo) * b) := by
          unfold hopes at hh
          simpa using hh
        have pos : 0 ≤ b * (m - x) := Int.mul_nonneg (by omega) (by omega)
        refine ⟨?_, by rw [ew]; omega, by rw [ew]; omega⟩
        cases q : getI (laterOf b (hi - lo) (gainOf P D)) to with
        | none => rfl
        | some k =>
          obtain ⟨x2, hx2, e4, h4⟩ := lg.mp q
          rw [hx] at hx2
          cases hx2
          rw [e4] at h4
          exact absurd h4 hh
    · right
      rw [← e2] at d1 d2
      refine ⟨?_, d1, d2⟩
      cases q : getI (laterOf b (hi - lo) (gainOf P D)) to with
      | none => rfl
      | some k =>
        exfalso
        obtain ⟨x2, hx2, e4, h4⟩ := lg.mp q
        obtain ⟨u, hu, lu⟩ := gto hx2
        rw [e] at hu
        cases hu
        have a1 : b * (b * T + m - w) ≤ b * (m - x2) := Int.mul_le_mul_of_nonneg_left (by omega) (by omega)
        have a2 := Int.mul_le_mul_of_nonneg_right a1 (show 0 ≤ b - 1 by omega)
        unfold hopes at h4
        rw [e4] at h4
        simp only [Bool.or_eq_true, decide_eq_true_eq] at h4
        omega
  · obtain ⟨x, hx, e4, h4⟩ := lg.mp e
    obtain ⟨u, hu, lu⟩ := gto hx
    refine ⟨u, hu, ?_⟩
    -- the sum there is that of the gain: else it is hopeless
    obtain ⟨s, v, p, hs, hp, e2⟩ := eS hu
    rcases path hs hp with ⟨d, e3⟩ | ⟨d1, d2⟩
    · obtain ⟨x2, hx2, lx⟩ := hG d hp
      rw [hx] at hx2
      cases hx2
      rw [e4, show u = b * T + x by omega]
      congr 1
      omega
    · exfalso
      rw [← e2] at d1 d2
      have a1 : b * (b * T + m - u) ≤ b * (m - x) := Int.mul_le_mul_of_nonneg_left (by omega) (by omega)
      have a2 := Int.mul_le_mul_of_nonneg_right a1 (show 0 ≤ b - 1 by omega)
      unfold hopes at h4
      rw [e4] at h4
      simp only [Bool.or_eq_true, decide_eq_true_eq] at h4
      omega
end My
/-! ### list comprehensions of any number of clauses: clause by clause -/
namespace My
open PySem PySem.Spec PyProof.Rows L2
/-- what goes from a clause's turn into the next clause, and then on -/
def nextOf (e : Expr) (k : Nat) (it1 : Expr) (acc : Value) (env : Env) (on : Sem Fin) : Sem Fin := do
  let got ← eval it1 env
  standAt it1.pos
  let src ← foldedSetIterable it1 env got
  let _ ← runOwn (.compStart e k (← holding [src] (pyIter src)) acc env) env
  on
def lastOf (elt : Expr) (acc : Value) (env : Env) (on : Sem Fin) : Sem Fin := (do
  let made ← eval elt env
  let _ ← call (.builtin "list.append") [acc, made]) >>= fun _ => on
/-- a clause's turn -/
def TurnIs (elt : Expr) (gens : List Comprehension) (scope : Scope) (pos : Pos) (k : Nat) (tg iter : Expr) (ifs : List Expr) (acc : Value) (env : Env) (body : Sem Fin → Sem Fin) : Prop := ∀ it, compTurn (.ListComp elt gens scope pos) k it acc env = (standAt iter.pos >>= fun _ => pyNext it >>= fun got => match got with
  | none => pure (.done .next)
  | some v => letOwnedTupleGo tg it v >>= fun _ => assign tg env v >>= fun _ =>
    (forIn ifs true fun c r => if r = true then do let yes ← isTrue c env (eval c env); pure (ForInStep.yield yes) else pure (ForInStep.yield r)) >>= fun yes =>
      if yes = true then body (again (.compLoop (.ListComp elt gens scope pos) k it acc env)) else again (.compLoop (.ListComp elt gens scope pos) k it acc env))
section
variable {elt t0 i0 t1 i1 t2 i2 : Expr} {f0 f1 f2 : List Expr} {scope : Scope} {pos : Pos} {acc : Value} {env : Env}
abbrev cls3 (t0 i0 t1 i1 t2 i2 : Expr) (f0 f1 f2 : List Expr) : List Comprehension := [⟨t0, i0, f0, 0⟩, ⟨t1, i1, f1, 0⟩, ⟨t2, i2, f2, 0⟩]
theorem turn3_0 : TurnIs elt (cls3 t0 i0 t1 i1 t2 i2 f0 f1 f2) scope pos 0 t0 i0 f0 acc env (nextOf (.ListComp elt (cls3 t0 i0 t1 i1 t2 i2 f0 f1 f2) scope pos) 1 i1 acc env) := fun _ => rfl
theorem turn3_1 : TurnIs elt (cls3 t0 i0 t1 i1 t2 i2 f0 f1 f2) scope pos 1 t1 i1 f1 acc env (nextOf (.ListComp elt (cls3 t0 i0 t1 i1 t2 i2 f0 f1 f2) scope pos) 2 i2 acc env) := fun _ => rfl
theorem turn3_2 : TurnIs elt (cls3 t0 i0 t1 i1 t2 i2 f0 f1 f2) scope pos 2 t2 i2 f2 acc env (lastOf elt acc env) := fun _ => rfl
end
section
variable {prog : Program} {w : World} {A : Around} {R : Result → Shared → Prop} {s : Shared} {tg iter elt : Expr} {gens : List Comprehension} {scope : Scope} {pos : Pos} {ifs : List Expr} {acc : Value} {env : Env} {body : Sem Fin → Sem Fin} {k : Nat} {it : Value}
/-- a body comes to where N holds, and nothing is raised -/
def Comes (prog : Program) (w : World) (A : Around) (body : Sem Fin → Sem Fin) (N : Shared → Prop) (s : Shared) : Prop :=
  ∀ (on : Sem Fin) (Q : Fin → Shared → Prop) (E : Value → Shared → Prop), (∀ s', N s' → wpAny (model prog w) A on Q E s') → wpAny (model prog w) A (body on) Q E s
/-- one clause's loop, nothing being raised in it: J holds ahead of each turn -/
theorem loop_of (ti : TurnIs elt gens scope pos k tg iter ifs acc env body) (J : Nat → Shared → Prop)
    (h : ∀ n s, J n s → wpAny (model prog w) A (pyNext it) (fun got s1 => match got with
      | none => R (.ok .next) s1
      | some v => wpAny (model prog w) A (letOwnedTupleGo tg it v) (fun _ s2 => wpAny (model prog w) A (assign tg env v) (fun _ s3 =>
          wpAny (model prog w) A (forIn ifs true fun c r => if r = true then do let yes ← isTrue c env (eval c env); pure (ForInStep.yield yes) else pure (ForInStep.yield r)) (fun yes s4 =>
            if yes = true then Comes prog w A body (fun s5 => ∃ m, m < n ∧ J m s5) s4 else ∃ m, m < n ∧ J m s4) (fun _ _ => False) s3) (fun _ _ => False) s2) (fun _ _ => False) s1) (fun _ _ => False) s)
    (n : Nat) (hn : J n s) : codeAny (model prog w) A (.compLoop (.ListComp elt gens scope pos) k it acc env) R s := by
  refine codeAny_loop rfl J (fun n s hJ => ?_) n hn
  show wpAny _ A ((compTurn (.ListComp elt gens scope pos) k it acc env).onRaise (fun x => do noteFrame x env; theTreesLotGoes x)) _ _ s
  refine wpAny_noted ?_
  rw [ti it]
  have no : ∀ {E : Value → Shared → Prop} (x : Value) (s' : Shared), False → E x s' := fun _ _ z => z.elim
  refine wpAny_bind (wpAny_standAt (wpAny_bind (wpAny_mono (h n s hJ) (fun got s1 h1 => ?_) no)))
  cases got with
  | none => exact wpAny_pure h1
  | some v =>
    refine wpAny_bind (wpAny_mono h1 (fun _ s2 h2 => wpAny_bind (wpAny_mono h2 (fun _ s3 h3 => wpAny_bind (wpAny_mono h3 (fun yes s4 h4 => ?_) no)) no)) no)
    cases yes with
    | false => exact wpAny_pure ⟨rfl, h4⟩
    | true => exact h4 _ _ _ fun s5 h5 => wpAny_pure ⟨rfl, h5⟩
/-- a clause behind the first one starts -/
theorem start_of {c : Comprehension} (hc : gens[k]? = some c) (ha : (c.is_async != 0) = false) (h0 : codeAny (model prog w) A (.compLoop (.ListComp elt gens scope pos) k it acc env) R s)
    (h : wpAny (model prog w) A (pyIter it) (fun it' s' => codeAny (model prog w) A (.compLoop (.ListComp elt gens scope pos) k it' acc env) R s') (fun _ _ => False) s) :
    codeAny (model prog w) A (.compStart (.ListComp elt gens scope pos) k it acc env) R s := by
  refine codeAny_of_tree ?_
  show wpAny _ _ ((compStart (.ListComp elt gens scope pos) k it acc env).onRaise (fun x => do noteFrame x env; standAt theWindowsPlace)) _ _ s
  refine wpAny_notedAt ?_
  unfold compStart
  have hcl : (clausesOf (.ListComp elt gens scope pos))[k]? = some c := hc
  rw [hcl]
  simp only [Option.elim_some, ha]
  refine wpAny_bind (wpAny_askSetting (wpAny_ite ?_))
  split
  · first
      | exact wpAny_bind (wpAny_pure (wpAny_pure (And.intro rfl h0)))
      | exact wpAny_pure (And.intro rfl h0)
  · exact wpAny_bind (wpAny_rule (wpAny_bind (wpAny_standAt (wpAny_bind (wpAny_mono h (fun it' s' h' => wpAny_pure (And.intro rfl h')) fun _ _ z => z.elim)))))
end
/-! what a clause asks -/
abbrev TC := L2.St → Hp → (Hp → Prop) → Prop
def tEnd (te : TE) (D : Addr) : TC := fun σ H N => te σ H fun y H1 => ∃ made, H1 D = some (.lst made) ∧ made.length < sizeLine ∧ N (upd H1 D (.lst (made ++ [y])))
def tTurns (J : It) (g : TG) (tt : TT) (vs : List Nat) (t : TC) : TC := fun σ H N => ∃ W : Nat → Nat → Hp → Prop, (∃ m, W 0 m H) ∧ ∀ i m H, W i m H →
  (J.stop i H ∧ N H) ∨ (J.go i H ∧ ∃ N1 : Hp → Prop, (∀ H', N1 H' → ∃ m', m' < m ∧ W (i + 1) m' H') ∧ ∀ x H', J.yld i H x H' → g x (wipe σ vs) H' fun σ2 H2 => wipe σ2 vs = wipe σ vs ∧ tt σ2 H2 fun b H3 => if b = true then t σ2 H3 N1 else N1 H3)
def tNest (wi : TI) (g : TG) (tt : TT) (vs : List Nat) (t : TC) : TC := fun σ H N => wi σ H fun J H1 => tTurns J g tt vs t σ H1 N
def tLcN (wi : TI) (g : TG) (tt : TT) (vs : List Nat) (t : Addr → TC) : TE := fun σ H Q => wi σ H fun J H1 => ∀ D, H1 D = none → tTurns J g tt vs (t D) σ (upd H1 D (.lst [])) (Q (.ref D))
/-- what a clause's body does within the block -/
structure PCl (B : Cx) (body : Sem Fin → Sem Fin) (t : TC) (vd : List Nat) : Prop where
  run : ∀ (pins : List (Addr × Obj)) (s : Shared) (σ : L2.St) (H : Hp) (N : Hp → Prop), Inv B pins σ H s → t σ H N → Comes B.prog B.w B.A body (fun s' => ∃ H', Inv B pins (wipe σ vd) H' s' ∧ N H') s
section
variable {X : Cx} {sB : Shared} {HB : Hp} {scB : Scope} {ceB : Env} {fpB : List Addr} {elt tg iter : Expr} {gens : List Comprehension} {scope : Scope} {pos : Pos} {ifs : List Expr} {body : Sem Fin → Sem Fin} {k : Nat} {D : Addr} {wi : TI} {g : TG} {tt : TT} {te : TE} {t : TC} {vd vs : List Nat}
theorem pcl_last (he : PE (X.blk sB HB scB ceB fpB) elt te) : PCl (X.blk sB HB scB ceB fpB) (lastOf elt (.ref D) ceB) (tEnd te D) [] := by
  refine ⟨fun pins s σ H N I h on Q E q => ?_⟩
  unfold lastOf
  refine wpAny_bind (wpAny_bind (wpAny_mono (he.run pins s σ H _ I h) (fun z s1 h1 => ?_) fun _ _ z => z.elim))
  obtain ⟨y, H1, I1, r1, made, hD, hz, n⟩ := h1
  refine wpAny_bind (app_ok (X := X.blk sB HB scB ceB fpB) I1 hD hz r1 fun s2 I2 => wpAny_pure ?_)
  exact q s2 ⟨_, I2, n⟩
/-- the turns of one clause, from where its iterator stands -/
theorem turns_run {pins : List (Addr × Obj)} {s : Shared} {σ : L2.St} {H : Hp} {N : Hp → Prop} {it : Addr} {fp : List Addr} {tn : Nat → Heap → Prop} {J : It} (hc : X.calm = true)
    (ti : TurnIs elt gens scope pos k tg iter ifs (.ref D) ceB body) (hg : PG (X.blk sB HB scB ceB fpB) tg g) (ht : PTs (X.blk sB HB scB ceB fpB) ifs tt) (hb : PCl (X.blk sB HB scB ceB fpB) body t vd) (hv : ∀ i ∈ vd, i ∈ vs)
    (I : Inv (X.blk sB HB scB ceB fpB) pins σ H s) (T : Turn X.prog X.w X.K tg J fp it tn) (st : tn 0 s.heap) (hfp : ∀ H' : Hp, (∀ b ∈ fp, H' b = none) → ∀ b ∈ fp, FpOk (X.blk sB HB scB ceB fpB) pins H' b) (f0 : ∀ b ∈ fp, H b = none) (h : tTurns J g tt vs t σ H N)
    {R : Result → Shared → Prop} (hR : ∀ s' H', Inv (X.blk sB HB scB ceB fpB) pins (wipe σ vs) H' s' → N H' → R (.ok .next) s') :
    codeAny (model X.prog X.w) X.A (.compLoop (.ListComp elt gens scope pos) k (.ref it) (.ref D) ceB) R s := by
  obtain ⟨W, ⟨m0, w0⟩, turn⟩ := h
  refine loop_of ti (fun n s' => ∃ i H', Inv (X.blk sB HB scB ceB fpB) pins (wipe σ vs) H' s' ∧ tn i s'.heap ∧ (∀ b ∈ fp, H' b = none) ∧ W i n H') ?_ m0 ⟨0, H, I.weak (wipe_length _ _) (fun j v e => (wipe_some e).1), st, f0, w0⟩
  rintro n s1 ⟨i, H1, I1, st1, n1, w1⟩
  rcases turn i n H1 w1 with ⟨stop, fine⟩ | ⟨go, N1, hN1, step⟩
  · refine wpAny_mono (T.done (X.blk sB HB scB ceB fpB) rfl rfl rfl hc i _ s1 (wipe σ vs) H1 (fun _ _ => False) I1 (hfp H1 n1) st1 stop) (fun got s2 h2 => ?_) fun _ _ z => z.elim
    obtain ⟨e, I2⟩ := h2
    subst e
    exact hR s2 H1 I2 fine
  · refine wpAny_mono (T.item (X.blk sB HB scB ceB fpB) rfl rfl rfl hc i _ s1 (wipe σ vs) H1 (fun _ _ => False) I1 (hfp H1 n1) st1 go) (fun got s2 h2 => ?_) fun _ _ z => z.elim
    obtain ⟨u, e, h2⟩ := h2
    subst e
    refine wpAny_mono h2 (fun _ s3 h3 => ?_) fun _ _ z => z.elim
    obtain ⟨x, H3, I3, r3, y3, st3, n3⟩ := h3
    have I3' := I3.pinned (hfp H3 n3) (T.obj _ _ st3)
    refine wpAny_mono (hg.run _ s3 (wipe σ vs) H3 x u _ I3' r3 (step x H3 y3)) (fun _ s4 h4 => ?_) fun _ _ z => z.elim
    obtain ⟨σ4, H4, I4, w4, q4⟩ := h4
    refine wpAny_mono (ht.run _ s4 σ4 H4 _ I4 q4) (fun b s5 h5 => ?_) fun _ _ z => z.elim
    obtain ⟨H5, I5, q5⟩ := h5
    have next : ∀ {σ' : L2.St} {s' : Shared} {H' : Hp}, Inv (X.blk sB HB scB ceB fpB) (pins ++ pinsAt fp s3.heap) σ' H' s' → (wipe σ vs).length = σ'.length → (∀ (j : Nat) v, (wipe σ vs)[j]? = some (some v) → σ'[j]? = some (some v)) → N1 H' →
        ∃ m, m < n ∧ ∃ i H', Inv (X.blk sB HB scB ceB fpB) pins (wipe σ vs) H' s' ∧ tn i s'.heap ∧ (∀ b ∈ fp, H' b = none) ∧ W i m H' := fun {σ' s' H'} I' hl hk nx => by
      obtain ⟨m', hm, w'⟩ := hN1 H' nx
      have there : ∀ b ∈ fp, ∀ o, s3.heap.get? b = some o → s'.heap.get? b = some o ∧ H' b = none := fun b hb o e => by
        have z := I'.pin (b, o) (List.mem_append_right _ (List.mem_append_right _ (mem_pinsAt hb e)))
        exact ⟨z.1, z.2.1⟩
      refine ⟨m', hm, i + 1, H', I'.unpinned.weak hl hk, T.keep _ _ _ st3 fun b hb o e => (there b hb o e).1, fun b hb => ?_, w'⟩
      obtain ⟨o, e, _⟩ := T.obj _ _ st3 b hb
      exact (there b hb o e).2
    cases b with
    | false => exact next I5 (by rw [← w4, wipe_length]) (fun j v e => by rw [← w4] at e; exact (wipe_some e).1) q5
    | true =>
      intro on Q E q
      refine hb.run _ s5 σ4 H5 N1 I5 q5 on Q E fun s6 h6 => q s6 ?_
      obtain ⟨H6, I6, nx⟩ := h6
      refine next I6 (by rw [← w4, wipe_length, wipe_length]) (fun j v e => ?_) nx
      rw [← w4] at e
      obtain ⟨e1, e2⟩ := wipe_some e
      rw [wipe_out fun z => e2 (hv j z)]
      exact e1
/-- one clause more -/
theorem pcl_next (hc : X.calm = true) (hk : gens[k]? = some ⟨tg, iter, ifs, 0⟩) (ti : TurnIs elt gens scope pos k tg iter ifs (.ref D) ceB body) (hi : PI (X.blk sB HB scB ceB fpB) tg iter wi) (hg : PG (X.blk sB HB scB ceB fpB) tg g) (ht : PTs (X.blk sB HB scB ceB fpB) ifs tt) (hb : PCl (X.blk sB HB scB ceB fpB) body t vd) (hv : ∀ i ∈ vd, i ∈ vs)
    (hs : ∀ x, foldedSetIterable iter ceB x = pure x) : PCl (X.blk sB HB scB ceB fpB) (nextOf (.ListComp elt gens scope pos) k iter (.ref D) ceB) (tNest wi g tt vs t) vs := by
  refine ⟨fun pins s σ H N I h on Q E q => ?_⟩
  unfold nextOf
  refine wpAny_bind (wpAny_mono (hi.run pins s σ H _ I h) (fun z s1 h1 => ?_) fun _ _ z => z.elim)
  refine wpAny_bind (wpAny_standAt (wpAny_bind (wpAny_of_eq (hs z) (wpAny_bind (wpAny_holding (wpAny_mono h1 (fun it1 s2 h2 => ?_) fun _ _ z => z.elim))))))
  obtain ⟨it, fp, tn, J, H2, e, I2, T, st, f2, tr⟩ := h2
  subst e
  refine wpAny_bind (wpAny_runOwn ?_)
  rw [Around.mark_none]
  have loop : codeAny (model X.prog X.w) X.A (.compLoop (.ListComp elt gens scope pos) k (.ref it) (.ref D) ceB) (fun r s' => match r with
      | .ok _ => ∃ H', Inv (X.blk sB HB scB ceB fpB) pins (wipe σ vs) H' s' ∧ N H'
      | .error _ => False) s2 :=
    turns_run hc ti hg ht hb hv I2 T st (fun H' hn b hb => ⟨hn b hb, (f2 b hb).2⟩) (fun b hb => (f2 b hb).1) tr fun s' H' I' n' => ⟨H', I', n'⟩
  refine codeAny_mono (start_of hk rfl loop (T.self X.A 0 _ _ _ st loop)) fun r s' hr => ?_
  cases r with
  | error e => exact hr.elim
  | ok f => exact q s' hr
end
/-! the whole comprehension -/
section
variable {X : Cx} {elt tg iter : Expr} {more : List Comprehension} {scope : Scope} {own : List (Str × Nat)} {pos : Pos} {ifs : List Expr} {wi : TI} {g : TG} {tt : TT} {t : Addr → TC} {vd : List Nat} {body : Value → Env → Sem Fin → Sem Fin}
theorem pe_lcN (hc : X.calm = true) (hN : X.N.Nodup) (hi : PI X tg iter wi) (ok : BlkOk X.N X.env.scope scope own)
    (ti : ∀ acc env, TurnIs elt (⟨tg, iter, ifs, 0⟩ :: more) scope pos 0 tg iter ifs acc env (body acc env))
    (hg : ∀ (s : Shared) (H : Hp) (C : Addr) (cl : List (Str × Addr)) (fp : List Addr), PG (X.blk s H scope (compEnvC scope cl C X.env) fp) tg g)
    (ht : ∀ (s : Shared) (H : Hp) (C : Addr) (cl : List (Str × Addr)) (fp : List Addr), PTs (X.blk s H scope (compEnvC scope cl C X.env) fp) ifs tt)
    (hb : ∀ (s : Shared) (H : Hp) (C : Addr) (cl : List (Str × Addr)) (fp : List Addr) (D : Addr), PCl (X.blk s H scope (compEnvC scope cl C X.env) fp) (body (.ref D) (compEnvC scope cl C X.env)) (t D) vd)
    (hv : ∀ i ∈ vd, i ∈ own.map (·.2)) (hs : ∀ x, foldedSetIterable iter X.env x = pure x := by intro _; rfl) :
    PE X (.ListComp elt (⟨tg, iter, ifs, 0⟩ :: more) scope pos) (tLcN wi g tt (own.map (·.2)) t) := by
  refine ⟨fun pins s σ H Q I h => ?_⟩
  rw [eval_ListComp]
  have captured : ∀ y ∈ scope.names, y.2 = .free → ∃ c, X.env.cells.lookup y.1 = some c := fun y hy e =>
    (ok.free y hy e).elim (fun z => I.ok.has _ (.inl z)) fun z => I.ok.has _ (.inr z)
  refine wpAny_comprehension_free (use := none) (g := ⟨tg, iter, ifs, 0⟩) (gs := more) rfl hs (closure_ok captured) ok.kind (fun y hy e => by rw [ok.uniq y hy, e])
    (thn (hi.run pins s σ H _ I h) fun z s1 hz => thn hz fun w s2 hw => ?_)
  obtain ⟨it, fp, tn, J, H2, e, I2, T, st2, f2, q⟩ := hw
  subst e
  refine wpAny_newObj_type (newEnv_comp ?_) (by show 0 ≤ sizeLine; decide)
  obtain ⟨D, hD⟩ : ∃ D, s2.heap.objs.size = D := ⟨_, rfl⟩
  rw [hD]
  have tr := q D (I2.hok.fresh (Nat.le_of_eq hD))
  obtain ⟨s3, hs3⟩ : ∃ s3 : Shared, ({ s2 with heap := s2.heap.push { cls := .type "list", data := .seq ([] : List Value).toArray } } : Shared) = s3 := ⟨_, rfl⟩
  have h3 : s3.heap = s2.heap.push { cls := .type "list", data := .seq ([] : List Value).toArray } := by rw [← hs3]
  rw [hs3]
  have I3 : Inv X pins σ (upd H2 D (.lst [])) s3 := by
    rw [← hs3]
    exact I2.laid (t' := s2.toks) (fun b o e => Heap.get?_push_of_some _ e) (Nat.le_of_eq hD) ⟨Nat.zero_le _, [], 0, .nil, hD ▸ Heap.get?_push_size _ rfl⟩
  have old : ∀ b ∈ fp, b < s2.heap.objs.size := fun b hb => (T.obj _ _ st2 b hb).elim fun o e => Heap.lt_size e.1
  have f3 : ∀ b ∈ fp, FpOk X pins (upd H2 D (.lst [])) b ∧ b < s3.heap.objs.size := fun b hb => by
    have l := old b hb
    refine ⟨⟨(upd_ne (by rw [← hD]; exact Nat.ne_of_lt l)).trans (f2 b hb).1, (f2 b hb).2⟩, ?_⟩
    rw [h3, Heap.size_push]
    exact Nat.lt_succ_of_lt l
  have st3 : tn 0 s3.heap := T.keep _ _ _ st2 fun b _ o e => h3 ▸ Heap.get?_push_of_some _ e
  have I4 := block_start I3 ok hN f3
  obtain ⟨cl, hcl⟩ : ∃ cl, cellsFrom (s3.heap.objs.size + 1) scope.names (cloFrom X.env.cells scope.names []) = cl := ⟨_, rfl⟩
  rw [hcl] at I4 ⊢
  have pg := hg s3 (upd H2 D (.lst [])) s3.heap.objs.size cl fp
  have pt := ht s3 (upd H2 D (.lst [])) s3.heap.objs.size cl fp
  have pb := hb s3 (upd H2 D (.lst [])) s3.heap.objs.size cl fp D
  have tin := ti (.ref D) (compEnvC scope cl s3.heap.objs.size X.env)
  have cL : (compEnvC scope cl s3.heap.objs.size X.env).locals = s3.heap.objs.size := rfl
  have f3n : ∀ b ∈ fp, (upd H2 D (.lst [])) b = none := fun b hb => (f3 b hb).1.1
  have fpI : ∀ H' : Hp, (∀ b ∈ fp, H' b = none) → ∀ b ∈ fp, FpOk (X.blk s3 (upd H2 D (.lst [])) scope (compEnvC scope cl s3.heap.objs.size X.env) fp) [] H' b := fun H' hn b hb =>
    ⟨hn b hb, (I4.ok.exf b hb).1, I4.ok.exfs b hb, .inl hb, fun x c e => (I4.ok.exf b hb).2 x c e, fun p hp => absurd (show p ∈ ([] : List (Addr × Obj)) ++ [] from hp) (by simp)⟩
  show codeAny _ _ (.compStart (.ListComp elt (⟨tg, iter, ifs, 0⟩ :: more) scope pos) 0 (.ref it) (.ref D) (compEnvC scope cl s3.heap.objs.size X.env)) (compPost (model X.prog X.w) X.A X.xe none _ (.ref D) s3.heap.objs.size) { s3 with heap := pushCells (s3.heap.push { cls := .type "dict", data := .dict #[] }) scope.names }
  have st4 : tn 0 (pushCells (s3.heap.push { cls := .type "dict", data := .dict #[] }) scope.names) := T.keep _ _ _ st3 fun b _ o e => pushCells_keeps _ _ _ _ (Heap.get?_push_of_some _ e)
  have loop : codeAny (model X.prog X.w) X.A (.compLoop (.ListComp elt (⟨tg, iter, ifs, 0⟩ :: more) scope pos) 0 (.ref it) (.ref D) (compEnvC scope cl s3.heap.objs.size X.env))
      (compPost (model X.prog X.w) X.A X.xe none (fun v s' => ∃ x H', Inv X pins σ H' s' ∧ RelV x v ∧ Q x H') (.ref D) s3.heap.objs.size) { s3 with heap := pushCells (s3.heap.push { cls := .type "dict", data := .dict #[] }) scope.names } := by
    refine turns_run (σ := wipe σ (own.map (·.2))) (N := Q (.ref D)) (vs := own.map (·.2)) hc tin pg pt pb hv I4 T st4 fpI f3n ?_ fun s5 H5 I5 n5 => ?_
    · have ww : ∀ vs' : List Nat, wipe (wipe σ vs') vs' = wipe σ vs' := fun vs' => by
        apply List.ext_getElem?
        intro j
        by_cases m : j ∈ vs'
        · have none_at : ∀ (τ : L2.St), τ.length = σ.length → (wipe τ vs')[j]? = if j < σ.length then some none else none := fun τ lt => by
            cases e : (wipe τ vs')[j]? with
            | none =>
              have := List.getElem?_eq_none_iff.mp e
              rw [wipe_length, lt] at this
              rw [if_neg (by omega)]
            | some o =>
              have := (List.getElem?_eq_some_iff.mp e).1
              rw [wipe_length, lt] at this
              rw [if_pos this]
              cases o with
              | none => rfl
              | some v => exact absurd m (wipe_some e).2
          rw [none_at _ (wipe_length _ _), none_at _ rfl]
        · rw [wipe_out m]
      obtain ⟨W, h0, go⟩ := tr
      refine ⟨W, h0, fun i m H hw => (go i m H hw).imp id fun z => ?_⟩
      rw [ww]
      exact z
    · have I6 : Inv X pins σ H5 s5 := I3.call' (ch := fp) I5.os I5.base I5.hok I5.bare fun b hb => ⟨(f3 b hb).1.2.2.2.1, (f3 b hb).1.2.1, (f3 b hb).1.2.2.2.2.1, (f3 b hb).1.2.2.2.2.2⟩
      obtain ⟨m, hn, _⟩ := I5.loc
      obtain ⟨f0, f1, f2', f3', f4, f5⟩ := I3.fpOk (Nat.le_refl _) (show H5 s3.heap.objs.size = none from I5.free)
      exact ⟨m, hn, fun h'' sb => ⟨.ref D, H5, I6.turned (t' := s5.toks) (fun b o hb e => (sb.2 b hb).trans e) f0 f1 f3' f4 f5, rfl, n5⟩⟩
  exact codeAny_compStart_list loop (T.self X.A 0 _ _ _ st4 loop)
end
section
variable {X : Cx} {elt t0 i0 t1 i1 t2 i2 : Expr} {f0 f1 f2 : List Expr} {scope : Scope} {own : List (Str × Nat)} {vs1 vs2 : List Nat} {pos : Pos} {w0 w1 w2 : TI} {g0 g1 g2 : TG} {u0 u1 u2 : TT} {te : TE}
theorem pe_lc3 (hc : X.calm = true) (hN : X.N.Nodup) (hi : PI X t0 i0 w0) (ok : BlkOk X.N X.env.scope scope own) (hv2 : ∀ i ∈ vs2, i ∈ vs1) (hv1 : ∀ i ∈ vs1, i ∈ own.map (·.2))
    (hg0 : ∀ (s : Shared) (H : Hp) (C : Addr) (cl : List (Str × Addr)) (fp : List Addr), PG (X.blk s H scope (compEnvC scope cl C X.env) fp) t0 g0) (ht0 : ∀ (s : Shared) (H : Hp) (C : Addr) (cl : List (Str × Addr)) (fp : List Addr), PTs (X.blk s H scope (compEnvC scope cl C X.env) fp) f0 u0)
    (hi1 : ∀ (s : Shared) (H : Hp) (C : Addr) (cl : List (Str × Addr)) (fp : List Addr), PI (X.blk s H scope (compEnvC scope cl C X.env) fp) t1 i1 w1) (hg1 : ∀ (s : Shared) (H : Hp) (C : Addr) (cl : List (Str × Addr)) (fp : List Addr), PG (X.blk s H scope (compEnvC scope cl C X.env) fp) t1 g1) (ht1 : ∀ (s : Shared) (H : Hp) (C : Addr) (cl : List (Str × Addr)) (fp : List Addr), PTs (X.blk s H scope (compEnvC scope cl C X.env) fp) f1 u1)
    (hi2 : ∀ (s : Shared) (H : Hp) (C : Addr) (cl : List (Str × Addr)) (fp : List Addr), PI (X.blk s H scope (compEnvC scope cl C X.env) fp) t2 i2 w2) (hg2 : ∀ (s : Shared) (H : Hp) (C : Addr) (cl : List (Str × Addr)) (fp : List Addr), PG (X.blk s H scope (compEnvC scope cl C X.env) fp) t2 g2) (ht2 : ∀ (s : Shared) (H : Hp) (C : Addr) (cl : List (Str × Addr)) (fp : List Addr), PTs (X.blk s H scope (compEnvC scope cl C X.env) fp) f2 u2)
    (he : ∀ (s : Shared) (H : Hp) (C : Addr) (cl : List (Str × Addr)) (fp : List Addr), PE (X.blk s H scope (compEnvC scope cl C X.env) fp) elt te)
    (hs0 : ∀ x, foldedSetIterable i0 X.env x = pure x := by intro _; rfl) (hs1 : ∀ env x, foldedSetIterable i1 env x = pure x := by intro _ _; rfl) (hs2 : ∀ env x, foldedSetIterable i2 env x = pure x := by intro _ _; rfl) :
    PE X (.ListComp elt [⟨t0, i0, f0, 0⟩, ⟨t1, i1, f1, 0⟩, ⟨t2, i2, f2, 0⟩] scope pos) (tLcN w0 g0 u0 (own.map (·.2)) fun D => tNest w1 g1 u1 vs1 (tNest w2 g2 u2 vs2 (tEnd te D))) :=
  pe_lcN (more := [⟨t1, i1, f1, 0⟩, ⟨t2, i2, f2, 0⟩]) (body := fun acc env => nextOf (.ListComp elt (cls3 t0 i0 t1 i1 t2 i2 f0 f1 f2) scope pos) 1 i1 acc env) hc hN hi ok (fun _ _ => turn3_0) hg0 ht0
    (fun s H C cl fp D => pcl_next (gens := cls3 t0 i0 t1 i1 t2 i2 f0 f1 f2) (k := 1) hc rfl turn3_1 (hi1 s H C cl fp) (hg1 s H C cl fp) (ht1 s H C cl fp)
      (pcl_next (gens := cls3 t0 i0 t1 i1 t2 i2 f0 f1 f2) (k := 2) hc rfl turn3_2 (hi2 s H C cl fp) (hg2 s H C cl fp) (ht2 s H C cl fp) (pcl_last (he s H C cl fp)) (fun _ z => nomatch z) (hs2 _)) hv2 (hs1 _)) hv1 hs0
end
end My
/-! ### machines as lists -/
namespace My
open PySem PySem.Spec PyProof.Rows L2
structure Mc where
  b : Int
  z : Str
  C : List (List (List (Int × Int)))
def eP (p : Int × Int) : PyData := .tuple [.int p.1, .int p.2]
def eC (ps : List (Int × Int)) : PyData := .tuple (ps.map eP)
def eS (cs : List (List (Int × Int))) : PyData := .tuple (cs.map eC)
def eM (M : Mc) : PyData := .tuple [.int M.b, .str M.z, .tuple (M.C.map eS)]
/-- the pair of a choice of one -/
def fC (ps : List (Int × Int)) : PyData := eP (ps.headD (0, 0))
def fS (cs : List (List (Int × Int))) : PyData := .tuple (cs.map fC)
def fM (M : Mc) : PyData := .tuple [.int M.b, .str M.z, .tuple (M.C.map fS)]
abbrev wideN : Int := (10 : Int) ^ (30 : Int).toNat
structure Mok (M : Mc) : Prop where
  b2 : 2 ≤ M.b
  b9 : M.b ≤ 9
  ltr : lettersL M.z.cps.toList = true
  c1 : 1 ≤ M.C.length
  c3 : M.C.length ≤ 300
  row : ∀ cs ∈ M.C, cs.length = M.z.length
  ch : ∀ cs ∈ M.C, ∀ ps ∈ cs, 1 ≤ ps.length ∧ ps.length ≤ 3
  pr : ∀ cs ∈ M.C, ∀ ps ∈ cs, ∀ p ∈ ps, -wideN ≤ p.1 ∧ p.1 ≤ wideN ∧ 0 ≤ p.2 ∧ p.2 ≤ (M.C.length : Int) - 1
  few : M.C.length ≤ 4 ∨ ∀ cs ∈ M.C, ∀ ps ∈ cs, ps.length = 1
theorem lift_map {α : Type} {f : α → PyData} {P : α → Prop} : ∀ ds : List PyData, (∀ d ∈ ds, ∃ x, d = f x ∧ P x) → ∃ xs : List α, ds = xs.map f ∧ ∀ x ∈ xs, P x
  | [], _ => ⟨[], rfl, fun _ h => nomatch h⟩
  | d :: ds, h => by
    obtain ⟨x, rfl, hx⟩ := h d (.head _)
    obtain ⟨xs, rfl, hxs⟩ := lift_map ds fun e he => h e (.tail _ he)
    refine ⟨x :: xs, rfl, fun y hy => ?_⟩
    rcases List.mem_cons.mp hy with e | e
    · subst e; exact hx
    · exact hxs y e
theorem pairD_form {most many : Int} {d : PyData} (h : pairD most many d = true) : ∃ p : Int × Int, d = eP p ∧ -most ≤ p.1 ∧ p.1 ≤ most ∧ 0 ≤ p.2 ∧ p.2 ≤ many - 1 := by
  unfold pairD at h
  split at h
  · rename_i p t
    rw [Bool.and_eq_true] at h
    obtain ⟨i, rfl⟩ := betD_int h.1
    obtain ⟨j, rfl⟩ := betD_int h.2
    obtain ⟨h1, h2⟩ := h
    unfold betD at h1 h2
    rw [Bool.and_eq_true, decide_eq_true_eq, decide_eq_true_eq] at h1 h2
    exact ⟨(i, j), rfl, h1.1, h1.2, h2.1, h2.2⟩
  · cases h
theorem chD_form {many : Int} {d : PyData} (h : chD many d = true) : ∃ ps, d = eC ps ∧ (1 ≤ ps.length ∧ ps.length ≤ 3) ∧ ∀ p ∈ ps, -20 ≤ p.1 ∧ p.1 ≤ 20 ∧ 0 ≤ p.2 ∧ p.2 ≤ many - 1 := by
  unfold chD at h
  split at h
  · rename_i ds
    rw [Bool.and_eq_true, Bool.and_eq_true, List.all_eq_true] at h
    obtain ⟨h1, h2, _⟩ := h
    obtain ⟨ps, rfl, hp⟩ := lift_map (f := eP) ds fun d hd => pairD_form (h2 d hd)
    refine ⟨ps, rfl, ?_, hp⟩
    unfold tupD at h1
    rw [Bool.and_eq_true, decide_eq_true_eq, decide_eq_true_eq, List.length_map] at h1
    omega
  · cases h
theorem frmD_form {most : Int} {d : PyData} (h : frmD most d = true) : ∃ (b : Int) (z : Str) (sss : List (List PyData)), d = .tuple [.int b, .str z, .tuple (sss.map .tuple)] ∧ 2 ≤ b ∧ b ≤ 9 ∧ lettersL z.cps.toList = true ∧ 1 ≤ sss.length ∧ (sss.length : Int) ≤ most ∧ ∀ s ∈ sss, s.length = z.length := by
  unfold frmD at h
  split at h
  · rename_i b l s
    rw [Bool.and_eq_true, Bool.and_eq_true] at h
    obtain ⟨h1, h2, h3⟩ := h
    obtain ⟨i, rfl⟩ := betD_int h1
    unfold betD at h1
    rw [Bool.and_eq_true, decide_eq_true_eq, decide_eq_true_eq] at h1
    cases l with
    | str z =>
      have h4 := tabD_tup h3
      cases s with
      | tuple ss =>
        obtain ⟨sss, rfl, hs⟩ := lift_map (f := PyData.tuple) (P := fun s => s.length = z.length) ss fun d hd => by
          have : tupD (z.length : Int) (z.length : Int) d = true := h4.2 d hd
          cases d with
          | tuple es =>
            unfold tupD at this
            rw [Bool.and_eq_true, decide_eq_true_eq, decide_eq_true_eq] at this
            exact ⟨es, rfl, by omega⟩
          | _ => exact absurd this (by simp [tupD])
        have h5 := h4.1
        unfold tupD at h5
        rw [Bool.and_eq_true, decide_eq_true_eq, decide_eq_true_eq, List.length_map] at h5
        exact ⟨i, z, sss, rfl, h1.1, h1.2, h2, by omega, h5.2, hs⟩
      | _ => exact absurd h4.1 (by simp [tupD])
    | _ => exact absurd h2 (by simp [ltrD])
  · cases h
theorem flat_all {sss : List (List PyData)} {f : PyData → Bool} (h : ((sss.map PyData.tuple).flatMap fun st => (elems st).map f).all id = true) : ∀ s ∈ sss, ∀ d ∈ s, f d = true := fun s hs d hd => by
  rw [List.all_eq_true] at h
  exact h (f d) (List.mem_flatMap.mpr ⟨.tuple s, List.mem_map_of_mem hs, List.mem_map_of_mem hd⟩)
theorem lift_map2 {α : Type} {f : α → PyData} {P : α → Prop} : ∀ sss : List (List PyData), (∀ s ∈ sss, ∀ d ∈ s, ∃ x, d = f x ∧ P x) → ∃ xss : List (List α), sss = xss.map (List.map f) ∧ ∀ xs ∈ xss, ∀ x ∈ xs, P x
  | [], _ => ⟨[], rfl, fun _ h => nomatch h⟩
  | s :: sss, h => by
    obtain ⟨xs, rfl, hx⟩ := lift_map s (h s (.head _))
    obtain ⟨xss, rfl, hxs⟩ := lift_map2 sss fun e he => h e (.tail _ he)
    refine ⟨xs :: xss, rfl, fun y hy => ?_⟩
    rcases List.mem_cons.mp hy with e | e
    · subst e; exact hx
    · exact hxs y e
theorem mch_form {d : PyData} (h : mchD d = true) : ∃ M, d = eM M ∧ Mok M ∧ M.C.length ≤ 4 ∧ ∀ cs ∈ M.C, ∀ ps ∈ cs, ∀ p ∈ ps, -20 ≤ p.1 ∧ p.1 ≤ 20 := by
  have hf : frmD 4 d = true := by
    cases e : frmD 4 d with
    | true => rfl
    | false => rw [mchD_not (by rw [e]; decide)] at h; cases h
  obtain ⟨b, z, sss, rfl, b2, b9, hl, s1, s4, hs⟩ := frmD_form hf
  unfold mchD at h
  rw [Bool.and_eq_true] at h
  have h2 := flat_all h.2
  rw [List.length_map] at h2
  obtain ⟨xss, rfl, hx⟩ := lift_map2 (f := eC) sss fun s hs d hd => chD_form (h2 s hs d hd)
  rw [List.length_map] at s1 s4
  refine ⟨⟨b, z, xss⟩, ?_, ⟨b2, b9, hl, s1, (show xss.length ≤ 300 by omega), fun cs hcs => ?_, fun cs hcs ps hps => (hx cs hcs ps hps).1, fun cs hcs ps hps p hp => ?_, .inl (show xss.length ≤ 4 by omega)⟩, (show xss.length ≤ 4 by omega), fun cs hcs ps hps p hp => ?_⟩
  · unfold eM eS
    rw [List.map_map]
    rfl
  · have := hs (cs.map eC) (List.mem_map_of_mem hcs)
    rw [List.length_map] at this
    exact this
  · obtain ⟨p1, p2, p3, p4⟩ := (hx cs hcs ps hps).2 p hp
    have w : (20 : Int) ≤ wideN := by decide +kernel
    rw [List.length_map] at p4
    exact ⟨by omega, by omega, p3, p4⟩
  · obtain ⟨p1, p2, p3, p4⟩ := (hx cs hcs ps hps).2 p hp
    exact ⟨p1, p2⟩
theorem pln_form {d : PyData} (h : plnD d = true) : ∃ M, d = fM M ∧ withD d = eM M ∧ Mok M ∧ ∀ cs ∈ M.C, ∀ ps ∈ cs, ps.length = 1 := by
  have hf : frmD 300 d = true := by
    cases e : frmD 300 d with
    | true => rfl
    | false => rw [plnD_not (by rw [e]; decide)] at h; cases h
  obtain ⟨b, z, sss, rfl, b2, b9, hl, s1, s4, hs⟩ := frmD_form hf
  unfold plnD at h
  rw [Bool.and_eq_true] at h
  have h2 := flat_all h.2
  rw [List.length_map] at h2
  obtain ⟨xss, rfl, hx⟩ := lift_map2 (f := eP) sss fun s hs d hd => pairD_form (h2 s hs d hd)
  rw [List.length_map] at s1 s4
  have one : ∀ cs ∈ xss.map (List.map fun p : Int × Int => [p]), ∀ ps ∈ cs, ∃ xs ∈ xss, ∃ p ∈ xs, ps = [p] ∧ cs = xs.map fun p => [p] := fun cs hcs ps hps => by
    obtain ⟨xs, hxs, rfl⟩ := List.mem_map.mp hcs
    obtain ⟨p, hp, rfl⟩ := List.mem_map.mp hps
    exact ⟨xs, hxs, p, hp, rfl, rfl⟩
  refine ⟨⟨b, z, xss.map (List.map fun p => [p])⟩, ?_, ?_, ⟨b2, b9, hl, ?_, ?_, fun cs hcs => ?_, fun cs hcs ps hps => ?_, fun cs hcs ps hps p hp => ?_, .inr fun cs hcs ps hps => ?_⟩, fun cs hcs ps hps => ?_⟩
  · unfold fM fS
    simp only [List.map_map]
    refine congrArg (fun l => PyData.tuple [.int b, .str z, .tuple l]) (List.map_congr_left fun xs _ => ?_)
    show PyData.tuple (xs.map eP) = .tuple ((xs.map fun p => [p]).map fC)
    rw [List.map_map]
    rfl
  · unfold withD eM eS
    simp only [List.map_map]
    refine congrArg (fun l => PyData.tuple [.int b, .str z, .tuple l]) (List.map_congr_left fun xs _ => ?_)
    show PyData.tuple ((elems (.tuple (xs.map eP))).map fun pr => .tuple [pr]) = .tuple ((xs.map fun p => [p]).map eC)
    unfold elems eC
    simp only [List.map_map]
    rfl
  · show 1 ≤ (List.map _ xss).length
    rw [List.length_map]; exact s1
  · show (List.map _ xss).length ≤ 300
    rw [List.length_map]; omega
  · obtain ⟨xs, hxs, rfl⟩ := List.mem_map.mp hcs
    have := hs (xs.map eP) (List.mem_map_of_mem hxs)
    rw [List.length_map] at this
    rw [List.length_map]
    exact this
  · obtain ⟨xs, hxs, p, hp, rfl, _⟩ := one cs hcs ps hps
    exact ⟨Nat.le_refl _, Nat.le_add_left 1 2⟩
  · obtain ⟨xs, hxs, q, hq, rfl, _⟩ := one cs hcs ps hps
    obtain rfl := List.mem_singleton.mp hp
    obtain ⟨p1, p2, p3, p4⟩ := hx xs hxs p hq
    refine ⟨p1, p2, p3, ?_⟩
    show p.2 ≤ ((List.map _ xss).length : Int) - 1
    rw [List.length_map] at p4 ⊢
    exact p4
  · obtain ⟨xs, hxs, p, hp, rfl, _⟩ := one cs hcs ps hps
    rfl
  · obtain ⟨xs, hxs, p, hp, rfl, _⟩ := one cs hcs ps hps
    rfl
/-! on the heap -/
theorem rpAll_get {K : PySem.W.Frag} {H : Hp} {α : Type} {f : α → PyData} : ∀ {l : List α} {vs : List V}, RpAll K H vs (l.map f) → ∀ {i : Nat} {x : α}, l[i]? = some x → ∃ v, vs[i]? = some v ∧ Rp K H v (f x)
  | [], _, _, i, x, e => by simp at e
  | a :: l, _, .cons h t, 0, x, e => by cases e; exact ⟨_, rfl, h⟩
  | a :: l, _, .cons h t, i + 1, x, e => rpAll_get (l := l) t (i := i) (by simpa using e)
theorem rpAll_back {K : PySem.W.Frag} {H : Hp} {α : Type} {f : α → PyData} : ∀ {l : List α} {vs : List V}, RpAll K H vs (l.map f) → ∀ {i : Nat} {v : V}, vs[i]? = some v → ∃ x, l[i]? = some x ∧ Rp K H v (f x)
  | [], _, .nil, i, v, e => by simp at e
  | a :: l, _, .cons h t, 0, v, e => by cases e; exact ⟨_, rfl, h⟩
  | a :: l, _, .cons h t, i + 1, v, e => rpAll_back (l := l) t (i := i) (by simpa using e)
theorem Rp.pair {K : PySem.W.Frag} {H : Hp} {v : V} {p : Int × Int} (h : Rp K H v (eP p)) : ∃ a, v = .ref a ∧ SqT K H a [.int p.1, .int p.2] := by
  obtain ⟨a, ys, rfl, hS, hA⟩ := Rp.isTup h
  obtain ⟨u, w, p2, t, rfl, e, h1, h2⟩ := hA.two rfl
  cases e
  cases h1.isInt
  cases h2.isInt
  exact ⟨a, rfl, hS⟩
theorem Rp.three {K : PySem.W.Frag} {H : Hp} {v : V} {b : Int} {z : Str} {d : PyData} (h : Rp K H v (.tuple [.int b, .str z, d])) : ∃ a w, v = .ref a ∧ SqT K H a [.int b, .str z, w] ∧ Rp K H w d := by
  obtain ⟨a, ys, rfl, hS, hA⟩ := Rp.isTup h
  obtain ⟨u, w, y, p, t, q, rfl, e, h1, h2, h3⟩ := hA.three rfl
  cases e
  cases h1.isInt
  obtain ⟨_, rfl, e2, _⟩ := h2.isStr rfl
  cases e2
  exact ⟨a, y, rfl, hS, h3⟩
theorem ltr_pos {z : Str} (h : lettersL z.cps.toList = true) : 1 ≤ z.length ∧ z.length ≤ 3 := by
  by_cases e : 1 ≤ z.length ∧ z.length ≤ 3
  · exact e
  · rw [lettersL_not e] at h
    cases h
theorem ixT {X : Cx} {K : PySem.W.Frag} (e : X.K = K) : IxR X (rIxT K) := by
  subst e
  exact ix_tup
theorem piT {X : Cx} {K : PySem.W.Frag} {tg l : Expr} {tl : TE} (e : X.K = K) (h : PE X l tl) : PI X tg l (iTup K tl) := pi_tupK e h
end My
/-! ### dicts of whole numbers on the heap -/
namespace My
open PySem PySem.Spec PyProof.Rows L2
def kd (d : Dk) : List (Key × V) := d.map fun kv => (Sum.inl kv.1, V.int kv.2)
theorem kd_any (d : Dk) (k : Int) : ((kd d).any fun kv => decide (kv.1 = Sum.inl k)) = d.any fun kv => decide (kv.1 = k) := by
  unfold kd
  rw [List.any_map]
  congr 1
  funext kv
  show decide ((Sum.inl kv.1 : Key) = Sum.inl k) = decide (kv.1 = k)
  simp
theorem kd_val (k : Int) : ∀ d : Dk, valV (kd d) (Sum.inl k) = (getI d k).map V.int
  | [] => rfl
  | p :: r => by
    rw [getI_cons]
    show valV ((Sum.inl p.1, V.int p.2) :: kd r) (Sum.inl k) = _
    by_cases e : p.1 = k
    · rw [if_pos e, valV_pos (by rw [e])]
      rfl
    · rw [if_neg e, valV_neg (by show ¬ (Sum.inl p.1 : Key) = Sum.inl k; simpa using e), kd_val k r]
theorem kd_put (d : Dk) (k v : Int) : putK (kd d) (Sum.inl k) (V.int v) = kd (putI d k v) := by
  unfold putK putI
  rw [kd_any]
  split
  · unfold kd
    rw [List.map_map, List.map_map]
    refine List.map_congr_left fun p _ => ?_
    show (if (Sum.inl p.1 : Key) = Sum.inl k then ((Sum.inl p.1 : Key), V.int v) else (Sum.inl p.1, V.int p.2)) = _
    by_cases e : p.1 = k
    · simp [e]
    · simp [e]
  · unfold kd
    rw [List.map_append]
    rfl
theorem kd_get {H : Hp} {a : Addr} {d : Dk} {k : Int} (h : Rd H a (.dK (kd d))) : DGet H a (.int k) ((getI d k).map V.int) := .inl ⟨kd d, Sum.inl k, h, rfl, (kd_val k d).symm⟩
theorem kd_len (d : Dk) : (kd d).length = d.length := List.length_map _
theorem put_len (d : Dk) (k v : Int) : (putI d k v).length ≤ d.length + 1 := by
  unfold putI
  split
  · rw [List.length_map]; omega
  · rw [List.length_append]; exact Nat.le_refl _
theorem kd_keys (d : Dk) : (kd d).map (·.1) = (keysI d).map Sum.inl := by
  unfold kd keysI
  rw [List.map_map, List.map_map]
  rfl
theorem kd_vals (d : Dk) : (kd d).map (·.2) = (d.map (·.2)).map V.int := by
  unfold kd
  rw [List.map_map, List.map_map]
  rfl
/-! the greatest of a dict's values -/
def tMaxVals (td : TE) : TE := fun σ H Q => td σ H fun x H1 => ∃ (a : Addr) (d : Dk), x = V.ref a ∧ H1 a = some (.dK (kd d)) ∧ d ≠ [] ∧ Q (.int (maxL (d.map (·.2)))) H1
section
variable {X : Cx} {o : Expr} {p pos apos mpos : Pos} {td : TE}
theorem pe_maxVals (hc : X.calm = true) (hg : Gl X "max") (hm : X.mg "max" = none) (hd : PE X o td) (hat : attributeBase o "values" X.env (eval o X.env) = eval o X.env := by rfl) (hrow : (apos.endLine == mpos.line) = true := by rfl)
    (hone : starEach [Expr.Call (.Attribute o "values" apos) [] [] mpos] X.env = [(false, eval (Expr.Call (.Attribute o "values" apos) [] [] mpos) X.env)] := by rfl) :
    PE X (.Call (.Name "max" p) [.Call (.Attribute o "values" apos) [] [] mpos] [] pos) (tMaxVals td) := by
  refine ⟨fun pins s σ H Q I h => ?_⟩
  refine wpAny_Call_Name_kw (ld_blt I hg hm (u := .builtin "max") (by decide +kernel) ?_ (by decide +kernel) (by decide +kernel))
  rw [hone]
  refine PySem.callWith_builtin1 (wpAny_Call_method0_late hat hrow (thn (hd.run pins s σ H _ I h) fun dv s1 hx => ?_))
  obtain ⟨x, H1, I1, r1, a, d, rfl, ha, dne, q⟩ := hx
  obtain rfl : dv = Value.ref a := r1
  obtain ⟨_, notSys, vs, rel, dof⟩ := dk_of I1.hok ha
  obtain ⟨ep, dat⟩ := dof.dictAt
  obtain ⟨ob, es, ho, ex, _⟩ := id dat
  refine ⟨"dict", "dict.values", F.plainAttrs_dict, F.slot_dict_values, F.type_dict_values, ⟨ob, ho, ex.1⟩, fun b e => ?_, Calls.callWith_builtin rfl (PySem.evalArgs_none ?_)⟩
  · cases e
    exact ⟨ob, ho, ex.2.1⟩
  refine call_meetsIn F.slot_dict_values ⟨ob, ho, ex.1⟩ F.entry_dict_values (F.args_dict_values_1 _) (meets_dict_values (mixKind X.prog X.w) a notSys) ⟨⟨vs, dof⟩, ?_⟩
  have still : ∀ b u, s1.heap.get? b = some u → (s1.heap.push { cls := .type "dict_values", data := .fields #[.ref a] }).get? b = some u := fun b u e => Heap.get?_push_of_some _ e
  have size1 : (s1.heap.push { cls := .type "dict_values", data := .fields #[.ref a] }).objs.size = s1.heap.objs.size + 1 := Heap.size_push _ _
  have aLow : a < s1.heap.objs.size := Heap.lt_size ho
  have many : vs.length = (d.map (·.2)).length := by rw [← KV.length rel, kd_len, List.length_map]
  have some_ : 0 < vs.length := by
    rw [many, List.length_map]
    exact List.length_pos_iff.mpr dne
  have whole_ : ∀ (i : Nat) (v : Value), (∃ k, vs[i]? = some (k, v)) → ∃ t, v = Value.int ((d.map (·.2)).getD i 0) t := fun i v ⟨k, hk⟩ => by
    obtain ⟨x, e1, e2⟩ := KV.at' rel hk
    have e3 : ((kd d).map (·.2))[i]? = some x := by rw [List.getElem?_map, e1]; rfl
    rw [kd_vals, List.getElem?_map] at e3
    obtain ⟨j, hj, rfl⟩ := Option.map_eq_some_iff.mp e3
    rw [List.getD_eq_getElem?_getD, hj]
    exact e2
  refine call_max_walk (wpAny_pyIter_values (v := s1.heap.objs.size) (d := a) ⟨_, Heap.get?_push_size _ rfl, rfl, rfl⟩ (dat.keep still) ?_)
  refine ⟨_, _, _, _, _, _, _, rfl, Walks.dictValues (knd := mixKind X.prog X.w) (A := X.A.in1) (I.ok.hd hc) (s1.heap.push { cls := .type "dict_values", data := .fields #[.ref a] }).objs.size a (by rw [size1]; exact Nat.ne_of_lt (Nat.lt_succ_of_lt aLow)) vs ep,
    ⟨⟨_, Heap.get?_push_size _ rfl, rfl, rfl⟩, (dat.keep still).keep fun b u e => Heap.get?_push_of_some _ e⟩, fun b hb => ?_, some_, CmpOf.ints_gt (fun i => (d.map (·.2)).getD i 0) whole_, fun v h' tk hP hk => ?_⟩
  · show b < ((s1.heap.push _).push _).objs.size
    rw [Heap.size_push, Heap.size_push]
    rw [size1] at hb
    rcases List.mem_cons.mp hb with e | e
    · rw [e]; exact Nat.lt_succ_self _
    · rw [show b = a from List.mem_singleton.mp e]
      exact Nat.lt_succ_of_lt (Nat.lt_succ_of_lt aLow)
  · obtain ⟨t, rfl⟩ := whole_ _ v hP
    obtain ⟨b1, b2⟩ := argBest_gt (fun i => (d.map (·.2)).getD i 0) (vs.length - 1)
    generalize argBest (fun i j => decide ((d.map (·.2)).getD i 0 > (d.map (·.2)).getD j 0)) (vs.length - 1) = n at b1 b2
    have e : (d.map (·.2)).getD n 0 = maxL (d.map (·.2)) := by
      refine maxL_eq ?_ fun y hy => ?_
      · have : n < (d.map (·.2)).length := by omega
        rw [List.getD_eq_getElem?_getD, List.getElem?_eq_getElem this]
        exact List.getElem_mem this
      · obtain ⟨i, hi, e⟩ := List.mem_iff_getElem.mp hy
        have := b2 i (by omega)
        rw [List.getD_eq_getElem?_getD, List.getElem?_eq_getElem hi] at this
        exact e ▸ this
    rw [e]
    refine ⟨.int _, H1, I1.kept (t' := tk) fun b u eb => hk b u (fun m => ?_) (Heap.get?_push_of_some _ (still b u eb)), ⟨t, rfl⟩, q⟩
    have e1 := List.mem_singleton.mp m
    have e2 := Heap.lt_size eb
    rw [e1, size1] at e2
    exact absurd e2 (Nat.not_lt.mpr (Nat.le_succ _))
end
end My
/-! ### the pays, the spread -/
namespace My
open PySem PySem.Spec PyProof.Rows L2
abbrev sPaysOf : Stmt := topS 27
theorem scPaysOf : FnScope ["machine", "state", "choice", "pair"] ["machine"] (defScope sPaysOf) := ⟨rfl, rfl, rfl, by decide +kernel, rfl, by decide +kernel, by decide +kernel⟩
structure SprTxt (K : PySem.W.Frag) (mg : Str → Option Value) (p1 p2 : Addr) (q1 q2 : FuncData) : Prop where
  max : mg "max" = none
  min : mg "min" = none
  FPaysOf : Fun K "pays_of" "pays_of" sPaysOf p1 q1
  bPaysOf : Binds K q1 ["machine"] []
  gPaysOf : mg "pays_of" = some (.ref p1)
def paysL (M : Mc) : List Int := (M.C.flatMap fun cs => cs.flatMap fun ps => ps.map (·.1))
def sprd (M : Mc) : Int := maxL (paysL M) - minL (paysL M)
theorem pays_ne {M : Mc} (h : Mok M) : paysL M ≠ [] := fun z => by
  have c1 := h.c1
  obtain ⟨cs, hcs⟩ : ∃ cs, cs ∈ M.C := by
    cases e : M.C with
    | nil => rw [e] at c1; exact absurd c1 (by decide)
    | cons x r => exact ⟨x, .head _⟩
  have l1 := h.row cs hcs
  have l2 := (ltr_pos h.ltr).1
  obtain ⟨ps, hps⟩ : ∃ ps, ps ∈ cs := by
    cases e : cs with
    | nil => rw [e] at l1; rw [← l1] at l2; exact absurd l2 (by decide)
    | cons x r => exact ⟨x, .head _⟩
  have l3 := (h.ch cs hcs ps hps).1
  obtain ⟨p, hp⟩ : ∃ p, p ∈ ps := by
    cases e : ps with
    | nil => rw [e] at l3; exact absurd l3 (by decide)
    | cons x r => exact ⟨x, .head _⟩
  have : p.1 ∈ paysL M := List.mem_flatMap.mpr ⟨cs, hcs, List.mem_flatMap.mpr ⟨ps, hps, List.mem_map_of_mem hp⟩⟩
  rw [z] at this
  cases this
def spPaysOf (K : PySem.W.Frag) : Sp := fun vs H Q _ => ∃ x M, vs = [x] ∧ Rp K H x (eM M) ∧ Mok M ∧ ∀ H' l, Same H H' → H l = none → H' l = some (.lst ((paysL M).map V.int)) → Q (.ref l) H'
def spSpread2 (K : PySem.W.Frag) : Sp := fun vs H Q _ => ∃ x M, vs = [x] ∧ Rp K H x (eM M) ∧ Mok M ∧ ∀ H', Same H H' → Q (.int (sprd M)) H'
section
variable {P : Program} {w : World} {K : PySem.W.Frag} {mg : Str → Option Value} {base : Heap} {p1 p2 : Addr} {q1 q2 : FuncData}
theorem ok_paysOf (T : SprTxt K mg p1 p2 q1 q2) {k : Nat} : FnOk P w K mg base CX0 (k + 1) p1 q1 ["machine"] (spPaysOf K) := by
  refine T.FPaysOf.ok scPaysOf (fun vs H Q E h => ?_) (fun cdv A outer s H vs Q E hr h => ?_)
  · obtain ⟨x, M, rfl, _⟩ := h
    rfl
  · obtain ⟨x, M, rfl, hx, hM, q⟩ := h
    refine ⟨_, (pss_one (ps_ret (pe_lc3 (own := [("state", 1), ("choice", 2), ("pair", 3)]) (vs1 := [2, 3]) (vs2 := [3]) (g0 := gName 1) (g1 := gName 2) (g2 := gName 3) (u0 := tYes) (u1 := tYes) (u2 := tYes) (by rfl) scPaysOf.nd (pi_tup (pe_ix ix_tup (pv 0) pe_int (fun _ _ => rfl))) (blkOk_by (N := ["machine", "state", "choice", "pair"]) (sc := defScope sPaysOf) (by decide +kernel)) (by decide) (by decide) (fun _ _ _ _ _ => pg_name (i := 1) scPaysOf.nd rfl (Or.inl rfl)) (fun _ _ _ _ _ => pts_nil) (fun _ _ _ _ _ => (pi_tupK (K := K) rfl (pv 1))) (fun _ _ _ _ _ => pg_name (i := 2) scPaysOf.nd rfl (Or.inl rfl)) (fun _ _ _ _ _ => pts_nil) (fun _ _ _ _ _ => (pi_tupK (K := K) rfl (pv 2))) (fun _ _ _ _ _ => pg_name (i := 3) scPaysOf.nd rfl (Or.inl rfl)) (fun _ _ _ _ _ => pts_nil) (fun _ _ _ _ _ => (pe_ix (ixT (K := K) rfl) (pv 3) pe_int (fun _ _ => rfl)))))), ?_⟩
    obtain ⟨a, w3, rfl, hS, hC⟩ := hx.three
    obtain ⟨c, xs, rfl, hS2, hA⟩ := hC.isTup
    have lc3 := hM.c3
    have bnd : ∀ (i j n : Nat) (cs : List (List (Int × Int))) (ps : List (Int × Int)), cs ∈ M.C → ps ∈ cs → ((M.C.take i).flatMap fun cs => cs.flatMap fun ps => ps.map (·.1)).length + ((cs.take j).flatMap fun ps => ps.map (·.1)).length + ((ps.take n).map (·.1)).length < sizeLine := fun i j n cs ps hcs hps => by
      have f1 : ∀ cs ∈ M.C, ∀ l : List (List (Int × Int)), (∀ q ∈ l, q ∈ cs) → (l.flatMap fun ps => ps.map (·.1)).length ≤ 3 * l.length := fun cs hcs l hl => flat_len l fun ps hps => by
        rw [List.length_map]
        exact (hM.ch cs hcs ps (hl ps hps)).2
      have f2 := flat_len (g := fun cs : List (List (Int × Int)) => cs.flatMap fun ps => ps.map (·.1)) (n := 9) (M.C.take i) fun cs hcs => by
        have h1 := f1 cs (List.mem_of_mem_take hcs) cs fun _ z => z
        have h2 := hM.row cs (List.mem_of_mem_take hcs)
        have h3 := (ltr_pos hM.ltr).2
        omega
      have f3 := f1 cs hcs (cs.take j) fun q hq => List.mem_of_mem_take hq
      have f4 := (hM.ch cs hcs ps hps).2
      have f5 := hM.row cs hcs
      have f6 := (ltr_pos hM.ltr).2
      have g1 := List.length_take_le' i M.C
      have g2 := List.length_take_le' j cs
      have g3 := List.length_take_le' n ps
      rw [List.length_map]
      exact Nat.lt_of_le_of_lt (show _ ≤ 3000 by omega) (by decide)
    refine ⟨_, rfl, _, _, 2, _, rfl, rfl, hS, rfl, ?_⟩
    refine ⟨c, rfl, ⟨xs, hS2⟩, fun D nD => ?_⟩
    refine lc_tupO (xs := xs) (fun i H' => Same H H' ∧ H' D = some (.lst (((M.C.take i).flatMap fun cs => cs.flatMap fun ps => ps.map (·.1)).map V.int))) ⟨same_upd nD, upd_same⟩ (fun i H' h => same_tup h.1 hS2) ?_ ?_
    · rintro i u2 H1 hu ⟨sm, hD⟩
      obtain ⟨cs, hcs, r1⟩ := rpAll_back hA hu
      obtain ⟨a1, ys, rfl, hS3, hA3⟩ := r1.isTup
      have mcs := List.mem_of_getElem? hcs
      refine ⟨rfl, ?_⟩
      refine ⟨_, rfl, a1, rfl, ⟨ys, same_tup sm hS3⟩, ?_⟩
      refine lc_tupO (xs := ys) (fun j H' => Same H H' ∧ H' D = some (.lst (((M.C.take i).flatMap fun cs => cs.flatMap fun ps => ps.map (·.1)).map V.int ++ ((cs.take j).flatMap fun ps => ps.map (·.1)).map V.int))) ⟨sm, by rw [hD]; simp⟩ (fun j H' h => same_tup h.1 hS3) ?_ ?_
      · rintro j u3 H2 hu3 ⟨sm2, hD2⟩
        obtain ⟨ps, hps, r2⟩ := rpAll_back hA3 hu3
        obtain ⟨a2, zs, rfl, hS4, hA4⟩ := r2.isTup
        have mps := List.mem_of_getElem? hps
        refine ⟨rfl, ?_⟩
        refine ⟨_, rfl, a2, rfl, ⟨zs, same_tup sm2 hS4⟩, ?_⟩
        refine lc_tupO (xs := zs) (fun n H' => Same H H' ∧ H' D = some (.lst ((((M.C.take i).flatMap fun cs => cs.flatMap fun ps => ps.map (·.1)).map V.int ++ ((cs.take j).flatMap fun ps => ps.map (·.1)).map V.int) ++ ((ps.take n).map (·.1)).map V.int))) ⟨sm2, by rw [hD2]; simp⟩ (fun n H' h => same_tup h.1 hS4) ?_ ?_
        · rintro n u4 H3 hu4 ⟨sm3, hD3⟩
          obtain ⟨p, hp, r3⟩ := rpAll_back hA4 hu4
          obtain ⟨a3, rfl, hS5⟩ := r3.pair
          refine ⟨rfl, ?_⟩
          refine ⟨_, rfl, _, _, 0, _, rfl, rfl, same_tup sm3 hS5, rfl, _, hD3, ?_, same_new sm3 nD, ?_⟩
          · have := bnd i j n cs ps mcs mps
            simp only [List.length_append, List.length_map] at this ⊢
            exact this
          · rw [upd_same, List.take_succ, hp]
            simp
        · rintro H3 ⟨sm3, hD3⟩
          refine ⟨sm3, ?_⟩
          rw [hD3, show zs.length = ps.length from by rw [hA4.len, List.length_map], List.take_length, take_flat hps]
          simp
      · rintro H2 ⟨sm2, hD2⟩
        refine ⟨sm2, ?_⟩
        rw [hD2, show ys.length = cs.length from by rw [hA3.len, List.length_map], List.take_length, take_flat hcs]
        simp
    · rintro H1 ⟨sm, hD⟩
      refine q H1 D sm nD ?_
      rw [hD, show xs.length = M.C.length from by rw [hA.len, List.length_map], List.take_length]
      rfl
end
end My
/-! ### sums along words, lacks -/
namespace My
open PySem PySem.Spec PyProof.Rows L2 PySem.Builtin.Str
theorem occIx {z : Str} {c : Nat} (h : lettersL z.cps.toList = true) (hc : c ∈ z.cps.toList) : occurrences z ⟨#[c]⟩ 0 z.length 1 = [z.cps.toList.idxOf c] := by
  obtain ⟨⟨l⟩⟩ := z
  rw [PySem.StrLaws.occ_eq]
  match l, h, hc with
  | [a], h, hc =>
    obtain rfl : c = a := by simpa using hc
    simp [List.range', PySem.StrLaws.occBody, subAt, Str.length]
  | [a, b], h, hc =>
    simp [lettersL] at h
    have h1 : a ≠ b := by omega
    have b1 := beq_false_of_ne h1
    rcases (show c = a ∨ c = b by simpa using hc) with rfl | rfl
    · simp [List.range', PySem.StrLaws.occBody, subAt, Str.length]
    · simp [List.range', PySem.StrLaws.occBody, subAt, Str.length, h1, b1, List.idxOf_cons]
  | [a, b, d], h, hc =>
    simp [lettersL] at h
    have h1 : a ≠ b := by omega
    have h2 : b ≠ d := by omega
    have h3 : a ≠ d := by omega
    have b1 := beq_false_of_ne h1
    have b2 := beq_false_of_ne h2
    have b3 := beq_false_of_ne h3
    rcases (show c = a ∨ c = b ∨ c = d by simpa using hc) with rfl | rfl | rfl
    · simp [List.range', PySem.StrLaws.occBody, subAt, Str.length]
    · simp [List.range', PySem.StrLaws.occBody, subAt, Str.length, h1, b1, List.idxOf_cons]
    · simp [List.range', PySem.StrLaws.occBody, subAt, Str.length, h2, h3, b2, b3, List.idxOf_cons]
/-! tuples that stay -/
def TStay (K : PySem.W.Frag) (H H' : Hp) : Prop := ∀ b xs, SqT K H b xs → SqT K H' b xs
theorem TStay.trans {K : PySem.W.Frag} {H H1 H2 : Hp} (a : TStay K H H1) (b : TStay K H1 H2) : TStay K H H2 := fun c xs h => b c xs (a c xs h)
theorem ts_same {K : PySem.W.Frag} {H H' : Hp} (s : Same H H') : TStay K H H' := fun _ _ h => same_tup s h
theorem ts_upd {K : PySem.W.Frag} {H : Hp} {g : Addr} {o o' : HO} (h : H g = some o) (n1 : ∀ xs, o ≠ .tup xs) (n2 : ∀ u xs, o ≠ .frz u (.tup xs)) : TStay K H (upd H g o') := fun b xs e => by
  rcases e with (e | ⟨u, e⟩) | e
  · refine .inl (.inl ?_)
    rw [upd_ne (fun z => ?_)]
    · exact e
    · rw [z, h] at e
      exact n1 xs (Option.some.inj e)
  · refine .inl (.inr ⟨u, ?_⟩)
    rw [upd_ne (fun z => ?_)]
    · exact e
    · rw [z, h] at e
      exact n2 u xs (Option.some.inj e)
  · exact .inr e
mutual
def tO : PyData → Bool
  | .list _ => false
  | .dict _ => false
  | .tuple xs => tOs xs
  | _ => true
def tOs : List PyData → Bool
  | [] => true
  | x :: xs => tO x && tOs xs
end
mutual
theorem rp_ts {K : PySem.W.Frag} {H H' : Hp} (s : TStay K H H') : ∀ {v : V} {d : PyData}, Rp K H v d → tO d = true → Rp K H' v d
  | _, _, .non, _ => .non
  | _, _, .bl b, _ => .bl b
  | _, _, .int i, _ => .int i
  | _, _, .str x h, _ => .str x h
  | _, _, .lst h t, n => by simp [tO] at n
  | _, _, .tup h t, n => .tup (s _ _ h) (rpAll_ts s t (by simpa only [tO] using n))
  | _, _, .dct h, n => by simp [tO] at n
theorem rpAll_ts {K : PySem.W.Frag} {H H' : Hp} (s : TStay K H H') : ∀ {vs : List V} {ds : List PyData}, RpAll K H vs ds → tOs ds = true → RpAll K H' vs ds
  | _, _, .nil, _ => .nil
  | _, _, .cons h t, n => by
    simp only [tOs, Bool.and_eq_true] at n
    exact .cons (rp_ts s h n.1) (rpAll_ts s t n.2)
end
theorem tOs_map {α : Type} {f : α → PyData} (h : ∀ x, tO (f x) = true) : ∀ l : List α, tOs (l.map f) = true
  | [] => rfl
  | x :: l => by
    rw [List.map_cons, tOs, h x, tOs_map h l]
    rfl
theorem tO_eP (p : Int × Int) : tO (eP p) = true := by simp [eP, tO, tOs]
theorem tO_eC (ps : List (Int × Int)) : tO (eC ps) = true := by
  rw [eC, tO]
  exact tOs_map tO_eP ps
theorem tO_eS (cs : List (List (Int × Int))) : tO (eS cs) = true := by
  rw [eS, tO]
  exact tOs_map tO_eC cs
theorem tO_eM (M : Mc) : tO (eM M) = true := by
  simp only [eM, tO, tOs, Bool.true_and, Bool.and_true]
  exact tOs_map tO_eS M.C
/-! the pairs of a choice -/
def chP (M : Mc) (at_ : Nat) (s : Int) : List (Int × Int) := (M.C.getD s.toNat []).getD at_ []
theorem ch_at {K : PySem.W.Frag} {H : Hp} {xs : List V} {M : Mc} (hM : Mok M) (hA : RpAll K H xs (M.C.map eS)) {s : Int} {at_ : Nat} (s0 : 0 ≤ s) (s1 : s ≤ (M.C.length : Int) - 1) (ha : at_ < M.z.length) :
    ∃ ra ys ca zs, atI xs s = some (.ref ra) ∧ SqT K H ra ys ∧ atI ys (at_ : Int) = some (.ref ca) ∧ SqT K H ca zs ∧ RpAll K H zs ((chP M at_ s).map eP) := by
  have hs : s.toNat < M.C.length := by omega
  obtain ⟨u, hu, r1⟩ := rpAll_get hA (List.getElem?_eq_getElem hs)
  obtain ⟨ra, ys, rfl, hS3, hA3⟩ := r1.isTup
  have ha2 : at_ < M.C[s.toNat].length := by rw [hM.row _ (List.getElem_mem hs)]; exact ha
  obtain ⟨u2, hu2, r2⟩ := rpAll_get hA3 (List.getElem?_eq_getElem ha2)
  obtain ⟨ca, zs, rfl, hS4, hA4⟩ := r2.isTup
  have es : ((s.toNat : Nat) : Int) = s := by omega
  refine ⟨ra, ys, ca, zs, es ▸ atI_nat hu, hS3, atI_nat hu2, hS4, ?_⟩
  have e2 : chP M at_ s = M.C[s.toNat][at_] := by
    unfold chP
    rw [List.getD_eq_getElem?_getD (l := M.C), List.getElem?_eq_getElem hs, Option.getD_some, List.getD_eq_getElem?_getD, List.getElem?_eq_getElem ha2]
    rfl
  rw [e2]
  exact hA4
/-! dicts by the states -/
structure Kin (n : Nat) (d : Dk) : Prop where
  nd : (keysI d).Nodup
  rg : ∀ k ∈ keysI d, 0 ≤ k ∧ k ≤ (n : Int) - 1
theorem kin_nil (n : Nat) : Kin n [] := ⟨.nil, fun _ h => nomatch h⟩
theorem kin_len {n : Nat} {d : Dk} (h : Kin n d) : d.length ≤ n := by
  have := nd_le (keysI d) ((List.range n).map Int.ofNat) h.nd fun k hk => by
    obtain ⟨h1, h2⟩ := h.rg k hk
    exact List.mem_map.mpr ⟨k.toNat, List.mem_range.mpr (by omega), by show ((k.toNat : Nat) : Int) = k; omega⟩
  rw [List.length_map, List.length_range] at this
  unfold keysI at this
  rw [List.length_map] at this
  exact this
theorem kin_up {n : Nat} {d : Dk} {k v : Int} (h : Kin n d) (k0 : 0 ≤ k) (k1 : k ≤ (n : Int) - 1) : Kin n (upMax d k v) := by
  refine ⟨up_nodup h.nd, fun j hj => ?_⟩
  obtain ⟨w, hw⟩ := Option.isSome_iff_exists.mp (getI_mem.mpr hj)
  rcases up_from hw with e | ⟨e, _⟩
  · exact h.rg j (getI_mem.mp (by rw [e]; rfl))
  · rw [e]; exact ⟨k0, k1⟩
theorem kin_in {n : Nat} {f : Int → Int → Int} {v : Int} : ∀ {ps : List (Int × Int)} {d : Dk}, Kin n d → (∀ p ∈ ps, 0 ≤ p.2 ∧ p.2 ≤ (n : Int) - 1) → Kin n (bestIn f v ps d)
  | [], _, h, _ => h
  | p :: ps, d, h, hp => kin_in (ps := ps) (d := upMax d p.2 (f v p.1)) (kin_up h (hp p (.head _)).1 (hp p (.head _)).2) fun q hq => hp q (.tail _ hq)
theorem kin_on {n : Nat} {P : Int → List (Int × Int)} {f : Int → Int → Int} : ∀ {d l : Dk}, Kin n l → (∀ kv ∈ d, ∀ p ∈ P kv.1, 0 ≤ p.2 ∧ p.2 ≤ (n : Int) - 1) → Kin n (bestOn P f d l)
  | [], _, h, _ => h
  | q :: d, l, h, hp => kin_on (d := d) (l := bestIn f q.2 (P q.1) l) (kin_in h (hp q (.head _))) fun r hr => hp r (.tail _ hr)
def Bd (n : Nat) (d : Dk) : Prop := ∀ kv ∈ d, kv.2.natAbs < 2 ^ n
theorem ch_mem {M : Mc} (h : Mok M) {at_ : Nat} {s : Int} {p : Int × Int} (hp : p ∈ chP M at_ s) : ∃ cs ∈ M.C, ∃ ps ∈ cs, p ∈ ps ∧ chP M at_ s = ps := by
  unfold chP at hp ⊢
  rw [List.getD_eq_getElem?_getD (l := M.C)] at hp ⊢
  cases e : M.C[s.toNat]? with
  | none => rw [e] at hp; exact absurd hp (by simp)
  | some cs =>
    rw [e] at hp
    rw [Option.getD_some, List.getD_eq_getElem?_getD] at hp ⊢
    cases e2 : cs[at_]? with
    | none => rw [e2] at hp; exact absurd hp (by simp)
    | some ps =>
      rw [e2] at hp
      exact ⟨cs, List.mem_of_getElem? e, ps, List.mem_of_getElem? e2, hp, rfl⟩
theorem ch_rg {M : Mc} (h : Mok M) {at_ : Nat} {s : Int} {p : Int × Int} (hp : p ∈ chP M at_ s) : -wideN ≤ p.1 ∧ p.1 ≤ wideN ∧ 0 ≤ p.2 ∧ p.2 ≤ (M.C.length : Int) - 1 := by
  obtain ⟨cs, hcs, ps, hps, hp, _⟩ := ch_mem h hp
  exact h.pr cs hcs ps hps p hp
theorem wide_two : wideN < 2 ^ 100 ∧ 0 < wideN := by decide +kernel
def ixM (M : Mc) (c : Nat) : Nat := M.z.cps.toList.idxOf c
def sumStep (M : Mc) (S : Dk) (c : Nat) : Dk := sumOf (chP M (ixM M c)) M.b S
def sumsAfter (M : Mc) (cs : List Nat) (S : Dk) : Dk := cs.foldl (sumStep M) S
theorem sums_take {M : Mc} {S : Dk} {cs : List Nat} {j c : Nat} (h : cs[j]? = some c) : sumsAfter M (cs.take (j + 1)) S = sumStep M (sumsAfter M (cs.take j) S) c := by
  unfold sumsAfter
  rw [List.take_succ, h, List.foldl_append]
  rfl
theorem sum_kin {M : Mc} (h : Mok M) {at_ : Nat} {S : Dk} : Kin M.C.length (sumOf (chP M at_) M.b S) :=
  kin_on (kin_nil _) fun kv _ p hp => ⟨(ch_rg h hp).2.2.1, (ch_rg h hp).2.2.2⟩
theorem sum_bd {M : Mc} (h : Mok M) {at_ n : Nat} {S : Dk} (hb : Bd n S) (hn : 101 ≤ n) : Bd (n + 4) (sumOf (chP M at_) M.b S) := fun kv hkv => by
  have := mem_getI (sum_kin (S := S) h).nd (k := kv.1) (v := kv.2) hkv
  rcases bestOn_from S [] this with e | ⟨s, v, p, hs, hp, e⟩
  · cases e
  · have h1 := hb _ hs
    have h2 := ch_rg h hp
    have h3 := wide_two
    have h4 := h.b9
    have h5 := h.b2
    have h6 : (2 : Nat) ^ 101 ≤ 2 ^ n := Nat.pow_le_pow_right (by decide) hn
    have h7 : (2 : Nat) ^ (n + 4) = 2 ^ n * 16 := by rw [Nat.pow_add]
    have h8 : (2 : Nat) ^ 101 = 2 ^ 100 * 2 := by rw [Nat.pow_succ]
    have h9 : ((2 : Int) ^ 100).natAbs = 2 ^ 100 := by decide +kernel
    have h10 : p.natAbs < 2 ^ 100 := by omega
    have h11 : (M.b * v).natAbs ≤ 9 * v.natAbs := by
      rw [Int.natAbs_mul]
      exact Nat.mul_le_mul_right _ (by omega)
    have h12 : v.natAbs < 2 ^ n := h1
    show kv.2.natAbs < 2 ^ (n + 4)
    rw [e, h7]
    generalize M.b * v = y at *
    generalize (2 : Nat) ^ n = z at *
    have : (y + p).natAbs ≤ y.natAbs + p.natAbs := Int.natAbs_add_le _ _
    omega
theorem sums_kin {M : Mc} (h : Mok M) : ∀ (cs : List Nat) {S : Dk}, Kin M.C.length S → Kin M.C.length (sumsAfter M cs S)
  | [], _, k => k
  | c :: cs, S, _ => sums_kin h cs (S := sumStep M S c) (sum_kin h)
theorem sums_bd {M : Mc} (h : Mok M) : ∀ (cs : List Nat) {S : Dk} {n : Nat}, Bd n S → 101 ≤ n → Bd (n + 4 * cs.length) (sumsAfter M cs S)
  | [], _, _, k, _ => k
  | c :: cs, S, n, k, hn => by
    have := sums_bd h cs (S := sumStep M S c) (sum_bd h k hn) (by omega)
    rw [List.length_cons, show n + 4 * (cs.length + 1) = n + 4 + 4 * cs.length by omega]
    exact this
theorem bd_mono {n m : Nat} {d : Dk} (h : Bd n d) (l : n ≤ m) : Bd m d := fun kv hkv => Nat.lt_of_lt_of_le (h kv hkv) (Nat.pow_le_pow_right (by decide) l)
theorem upd_id {H : Hp} {g : Addr} {o : HO} (h : H g = some o) : upd H g o = H := by
  funext b
  by_cases e : b = g
  · rw [e, upd_same, h]
  · rw [upd_ne e]
theorem kin_size {n : Nat} {d : Dk} (h : Kin n d) (hn : n ≤ 300) : (kd d).length < sizeLine := by
  have := kin_len h
  rw [kd_len]
  exact Nat.lt_of_le_of_lt (show _ ≤ 300 by omega) (by decide)
/-- if k not in d or v > d[k]: d[k] = v -/
theorem up_if {iT iD iV : Nat} {D : Ends} {σ : L2.St} {H : Hp} {g : Addr} {L : Dk} {k t : Int} (e1 : σ[iT]? = some (some (.int k))) (e2 : σ[iD]? = some (some (.ref g))) (e3 : σ[iV]? = some (some (.int t))) (hg : H g = some (.dK (kd L))) (hl : (kd L).length < sizeLine)
    (h : D.nx σ (upd H g (.dK (kd (upMax L k t))))) :
    tIfS (tOr (tB (tDNotIn (tVar iT) (tVar iD))) (tTest (tOp (rI0 fun i j => V.bl (decide (j < i))) (tVar iV) (tDGet (tVar iD) (tVar iT))))) (sDPut (tVar iD) (tVar iT) (tVar iV)) tNext D σ H := by
  have put : upMax L k t = putI L k t → sDPut (tVar iD) (tVar iT) (tVar iV) D σ H := fun e => by
    refine ⟨_, e3, _, e2, _, e1, g, _, rfl, DPut.k (k := Sum.inl k) hg hl, ?_⟩
    rw [kd_put, ← e]
    exact h
  refine ⟨_, e1, _, e2, g, _, rfl, kd_get (.inl hg), _, rfl, ?_⟩
  cases e : getI L k with
  | none => exact iteT (iteT (put (by unfold upMax; rw [e])))
  | some w =>
    refine iteF ⟨_, e3, _, e2, _, e1, g, .int w, rfl, ?_, _, _, rfl, rfl, _, rfl, ?_⟩
    · have := kd_get (d := L) (k := k) (.inl hg)
      rw [e] at this
      exact this
    · by_cases l : w < t
      · rw [decide_eq_true l]
        exact iteT (put (by unfold upMax; rw [e]; exact if_pos l))
      · rw [decide_eq_false l]
        have : upMax L k t = L := by unfold upMax; rw [e]; exact if_neg l
        rw [this, upd_id hg] at h
        exact iteF h
theorem kd_at {d : Dk} {i : Nat} {k : Key} {v : V} (h : (kd d)[i]? = some (k, v)) : ∃ s x, d[i]? = some (s, x) ∧ k = Sum.inl s ∧ v = .int x := by
  unfold kd at h
  rw [List.getElem?_map] at h
  cases e : d[i]? with
  | none => rw [e] at h; cases h
  | some p =>
    rw [e] at h
    cases h
    exact ⟨p.1, p.2, rfl, rfl, rfl⟩
theorem on_take {P : Int → List (Int × Int)} {f : Int → Int → Int} {d l : Dk} {i : Nat} {s x : Int} (h : d[i]? = some (s, x)) : bestOn P f (d.take (i + 1)) l = bestIn f x (P s) (bestOn P f (d.take i) l) := by
  unfold bestOn
  rw [List.take_succ, h, List.foldl_append]
  rfl
theorem in_take {f : Int → Int → Int} {v : Int} {ps : List (Int × Int)} {l : Dk} {i : Nat} {p : Int × Int} (h : ps[i]? = some p) : bestIn f v (ps.take (i + 1)) l = upMax (bestIn f v (ps.take i) l) p.2 (f v p.1) := by
  unfold bestIn
  rw [List.take_succ, h, List.foldl_append]
  rfl
theorem same_put {Hb H : Hp} {g : Addr} {o : HO} (s : Same Hb H) (n : Hb g = none) : Same Hb (upd H g o) := same_new s n
section
variable {P : Program} {w : World} {K : PySem.W.Frag} {mg : Str → Option Value} {base : Heap} {p1 p2 p3 p4 : Addr} {q1 q2 q3 q4 : FuncData}
end
/-! one letter more for the lacks -/
def mostOn (M : Mc) (at_ : Nat) (D : Dk) : Int := maxL ((gainOf (chP M at_) D).map (·.2))
def lackOn (M : Mc) (at_ : Nat) (D : Dk) : Dk := laterOf M.b (sprd M) (gainOf (chP M at_) D)
theorem gain_kin {M : Mc} (h : Mok M) {at_ : Nat} {D : Dk} : Kin M.C.length (gainOf (chP M at_) D) :=
  kin_on (kin_nil _) fun kv _ p hp => ⟨(ch_rg h hp).2.2.1, (ch_rg h hp).2.2.2⟩
theorem up_len (d : Dk) (k v : Int) : (upMax d k v).length ≤ d.length + 1 := by
  unfold upMax
  split
  · exact put_len d k v
  · split
    · exact put_len d k v
    · exact Nat.le_succ _
theorem in_len {f : Int → Int → Int} {v : Int} : ∀ (ps : List (Int × Int)) (d : Dk), (bestIn f v ps d).length ≤ d.length + ps.length
  | [], _ => Nat.le_refl _
  | p :: ps, d => by
    have h1 := in_len (f := f) (v := v) ps (upMax d p.2 (f v p.1))
    have h2 := up_len d p.2 (f v p.1)
    show (bestIn f v ps (upMax d p.2 (f v p.1))).length ≤ _
    rw [List.length_cons]
    omega
theorem on_len {P : Int → List (Int × Int)} {f : Int → Int → Int} (h : ∀ s, (P s).length ≤ 1) : ∀ (d l : Dk), (bestOn P f d l).length ≤ l.length + d.length
  | [], _ => Nat.le_refl _
  | q :: d, l => by
    have h1 := on_len h d (bestIn f q.2 (P q.1) l) (f := f)
    have h2 := in_len (f := f) (v := q.2) (P q.1) l
    have h3 := h q.1
    show (bestOn P f d (bestIn f q.2 (P q.1) l)).length ≤ _
    rw [List.length_cons]
    omega
theorem few_on {M : Mc} (h : Mok M) {at_ : Nat} {f : Int → Int → Int} {D : Dk} (hd : D.length ≤ 4) : (bestOn (chP M at_) f D []).length ≤ 4 := by
  rcases h.few with c4 | one
  · have := kin_len (n := M.C.length) (d := bestOn (chP M at_) f D []) (kin_on (kin_nil _) fun kv _ p hp => ⟨(ch_rg h hp).2.2.1, (ch_rg h hp).2.2.2⟩)
    omega
  · have := on_len (P := chP M at_) (f := f) (fun s => by
      cases e : chP M at_ s with
      | nil => exact Nat.zero_le _
      | cons p r =>
        obtain ⟨cs, hcs, ps, hps, _, e2⟩ := ch_mem h (at_ := at_) (s := s) (p := p) (by rw [e]; exact .head _)
        rw [← e, e2, one cs hcs ps hps]
        exact Nat.le_refl _) D []
    rw [List.length_nil] at this
    omega
theorem ch_some {M : Mc} (h : Mok M) {at_ : Nat} {s : Int} (s0 : 0 ≤ s) (s1 : s ≤ (M.C.length : Int) - 1) (ha : at_ < M.z.length) : ∃ p, p ∈ chP M at_ s := by
  have hs : s.toNat < M.C.length := by omega
  have ha2 : at_ < M.C[s.toNat].length := by rw [h.row _ (List.getElem_mem hs)]; exact ha
  have e2 : chP M at_ s = M.C[s.toNat][at_] := by
    unfold chP
    rw [List.getD_eq_getElem?_getD (l := M.C), List.getElem?_eq_getElem hs, Option.getD_some, List.getD_eq_getElem?_getD, List.getElem?_eq_getElem ha2]
    rfl
  have l := (h.ch _ (List.getElem_mem hs) _ (List.getElem_mem ha2)).1
  rw [e2]
  exact ⟨_, List.getElem_mem (show 0 < M.C[s.toNat][at_].length by omega)⟩
theorem on_ne {M : Mc} (h : Mok M) {at_ : Nat} {f : Int → Int → Int} {D : Dk} (hk : Kin M.C.length D) (hd : D ≠ []) (ha : at_ < M.z.length) : bestOn (chP M at_) f D [] ≠ [] := by
  cases D with
  | nil => exact absurd rfl hd
  | cons q d =>
    obtain ⟨r1, r2⟩ := hk.rg q.1 (.head _)
    obtain ⟨p, hp⟩ := ch_some h r1 r2 ha
    obtain ⟨u, hu, _⟩ := bestOn_has (P := chP M at_) (f := f) (q :: d) [] (s := q.1) (v := q.2) (p := p.1) (k := p.2) (.head _) hp
    intro z
    rw [z] at hu
    cases hu
theorem pays_rg {M : Mc} (h : Mok M) : ∀ y ∈ paysL M, -wideN ≤ y ∧ y ≤ wideN := fun y hy => by
  unfold paysL at hy
  obtain ⟨cs, hcs, hy⟩ := List.mem_flatMap.mp hy
  obtain ⟨ps, hps, hy⟩ := List.mem_flatMap.mp hy
  obtain ⟨p, hp, rfl⟩ := List.mem_map.mp hy
  exact ⟨(h.pr cs hcs ps hps p hp).1, (h.pr cs hcs ps hps p hp).2.1⟩
theorem ch_pays {M : Mc} (h : Mok M) {at_ : Nat} {s : Int} {p : Int × Int} (hp : p ∈ chP M at_ s) : minL (paysL M) ≤ p.1 ∧ p.1 ≤ maxL (paysL M) := by
  obtain ⟨cs, hcs, ps, hps, hp, _⟩ := ch_mem h hp
  have : p.1 ∈ paysL M := List.mem_flatMap.mpr ⟨cs, hcs, List.mem_flatMap.mpr ⟨ps, hps, List.mem_map_of_mem hp⟩⟩
  exact ⟨minL_le this, le_maxL this⟩
theorem sprd_rg {M : Mc} (h : Mok M) : 0 ≤ sprd M ∧ sprd M ≤ 2 * wideN := by
  have h1 := maxL_mem (pays_ne h)
  have h2 := minL_mem (pays_ne h)
  have h3 := pays_rg h _ h1
  have h4 := pays_rg h _ h2
  have h5 := minL_le h1
  unfold sprd
  omega
theorem lack_kin {M : Mc} (h : Mok M) {at_ : Nat} {D : Dk} : Kin M.C.length (lackOn M at_ D) := by
  have g := gain_kin h (at_ := at_) (D := D)
  refine ⟨later_keys g.nd, fun k hk => ?_⟩
  obtain ⟨w, hw⟩ := Option.isSome_iff_exists.mp (getI_mem.mpr hk)
  obtain ⟨x, hx, _⟩ := (later_get g.nd).mp hw
  exact g.rg k (getI_mem.mp (by rw [hx]; rfl))
theorem lack_len {M : Mc} (h : Mok M) {at_ : Nat} {D : Dk} (hd : D.length ≤ 4) : (lackOn M at_ D).length ≤ 4 := by
  have := few_on h (at_ := at_) (f := fun v p => p - v) hd
  have l : (lackOn M at_ D).length ≤ (sortI (keysI (gainOf (chP M at_) D))).length := List.length_filterMap_le _ _
  rw [(sort_perm _).length_eq] at l
  unfold keysI at l
  rw [List.length_map] at l
  exact Nat.le_trans l this
theorem lack_ne {M : Mc} (h : Mok M) {at_ : Nat} {D : Dk} (hk : Kin M.C.length D) (hd : D ≠ []) (ha : at_ < M.z.length) : lackOn M at_ D ≠ [] := by
  have g := gain_kin h (at_ := at_) (D := D)
  have ne := on_ne h (f := fun v p => p - v) hk hd ha
  have := maxL_mem (l := (gainOf (chP M at_) D).map (·.2)) (fun z => ne (List.map_eq_nil_iff.mp z))
  obtain ⟨q, hq, e⟩ := List.mem_map.mp this
  have hg := mem_getI g.nd (k := q.1) (v := q.2) hq
  have := (later_get (b := M.b) (sp := sprd M) g.nd (to := q.1) (k := 0)).mpr ⟨q.2, hg, by rw [← e]; simp, rfl⟩
  intro z
  unfold lackOn at z
  rw [z] at this
  cases this
theorem lack_val {M : Mc} (h : Mok M) {at_ : Nat} {D : Dk} {kv : Int × Int} (hkv : kv ∈ lackOn M at_ D) : 0 ≤ kv.2 ∧ kv.2 ≤ 18 * wideN := by
  have g := gain_kin h (at_ := at_) (D := D)
  have := mem_getI (lack_kin h).nd (k := kv.1) (v := kv.2) hkv
  obtain ⟨x, hx, e, hh⟩ := (later_get g.nd).mp this
  have le : x ≤ maxL ((gainOf (chP M at_) D).map (·.2)) := le_maxL (List.mem_map_of_mem (f := (·.2)) (getI_some_mem hx))
  have b2 := h.b2
  have b9 := h.b9
  have pos : 0 ≤ kv.2 := by rw [e]; exact Int.mul_nonneg (by omega) (by omega)
  refine ⟨pos, ?_⟩
  have sr := sprd_rg h
  unfold hopes at hh
  simp only [Bool.or_eq_true, decide_eq_true_eq] at hh
  rcases hh with hh | hh
  · omega
  · have h1 : kv.2 * 1 ≤ kv.2 * (M.b - 1) := Int.mul_le_mul_of_nonneg_left (by omega) pos
    have h2 : sprd M * M.b ≤ sprd M * 9 := Int.mul_le_mul_of_nonneg_left b9 sr.1
    omega
theorem lack_bd {M : Mc} (h : Mok M) {at_ : Nat} {D : Dk} : Bd 200 (lackOn M at_ D) := fun kv hkv => by
  have := lack_val h hkv
  have w := wide_two
  have p1 : (2 : Nat) ^ 100 * 18 < 2 ^ 200 := by decide +kernel
  have p2 : ((2 : Int) ^ 100).natAbs = 2 ^ 100 := by decide +kernel
  omega
def pickOf (b sp : Int) (g : Dk) (to : Int) : Option (Int × Int) := if hopes b sp (b * (maxL (g.map (·.2)) - (getI g to).getD 0)) = true then some (to, b * (maxL (g.map (·.2)) - (getI g to).getD 0)) else none
theorem later_eq (b sp : Int) (g : Dk) : laterOf b sp g = (sortI (keysI g)).filterMap (pickOf b sp g) := rfl
theorem pick_keys {b sp : Int} {g : Dk} : ∀ {l : List Int} {to : Int}, to ∉ l → getI (l.filterMap (pickOf b sp g)) to = none := fun {l to} h => by
  cases e : getI (l.filterMap (pickOf b sp g)) to with
  | none => rfl
  | some v =>
    obtain ⟨t, ht, e2⟩ := List.mem_filterMap.mp (getI_some_mem e)
    unfold pickOf at e2
    split at e2
    · cases e2
      exact absurd ht h
    · cases e2
theorem pick_take {b sp : Int} {g : Dk} {l : List Int} {i : Nat} {to : Int} (nd : l.Nodup) (h : l[i]? = some to) (x : Int) (hx : getI g to = some x) :
    (l.take (i + 1)).filterMap (pickOf b sp g) = if hopes b sp (b * (maxL (g.map (·.2)) - x)) = true then putI ((l.take i).filterMap (pickOf b sp g)) to (b * (maxL (g.map (·.2)) - x)) else (l.take i).filterMap (pickOf b sp g) := by
  have out : to ∉ l.take i := fun m => by
    obtain ⟨n, hn, e⟩ := List.mem_iff_getElem.mp m
    rw [List.getElem_take] at e
    have hi := (List.getElem?_eq_some_iff.mp h)
    obtain ⟨hi1, hi2⟩ := hi
    have hn2 : n < i := by rw [List.length_take] at hn; omega
    exact (List.pairwise_iff_getElem.mp nd) n i (by omega) hi1 hn2 (e.trans hi2.symm)
  have fresh := pick_keys (b := b) (sp := sp) (g := g) out
  rw [List.take_succ, h, List.filterMap_append]
  have e1 : [to].filterMap (pickOf b sp g) = if hopes b sp (b * (maxL (g.map (·.2)) - x)) = true then [(to, b * (maxL (g.map (·.2)) - x))] else [] := by
    rw [List.filterMap_cons]
    unfold pickOf
    rw [hx, Option.getD_some]
    by_cases c : hopes b sp (b * (maxL (g.map (·.2)) - x)) = true
    · rw [if_pos c, if_pos c]; rfl
    · rw [if_neg c, if_neg c]; rfl
  show _ ++ [to].filterMap (pickOf b sp g) = _
  rw [e1]
  by_cases c : hopes b sp (b * (maxL (g.map (·.2)) - x)) = true
  · rw [if_pos c, if_pos c]
    unfold putI
    rw [getI_any, fresh]
    rfl
  · rw [if_neg c, if_neg c, List.append_nil]
theorem gain_bd {M : Mc} (h : Mok M) {at_ : Nat} {D : Dk} (hb : Bd 200 D) : ∀ {k x : Int}, getI (gainOf (chP M at_) D) k = some x → x.natAbs < 2 ^ 201 := fun {k x} e => by
  rcases bestOn_from D [] e with e | ⟨s, v, p, hs, hp, e⟩
  · cases e
  · have h1 := hb _ hs
    have h2 := ch_rg h hp
    have h3 := wide_two
    have p2 : ((2 : Int) ^ 100).natAbs = 2 ^ 100 := by decide +kernel
    have p3 : (2 : Nat) ^ 100 < 2 ^ 200 := by decide +kernel
    have p4 : (2 : Nat) ^ 201 = 2 ^ 200 * 2 := by decide +kernel
    have h4 : v.natAbs < 2 ^ 200 := h1
    omega
end My
/-! ### numbers: the mathematics -/
namespace My
open PySem PySem.Spec PyProof.Rows L2
def gg (n d : Int) : Int := ((Nat.gcd n.natAbs d.natAbs : Nat) : Int)
def rn (n d : Int) : Int := n / gg n d
def rd (n d : Int) : Int := d / gg n d
/-- n / d, without a common divisor -/
structure Low (n d : Int) : Prop where
  pos : 0 < d
  one : gg n d = 1
theorem gg_pos {n d : Int} (h : 0 < d) : 0 < gg n d := by
  have : 0 < Nat.gcd n.natAbs d.natAbs := Nat.gcd_pos_of_pos_right _ (by omega)
  unfold gg
  omega
theorem gg_n (n d : Int) : ∃ k, n = gg n d * k := by
  obtain ⟨c, hc⟩ := Nat.gcd_dvd_left n.natAbs d.natAbs
  rcases Int.natAbs_eq n with e | e
  · exact ⟨(c : Int), by unfold gg; rw [← Int.natCast_mul, ← hc]; exact e⟩
  · exact ⟨-(c : Int), by unfold gg; rw [Int.mul_neg, ← Int.natCast_mul, ← hc]; exact e⟩
theorem gg_d (n d : Int) : ∃ k, d = gg n d * k := by
  obtain ⟨c, hc⟩ := Nat.gcd_dvd_right n.natAbs d.natAbs
  rcases Int.natAbs_eq d with e | e
  · exact ⟨(c : Int), by unfold gg; rw [← Int.natCast_mul, ← hc]; exact e⟩
  · exact ⟨-(c : Int), by unfold gg; rw [Int.mul_neg, ← Int.natCast_mul, ← hc]; exact e⟩
theorem rn_mul {n d : Int} (h : 0 < d) : n = gg n d * rn n d := by
  obtain ⟨k, hk⟩ := gg_n n d
  have g := gg_pos (n := n) h
  have e : rn n d = k := by
    unfold rn
    rw [Int.ediv_eq_of_eq_mul_right (by omega) hk]
  rw [e]; exact hk
theorem rd_mul {n d : Int} (h : 0 < d) : d = gg n d * rd n d := by
  obtain ⟨k, hk⟩ := gg_d n d
  have g := gg_pos (n := n) h
  have e : rd n d = k := by
    unfold rd
    rw [Int.ediv_eq_of_eq_mul_right (by omega) hk]
  rw [e]; exact hk
theorem rd_pos {n d : Int} (h : 0 < d) : 0 < rd n d := by
  have g := gg_pos (n := n) h
  have e := rd_mul (n := n) h
  refine Int.lt_of_not_ge fun z => ?_
  have : gg n d * rd n d ≤ 0 := Int.mul_nonpos_of_nonneg_of_nonpos (by omega) z
  omega
theorem low_r {n d : Int} (h : 0 < d) : Low (rn n d) (rd n d) := by
  refine ⟨rd_pos h, ?_⟩
  have g := gg_pos (n := n) h
  have e1 : n.natAbs = (gg n d).natAbs * (rn n d).natAbs := by rw [← Int.natAbs_mul, ← rn_mul h]
  have e2 : d.natAbs = (gg n d).natAbs * (rd n d).natAbs := by rw [← Int.natAbs_mul, ← rd_mul h]
  have e3 : Nat.gcd n.natAbs d.natAbs = (gg n d).natAbs * Nat.gcd (rn n d).natAbs (rd n d).natAbs := by
    rw [← Nat.gcd_mul_left, ← e1, ← e2]
  have e4 : (gg n d).natAbs = Nat.gcd n.natAbs d.natAbs := by unfold gg; exact Int.natAbs_natCast _
  rw [← e4] at e3
  have e5 : Nat.gcd (rn n d).natAbs (rd n d).natAbs = 1 := by
    have e6 : (gg n d).natAbs * 1 = (gg n d).natAbs * Nat.gcd (rn n d).natAbs (rd n d).natAbs := by rw [Nat.mul_one]; exact e3
    exact (Nat.eq_of_mul_eq_mul_left (by omega) e6).symm
  show ((Nat.gcd (rn n d).natAbs (rd n d).natAbs : Nat) : Int) = 1
  rw [e5]; rfl
theorem cross {n d : Int} (h : 0 < d) : rn n d * d = n * rd n d := by
  have e1 := rn_mul (n := n) h
  have e2 := rd_mul (n := n) h
  calc rn n d * d = rn n d * (gg n d * rd n d) := by rw [← e2]
    _ = gg n d * rn n d * rd n d := by rw [Int.mul_comm (gg n d) (rn n d), Int.mul_assoc]
    _ = n * rd n d := by rw [← e1]
/-- a number has one spelling without a common divisor -/
theorem low_uniq {p q r s : Int} (h1 : Low p q) (h2 : Low r s) (e : p * s = r * q) : p = r ∧ q = s := by
  have c1 : Nat.Coprime p.natAbs q.natAbs := by
    have := h1.one
    unfold gg at this
    exact Int.ofNat_inj.mp this
  have c2 : Nat.Coprime r.natAbs s.natAbs := by
    have := h2.one
    unfold gg at this
    exact Int.ofNat_inj.mp this
  have en : p.natAbs * s.natAbs = r.natAbs * q.natAbs := by rw [← Int.natAbs_mul, ← Int.natAbs_mul, e]
  have d1 : q.natAbs ∣ s.natAbs := c1.symm.dvd_of_dvd_mul_left (by rw [en]; exact Nat.dvd_mul_left _ _)
  have d2 : s.natAbs ∣ q.natAbs := c2.symm.dvd_of_dvd_mul_left (by rw [← en]; exact Nat.dvd_mul_left _ _)
  have eq : q.natAbs = s.natAbs := Nat.dvd_antisymm d1 d2
  have hq := h1.pos
  have hs := h2.pos
  have qs : q = s := by omega
  refine ⟨?_, qs⟩
  rw [qs] at e
  exact Int.eq_of_mul_eq_mul_right (by omega) e
theorem low_eq {n d m e : Int} (hd : 0 < d) (he : 0 < e) (h : n * e = m * d) : rn n d = rn m e ∧ rd n d = rd m e := by
  refine low_uniq (low_r hd) (low_r he) ?_
  have c1 := cross (n := n) hd
  have c2 := cross (n := m) he
  refine Int.eq_of_mul_eq_mul_right (a := d * e) (by have := Int.mul_pos hd he; omega) ?_
  calc rn n d * rd m e * (d * e) = (rn n d * d) * (rd m e * e) := by rw [Int.mul_assoc, Int.mul_left_comm (rd m e) d e, ← Int.mul_assoc]
    _ = (n * e) * (rd n d * rd m e) := by rw [c1, Int.mul_assoc, Int.mul_assoc, Int.mul_comm (rd m e) e, Int.mul_left_comm (rd n d) e (rd m e)]
    _ = (m * d) * (rd n d * rd m e) := by rw [h]
    _ = m * rd m e * (rd n d * d) := by rw [Int.mul_assoc, Int.mul_assoc, Int.mul_comm (rd n d) (rd m e), Int.mul_left_comm d (rd m e) (rd n d), Int.mul_comm d (rd n d)]
    _ = rn m e * rd n d * (d * e) := by rw [← c2, Int.mul_assoc, Int.mul_assoc, Int.mul_left_comm e (rd n d) d, Int.mul_comm e d]
theorem low_id {n d : Int} (h : Low n d) : rn n d = n ∧ rd n d = d := by
  unfold rn rd
  rw [h.one]
  exact ⟨Int.ediv_one _, Int.ediv_one _⟩
theorem rn_abs {n d : Int} (h : 0 < d) : (rn n d).natAbs ≤ n.natAbs := by
  have e : n.natAbs = (gg n d).natAbs * (rn n d).natAbs := by rw [← Int.natAbs_mul, ← rn_mul h]
  have g := gg_pos (n := n) h
  have : 1 * (rn n d).natAbs ≤ (gg n d).natAbs * (rn n d).natAbs := Nat.mul_le_mul_right _ (by omega)
  omega
theorem rd_abs {n d : Int} (h : 0 < d) : (rd n d).natAbs ≤ d.natAbs := by
  have e : d.natAbs = (gg n d).natAbs * (rd n d).natAbs := by rw [← Int.natAbs_mul, ← rd_mul h]
  have g := gg_pos (n := n) h
  have : 1 * (rd n d).natAbs ≤ (gg n d).natAbs * (rd n d).natAbs := Nat.mul_le_mul_right _ (by omega)
  omega
theorem gg_le {n d : Int} (h : 0 < d) : gg n d ≤ d := by
  have : Nat.gcd n.natAbs d.natAbs ≤ d.natAbs := Nat.gcd_le_right _ (by omega)
  unfold gg
  omega
end My
/-! ### lacks along words -/
namespace My
open PySem PySem.Spec PyProof.Rows L2 PySem.Builtin.Str
/-- what the frame of a machine is -/
def Frame (d : PyData) (M : Mc) : Prop := Mok M ∧ ((mchD d = true ∧ d = eM M) ∨ (mchD d = false ∧ plnD d = true ∧ withD d = eM M))
def lacksAfter (M : Mc) (cs : List Nat) (D : Dk) : Dk := cs.foldl (fun D c => lackOn M (ixM M c) D) D
theorem lacks_take {M : Mc} {S : Dk} {cs : List Nat} {j c : Nat} (h : cs[j]? = some c) : lacksAfter M (cs.take (j + 1)) S = lackOn M (ixM M c) (lacksAfter M (cs.take j) S) := by
  unfold lacksAfter
  rw [List.take_succ, h, List.foldl_append]
  rfl
structure Lok (M : Mc) (D : Dk) : Prop where
  kin : Kin M.C.length D
  ne : D ≠ []
  few : D.length ≤ 4
  bd : Bd 200 D
theorem lok_step {M : Mc} (h : Mok M) {at_ : Nat} {D : Dk} (l : Lok M D) (ha : at_ < M.z.length) : Lok M (lackOn M at_ D) := ⟨lack_kin h, lack_ne h l.kin l.ne ha, lack_len h l.few, lack_bd h⟩
theorem lok_zero {M : Mc} (h : Mok M) : Lok M [(0, 0)] := by
  have := h.c1
  refine ⟨⟨by simp [keysI], fun k hk => ?_⟩, by simp, by decide, fun kv hkv => ?_⟩
  · have : k = 0 := by simpa [keysI] using hk
    omega
  · obtain rfl : kv = (0, 0) := by simpa using hkv
    decide +kernel
theorem ix_lt {M : Mc} {c : Nat} (hc : c ∈ M.z.cps.toList) : ixM M c < M.z.length := by
  have : M.z.cps.toList.length = M.z.length := Array.length_toList
  rw [← this]
  exact List.idxOf_lt_length_of_mem hc
theorem lok_after {M : Mc} (h : Mok M) : ∀ (cs : List Nat) {D : Dk}, Lok M D → (∀ c ∈ cs, c ∈ M.z.cps.toList) → Lok M (lacksAfter M cs D)
  | [], _, l, _ => l
  | c :: cs, D, l, hc => lok_after h cs (D := lackOn M (ixM M c) D) (lok_step h l (ix_lt (hc c (.head _)))) fun e he => hc e (.tail _ he)
theorem sums_ne {M : Mc} (h : Mok M) : ∀ (cs : List Nat) {S : Dk}, Kin M.C.length S → S ≠ [] → (∀ c ∈ cs, c ∈ M.z.cps.toList) → sumsAfter M cs S ≠ []
  | [], _, _, n, _ => n
  | c :: cs, S, k, n, hc => sums_ne h cs (S := sumStep M S c) (sum_kin h) (on_ne h k n (ix_lt (hc c (.head _)))) fun e he => hc e (.tail _ he)
theorem frame_need {K : PySem.W.Frag} {CM : Addr} {H : Hp} {x : V} {d : PyData} {M : Mc} {nm : Str} {Q : VK} {E : XK} (hF : Frame d M) (hx : Rp K H x d) (hn : nm.length ≤ 100) (q : ∀ H1 v, Same H H1 → Rp K H1 v (eM M) → Q v H1) : spNeedMachine K CM [x, .str nm] H Q E := by
  refine ⟨x, d, nm, rfl, hx, hn, ?_⟩
  rcases hF.2 with ⟨h1, h2⟩ | ⟨h1, h2, h3⟩
  · exact .inl ⟨h1, fun H' s => q H' x s (h2 ▸ hx.go s)⟩
  · exact .inr (.inl ⟨h1, h2, fun H' t s r => q H' _ s (h3 ▸ r)⟩)
end My
/-! ### what stays when the pen writes -/
namespace My
open PySem PySem.Spec PyProof.Rows L2
/-- all but what stands at p, and the tables, is as it was -/
def ButN (p : Addr) (H H' : Hp) : Prop := ∀ b o, b ≠ p → H b = some o → (∀ ps, o ≠ .tbl ps) → H' b = some o
theorem ButN.trans {p : Addr} {H H1 H2 : Hp} (a : ButN p H H1) (b : ButN p H1 H2) : ButN p H H2 := fun c o n e t => b c o n (a c o n e t) t
theorem ButN.refl (p : Addr) (H : Hp) : ButN p H H := fun _ _ _ e _ => e
theorem butN_same {p : Addr} {H H' : Hp} (s : Same H H') : ButN p H H' := fun b o _ e _ => s b o e
theorem butN_but {p : Addr} {H H' : Hp} (s : But p H H') : ButN p H H' := fun b o n e _ => s b o n e
theorem butN_ext {p : Addr} {H H' : Hp} (s : LamX.ExtN H H') : ButN p H H' := fun b o _ e t => s b o e t
theorem Pen.ext {H H' : Hp} {p : Addr} {n : Nat} (h : Pen H p n) (s : LamX.ExtN H H') : Pen H' p n := by
  obtain ⟨c, cs, a, r, h1, h2, h3⟩ := h.ex
  exact ⟨c, cs, a, r, s _ _ h1 (fun _ z => nomatch z), s _ _ h2 (fun _ z => nomatch z), h3⟩
theorem tabs_but {T : List (Addr × Str)} {H H' : Hp} {p : Addr} {ys : List V} (h : LamX.Tabs T H) (hp : H p = some (.lst ys)) (b : But p H H') : LamX.Tabs T H' := fun x hx => by
  obtain ⟨ps, h1, h2, h3⟩ := h x hx
  refine ⟨ps, b _ _ (ne_of h1 hp (by intro z; cases z)) h1, h2, fun pos cv hc => ?_⟩
  obtain ⟨c, e1, e2⟩ := h3 pos cv hc
  exact ⟨c, e1, b _ _ (ne_of e2 hp (by intro z; cases z)) e2⟩
theorem tabs_pen {T : List (Addr × Str)} {H H' : Hp} {p : Addr} {n : Nat} (h : LamX.Tabs T H) (hp : Pen H p n) (b : But p H H') : LamX.Tabs T H' := by
  obtain ⟨ys, e⟩ := hp.ls
  exact tabs_but h e b
theorem tabs_same {T : List (Addr × Str)} {H H' : Hp} (h : LamX.Tabs T H) (s : Same H H') : LamX.Tabs T H' := h.ext s
theorem new_ne {H : Hp} {p l : Addr} {n : Nat} (h : Pen H p n) (hl : H l = none) : l ≠ p := by
  obtain ⟨xs, e⟩ := h.ls
  exact (ne_of_none e hl).symm
/-- x is what d says, whatever becomes of the pen -/
def Rs (p : Addr) (K : PySem.W.Frag) (H : Hp) (x : V) (d : PyData) : Prop := ∀ H', ButN p H H' → Rp K H' x d
def RsAll (p : Addr) (K : PySem.W.Frag) (H : Hp) (xs : List V) (ds : List PyData) : Prop := ∀ H', ButN p H H' → RpAll K H' xs ds
section
variable {p : Addr} {K : PySem.W.Frag} {H H' : Hp} {x : V} {d : PyData} {xs : List V} {ds : List PyData}
theorem Rs.go (h : Rs p K H x d) (b : ButN p H H') : Rs p K H' x d := fun H2 b2 => h H2 (b.trans b2)
theorem RsAll.go (h : RsAll p K H xs ds) (b : ButN p H H') : RsAll p K H' xs ds := fun H2 b2 => h H2 (b.trans b2)
theorem Rs.rp (h : Rs p K H x d) : Rp K H x d := h H (ButN.refl p H)
theorem RsAll.rp (h : RsAll p K H xs ds) : RpAll K H xs ds := h H (ButN.refl p H)
theorem rs_non : Rs p K H .non .none := fun _ _ => .non
theorem rs_bl (b : Bool) : Rs p K H (.bl b) (.bool b) := fun _ _ => .bl b
theorem rs_int (i : Int) : Rs p K H (.int i) (.int i) := fun _ _ => .int i
theorem rs_str (z : Str) (h : z.length ≤ sizeLine) : Rs p K H (.str z) (.str z) := fun _ _ => .str z h
theorem rsNil : RsAll p K H [] [] := fun _ _ => .nil
theorem RsAll.cons (h : Rs p K H x d) (t : RsAll p K H xs ds) : RsAll p K H (x :: xs) (d :: ds) := fun H2 b => .cons (h H2 b) (t H2 b)
theorem rs_tup {t : Addr} (ht : t ≠ p) (h : H t = some (.tup xs)) (a : RsAll p K H xs ds) : Rs p K H (.ref t) (.tuple ds) := fun H2 b => .tup (SqT.of (b _ _ ht h (fun _ z => nomatch z))) (a H2 b)
theorem rs_lst {t : Addr} (ht : t ≠ p) (h : H t = some (.lst xs)) (a : RsAll p K H xs ds) : Rs p K H (.ref t) (.list ds) := fun H2 b => .lst (SqL.of (b _ _ ht h (fun _ z => nomatch z))) (a H2 b)
theorem rsAll_of {α : Type} {f : α → V} {g : α → PyData} : ∀ {l : List α}, (∀ a ∈ l, Rs p K H (f a) (g a)) → RsAll p K H (l.map f) (l.map g)
  | [], _ => rsNil
  | a :: l, h => RsAll.cons (h a (.head _)) (rsAll_of fun b hb => h b (.tail _ hb))
end
def spPickC (K : PySem.W.Frag) : Sp := fun vs H Q _ => ∃ (p c s : Addr) (xs : List V) (n : Nat), vs = [.ref p, .ref s] ∧ PenC H p c n ∧ n < 1048000 ∧ SqL K H s xs ∧ s ≠ p ∧ 0 < xs.length ∧ xs.length ≤ 1000 ∧ ∀ (H' : Hp) (k : Nat) (v : V), But p H H' → PenC H' p c (n + 1) → xs[(k : Nat)]? = some (v : V) → Q v H'
theorem log_small {z : Int} {m : Nat} (h : z.natAbs ≤ m) (hm : m < 9000) : z.natAbs.log2 < 9000 := Nat.lt_of_le_of_lt (Nat.log2_le_self _) (Nat.lt_of_le_of_lt h hm)
section
variable {P : Program} {w : World} {K : PySem.W.Frag} {mg : Str → Option Value} {base : Heap} {f1 f2 f3 f4 : Addr} {d1 d2 d3 d4 : FuncData}
theorem ok_pickC (T : PenTxt K mg f1 f2 f3 f4 d1 d2 d3 d4) {k : Nat} : FnOk P w K mg base CX0 (k + 3) f4 d4 ["pen", "some"] (spPickC K) := by
  have F := T.FPick
  have GT : FnOk P w K mg base CX0 (k + 2) f3 d3 ["pen", "many"] spTakeC := ok_takeC T
  refine F.ok scPick (fun vs H Q E h => ?_) (fun cdv A outer s H vs Q E hr h => ?_)
  · obtain ⟨c, c2, a, xs, n, rfl, _⟩ := h
    rfl
  · obtain ⟨p, c, l, xs, n, rfl, hP, hn, hS, nlp, l0, l1, q⟩ := h
    refine ⟨_, (pss_one (ps_ret (pe_ix ix_list (pv 1) (pe_call GT hr (by rfl) T.gTake T.FTake.kp T.bTake .nil pass0 (pa_cons (pv 0) (pa_cons (pe_callB call_len_seq (by rfl) T.len PySem.boot_len (pa_cons (pv 1) pa_nil)) pa_nil))) (fun _ _ => rfl)))), ?_⟩
    refine ⟨_, rfl, _, rfl, _, rfl, l, xs, rfl, .inl hS, p, c, _, n, rfl, hP, hn, by omega, ?_, fun H1 k b1 hP1 k0 k1 => ?_⟩
    · exact log_small (show ((xs.length : Int)).natAbs ≤ 1000 by omega) (by decide)
    · have hk : k.toNat < xs.length := by omega
      have e : xs[k.toNat]? = some xs[k.toNat] := List.getElem?_eq_getElem hk
      have hS1 : SqL K H1 l xs := by
        rcases hS with (h | ⟨o, h⟩) | h
        · exact .inl (.inl (b1 _ _ nlp h))
        · exact .inl (.inr ⟨o, b1 _ _ nlp h⟩)
        · exact .inr h
      exact ⟨l, xs, k, _, rfl, rfl, hS1, at_of (by omega) e, q H1 k.toNat _ b1 hP1 e⟩
end
end My
/-! ### the law's letters -/
namespace My
open PySem PySem.Spec PyProof.Rows L2
abbrev sXLetters : Stmt := topS 58
theorem scXLetters : FnScope ["pen", "i", "alphabet", "j", "k"] ["pen"] (defScope sXLetters) := ⟨rfl, rfl, rfl, by decide +kernel, rfl, by decide +kernel, by decide +kernel⟩
structure LetTxt (K : PySem.W.Frag) (mg : Str → Option Value) (x1 : Addr) (y1 : FuncData) : Prop where
  FXLetters : Fun K "_law_x_letters" "_law_x_letters" sXLetters x1 y1
  bXLetters : Binds K y1 ["pen"] []
  gXLetters : mg "_law_x_letters" = some (.ref x1)
def abc : Str := "abcdefghijklmnopqrstuvwxyz"
theorem abc_len : abc.length ≤ sizeLine := by
  show 26 ≤ sizeLine
  decide
theorem abc_at {i : Int} (h0 : 0 ≤ i) (h1 : i ≤ 25) : atI abc.cps.toList i = some (97 + i.toNat) := by
  have h : ∀ n : Nat, n < 26 → abc.cps.toList[n]? = some (97 + n) := by decide +kernel
  have e := h i.toNat (by omega)
  rw [show i = ((i.toNat : Nat) : Int) by omega]
  exact (atI_nat e)
def spXLetters : Sp := fun vs H Q _ => ∃ (p : Addr) (n : Nat), vs = [.ref p] ∧ Pen H p n ∧ n < 1047000 ∧ ∀ (H' : Hp) (z : Str), But p H H' → Pen H' p (n + 4) → lettersL z.cps.toList = true → Q (.str z) H'
theorem letters_one {a : Nat} (h1 : 97 ≤ a) (h2 : a ≤ 122) : lettersL [a] = true := by
  simp [lettersL, h1, h2]
section
variable {P : Program} {w : World} {K : PySem.W.Frag} {mg : Str → Option Value} {base : Heap} {f1 f2 f3 f4 : Addr} {d1 d2 d3 d4 : FuncData} {x1 : Addr} {y1 : FuncData}
theorem ok_xLetters (TP : PenTxt K mg f1 f2 f3 f4 d1 d2 d3 d4) (T : LetTxt K mg x1 y1) {k : Nat} : FnOk P w K mg base CX0 (k + 4) x1 y1 ["pen"] spXLetters := by
  have GT : FnOk P w K mg base CX0 (k + 3) f3 d3 ["pen", "many"] spTake := ok_take TP (k := k + 1)
  have GP : FnOk P w K mg base CX0 (k + 3) f4 d4 ["pen", "some"] (spPick K) := ok_pick TP (k := k)
  refine T.FXLetters.ok scXLetters (fun vs H Q E h => ?_) (fun cdv A outer s H vs Q E hr h => ?_)
  · obtain ⟨p, n, rfl, _⟩ := h
    rfl
  · obtain ⟨p, n, rfl, hP, hn, q⟩ := h
    refine ⟨_, (Evl.pss_cut (ps_par (i := 1) (j := 2) (by rfl) scXLetters.nd rfl rfl (by decide) rfl rfl (pa_cons (pe_call GT hr (by rfl) TP.gTake TP.FTake.kp TP.bTake .nil pass0 (pa_cons (pv 0) (pa_cons pe_int pa_nil))) (pa_cons pe_str pa_nil)) (by rfl))
 (Evl.pss_cut (ps_set (i := 3) scXLetters.nd rfl (.inl rfl) (pe_op op_add (pe_op op_add (pv 1) pe_int) (pe_call GT hr (by rfl) TP.gTake TP.FTake.kp TP.bTake .nil pass0 (pa_cons (pv 0) (pa_cons (pe_op op_sub pe_int (pv 1)) pa_nil)))))
 (Evl.pss_cut (ps_set (i := 4) scXLetters.nd rfl (.inl rfl) (pe_op op_add (pe_op op_add (pv 3) pe_int) (pe_call GT hr (by rfl) TP.gTake TP.FTake.kp TP.bTake .nil pass0 (pa_cons (pv 0) (pa_cons (pe_op op_sub pe_int (pv 3)) pa_nil)))))
 (pss_one (ps_ret (pe_op op_add_str (pe_ix ix_str (pv 2) (pv 1) (fun _ _ => rfl)) (pe_call GP hr (by rfl) TP.gPick TP.FPick.kp TP.bPick .nil pass0 (pa_cons (pv 0) (pa_cons (pe_lst (pa_cons pe_str (pa_cons (pe_ix ix_str (pv 2) (pv 3) (fun _ _ => rfl)) (pa_cons (pe_ix ix_str (pv 2) (pv 3) (fun _ _ => rfl)) (pa_cons (pe_ix ix_str (pv 2) (pv 3) (fun _ _ => rfl)) (pa_cons (pe_op op_add_str (pe_ix ix_str (pv 2) (pv 3) (fun _ _ => rfl)) (pe_ix ix_str (pv 2) (pv 4) (fun _ _ => rfl))) pa_nil)))))) pa_nil))))))))), ?_⟩
    refine ⟨fun σ H' => ∃ i : Int, σ = [some (.ref p), some (.int i), some (.str abc), none, none] ∧ 0 ≤ i ∧ i ≤ 23 ∧ But p H H' ∧ Pen H' p (n + 1), ?_, ?_⟩
    · refine ⟨_, rfl, p, 24, n, rfl, hP, by omega, by decide, by decide, fun H1 i b1 hP1 i0 i1 => ⟨_, _, rfl, i, rfl, i0, by omega, b1, hP1⟩⟩
    rintro σ H1 ⟨i, rfl, i0, i1, b1, hP1⟩
    refine ⟨fun σ H' => ∃ j : Int, σ = [some (.ref p), some (.int i), some (.str abc), some (.int j), none] ∧ i < j ∧ j ≤ 24 ∧ But p H H' ∧ Pen H' p (n + 2), ?_, ?_⟩
    · refine ⟨_, rfl, _, _, rfl, rfl, _, rfl, _, rfl, _, _, rfl, rfl, p, 24 - i, n + 1, rfl, hP1, by omega, by omega, log_small (m := 24) (by omega) (by decide), fun H2 j b2 hP2 j0 j1 => ⟨_, _, rfl, rfl, _, rfl, by omega, by omega, b1.trans b2, hP2⟩⟩
    rintro σ H2 ⟨j, rfl, j0, j1, b2, hP2⟩
    refine ⟨fun σ H' => ∃ k : Int, σ = [some (.ref p), some (.int i), some (.str abc), some (.int j), some (.int k)] ∧ j < k ∧ k ≤ 25 ∧ But p H H' ∧ Pen H' p (n + 3), ?_, ?_⟩
    · refine ⟨_, rfl, _, _, rfl, rfl, _, rfl, _, rfl, _, _, rfl, rfl, p, 25 - j, n + 2, rfl, hP2, by omega, by omega, log_small (m := 25) (by omega) (by decide), fun H3 k b3 hP3 k0 k1 => ⟨_, _, rfl, rfl, _, rfl, by omega, by omega, b2.trans b3, hP3⟩⟩
    rintro σ H3 ⟨k, rfl, k0, k1, b3, hP3⟩
    have ai := abc_at (i := i) i0 (by omega)
    have aj := abc_at (i := j) (by omega) (by omega)
    have ak := abc_at (i := k) (by omega) (by omega)
    have len1 : ∀ a b : Nat, (⟨#[a]⟩ : Str).length + (⟨#[b]⟩ : Str).length ≤ sizeLine := fun a b => by
      show 2 ≤ sizeLine
      decide
    refine ⟨_, rfl, _, rfl, abc, i, _, rfl, rfl, abc_len, ai, ?_⟩
    refine ⟨_, rfl, _, rfl, _, rfl, abc, j, _, rfl, rfl, abc_len, aj, _, rfl, _, rfl, abc, j, _, rfl, rfl, abc_len, aj, _, rfl, _, rfl, abc, j, _, rfl, rfl, abc_len, aj, ?_⟩
    refine ⟨_, rfl, _, rfl, abc, j, _, rfl, rfl, abc_len, aj, _, rfl, _, rfl, abc, k, _, rfl, rfl, abc_len, ak, _, _, rfl, rfl, len1 _ _, (by show 5 ≤ sizeLine; decide), fun l hl => ?_⟩
    have nl := new_ne hP3 hl
    refine ⟨p, l, _, n + 3, rfl, hP3.same (same_upd hl), by omega, SqL.of upd_same, nl, (by show 0 < 5; decide), (by show 5 ≤ 1000; decide), fun H4 m v b4 hP4 hm => ?_⟩
    have b34 : But p H H4 := b3.trans ((But.of (same_upd hl)).trans b4)
    have c1 : ∃ y : Str, v = .str y ∧ (y.cps.toList = [] ∨ y.cps.toList = [97 + j.toNat] ∨ y.cps.toList = [97 + j.toNat, 97 + k.toNat]) := by
      match m, hm with
      | 0, hm => exact ⟨_, (Option.some.inj hm).symm, .inl (by decide +kernel)⟩
      | 1, hm => exact ⟨_, (Option.some.inj hm).symm, .inr (.inl rfl)⟩
      | 2, hm => exact ⟨_, (Option.some.inj hm).symm, .inr (.inl rfl)⟩
      | 3, hm => exact ⟨_, (Option.some.inj hm).symm, .inr (.inl rfl)⟩
      | 4, hm => exact ⟨_, (Option.some.inj hm).symm, .inr (.inr rfl)⟩
      | m + 5, hm => exact absurd hm (by simp)
    obtain ⟨y, rfl, c1⟩ := c1
    have hy : y.length = y.cps.toList.length := rfl
    refine ⟨_, _, rfl, rfl, ?_, q H4 _ b34 hP4 ?_⟩
    · rw [hy]
      refine Nat.le_trans (show _ ≤ 3 from ?_) (by decide)
      rw [show (⟨#[97 + i.toNat]⟩ : Str).length = 1 from rfl]
      rcases c1 with e | e | e <;> rw [e] <;> simp
    · have e1 : ((⟨#[97 + i.toNat]⟩ : Str) ++ y).cps.toList = [97 + i.toNat] ++ y.cps.toList := by
        show (#[97 + i.toNat] ++ y.cps).toList = _
        simp
      rw [e1]
      rcases c1 with e | e | e <;> rw [e]
      · simp [lettersL]; omega
      · simp [lettersL]; omega
      · simp [lettersL]; omega
end
end My
/-! ### tuple * 1 -/
namespace My
open PySem PySem.Spec PyProof.Rows L2
theorem tuple_mul1 (l : Addr) (items : Array Value) (n : Nat) (dd : Option Addr) (sl : Array (Option Value)) (u : Tok) :
    Meets (Builtin.«tuple.__mul__» ⟨[.ref l, .int 1 u], []⟩) (fun _ R s => s.heap.get? l = some { cls := .type "tuple", dict := dd, data := .seq items n, slots := sl } ∧
      R (.ok (.ret (Value.ref l))) s) :=
  .of_wp fun prog w A R s h => by
    obtain ⟨hp, g, d, tk, os⟩ := s
    obtain ⟨hl, h⟩ := h
    have f1 := AutoSeq1.idx_int
    wp_walk using wpAny_loadPart' hl
    exact ⟨_, rfl, h⟩
theorem op_repT1 {X : Cx} : OpR X (binaryOp .Mult) (fun x y H Q => ∃ l k xs, x = .ref l ∧ y = .int k ∧ SqT X.K H l xs ∧ xs ≠ [] ∧ 1 ≤ k ∧ k ≤ 1000 ∧ xs.length ≤ 1000 ∧ (k = 1 → Q (.ref l) H) ∧ ∀ p, H p = none → Q (.ref p) (upd H p (.tup (List.replicate k.toNat xs).flatten))) := by
  intro pins s σ H x y v u Q I rx ry h
  obtain ⟨l, k, xs, rfl, rfl, hT, hne, h1, h2, hz, q1, q2⟩ := h
  by_cases e : k = 1
  · subst e
    cases rx
    obtain ⟨t, rfl⟩ := ry
    obtain ⟨its, r, ⟨⟨cls, dd, data, sl⟩, ho, hc, n, hd⟩, hs⟩ := I.tuple hT
    simp only at hc hd
    subst hc hd
    exact wpAny_binaryOp_repeat_ref (T := "tuple") (U := "int") (by decide) ⟨_, ho, rfl⟩ (fun s' => typeIs_int s' 1 t) noFill_tuple_mul F.fills_int_mul F.slot_int_rmul repeat_tuple F.slot_int_index.lookup
      (call_meets F.slot_int_rmul (typeIs_int s 1 t) F.entry_int_rmul (F.args_int_rmul_2 _ _) (int_rmul_tuple 1 t l its.toArray n dd sl)
        ⟨ho, rfl, ⟨_, ho, rfl⟩, call_meets F.slot_tuple_mul ⟨_, ho, rfl⟩ F.entry_tuple_mul (F.args_tuple_mul_2 _ _) (tuple_mul1 l its.toArray n dd sl t) ⟨ho, ⟨.ref l, H, I, rfl, q1 rfl⟩⟩⟩)
  · exact op_repT pins s σ H (.ref l) (.int k) v u Q I rx ry ⟨l, k, xs, rfl, rfl, hT, hne, by omega, h2, hz, q2⟩
end My
/-! ### tuple * 0 -/
namespace My
open PySem PySem.Spec PyProof.Rows L2
theorem tuple_mul0 (l : Addr) (items : Array Value) (n : Nat) (dd : Option Addr) (sl : Array (Option Value)) (u : Tok) (c1 : (items.isEmpty || (0 : Int) == 1) = false) :
    Meets (Builtin.«tuple.__mul__» ⟨[.ref l, .int 0 u], []⟩) (fun _ R s => s.heap.get? l = some { cls := .type "tuple", dict := dd, data := .seq items n, slots := sl } ∧
      R (.ok (.ret (Value.ref s.heap.objs.size))) { s with heap := s.heap.push { cls := Value.type "tuple", data := Data.seq #[] }, toks := s.toks }) :=
  .of_wp fun prog w A R s h => by
    obtain ⟨hp, g, d, tk, os⟩ := s
    obtain ⟨hl, h⟩ := h
    have f1 := AutoSeq1.idx_int
    wp_walk using wpAny_loadPart' hl
    repeat (first
      | (refine wpAny_ite_false (decide_eq_false (by rw [c1]; exact Bool.false_ne_true)) ?_; wp_walk using wpAny_loadPart' hl))
    exact ⟨_, rfl, h⟩
def rRepTa (K : PySem.W.Frag) : R2 := fun x y H Q => ∃ l k xs, x = .ref l ∧ y = .int k ∧ SqT K H l xs ∧ xs ≠ [] ∧ 0 ≤ k ∧ k ≤ 1000 ∧ xs.length ≤ 1000 ∧ (k = 1 → Q (.ref l) H) ∧ ∀ p, H p = none → Q (.ref p) (upd H p (.tup (List.replicate k.toNat xs).flatten))
theorem op_repTa {X : Cx} : OpR X (binaryOp .Mult) (rRepTa X.K) := by
  intro pins s σ H x y v u Q I rx ry h
  obtain ⟨l, k, xs, rfl, rfl, hT, hne, h1, h2, hz, q1, q2⟩ := h
  by_cases e : k = 0
  · subst e
    cases rx
    obtain ⟨t, rfl⟩ := ry
    obtain ⟨its, r, ⟨⟨cls, dd, data, sl⟩, ho, hc, n, hd⟩, hs⟩ := I.tuple hT
    simp only at hc hd
    subst hc hd
    have hi : (its.toArray.isEmpty || (0 : Int) == 1) = false := by
      cases its with
      | nil =>
        cases r
        exact absurd rfl hne
      | cons a b => rfl
    exact wpAny_binaryOp_repeat_ref (T := "tuple") (U := "int") (by decide) ⟨_, ho, rfl⟩ (fun s' => typeIs_int s' 0 t) noFill_tuple_mul F.fills_int_mul F.slot_int_rmul repeat_tuple F.slot_int_index.lookup
      (call_meets F.slot_int_rmul (typeIs_int s 0 t) F.entry_int_rmul (F.args_int_rmul_2 _ _) (int_rmul_tuple 0 t l its.toArray n dd sl)
        ⟨ho, rfl, ⟨_, ho, rfl⟩, call_meets F.slot_tuple_mul ⟨_, ho, rfl⟩ F.entry_tuple_mul (F.args_tuple_mul_2 _ _) (tuple_mul0 l its.toArray n dd sl t hi) ⟨ho, ⟨.ref s.heap.objs.size, _, I.laid (t' := s.toks) (o := .tup []) (fun b ob q => Heap.get?_push_of_some _ q) (Nat.le_refl _) ⟨Nat.zero_le _, [], .nil, IsTup.new _ _⟩, rfl, q2 _ (I.hok.fresh (Nat.le_refl _))⟩⟩⟩)
  · exact op_repT1 pins s σ H (.ref l) (.int k) v u Q I rx ry ⟨l, k, xs, rfl, rfl, hT, hne, by omega, h2, hz, q1, q2⟩
theorem rep_any {K : PySem.W.Frag} {l : Addr} {x : V} {k : Int} {H : Hp} {Q : VK} (hl : H l = some (.tup [x])) (k0 : 0 ≤ k) (k1 : k ≤ 1000) (q : ∀ r H', Same H H' → H' r = some (.tup (List.replicate k.toNat x)) → Q (.ref r) H') : rRepTa K (.ref l) (.int k) H Q := by
  have e : (List.replicate k.toNat [x]).flatten = List.replicate k.toNat x := by simp
  refine ⟨l, k, [x], rfl, rfl, SqT.of hl, by simp, k0, k1, by simp, fun h => ?_, fun p hp => ?_⟩
  · subst h
    exact q l H (Same.refl H) hl
  · rw [e]
    exact q p _ (same_upd hp) upd_same
theorem rep_anyC {K : PySem.W.Frag} {σ : L2.St} {l : Addr} {x : V} {k : Int} {H : Hp} {Q : VK} (hl : H l = some (.tup [x])) (k0 : 0 ≤ k) (k1 : k ≤ 1000) (q : ∀ r H', Same H H' → H' r = some (.tup (List.replicate k.toNat x)) → Q (.ref r) H') : tC (.int k) σ H (fun y H2 => rRepTa K (.ref l) y H2 Q) := rep_any hl k0 k1 q
end My
/-! ### an error that is caught is kept: try: .. except X as n: m = n -/
namespace My
open PySem PySem.Spec PyProof.Rows L2
/-- an error of the class at C stands at a -/
def IsErr (C a : Addr) (h : Heap) : Prop := ∃ (oe : Obj) (vs : Array Value), h.get? a = some oe ∧ Zc (.ref C) none oe ∧ oe.data = .fields vs
def ErrV (C a : Addr) : HO := .ext (IsErr C a)
theorem err_ok {P : Program} {w : World} {H : Hp} {h : Heap} {C a : Addr} (e : IsErr C a h) : ObjOk P w H h a (ErrV C a) := by
  obtain ⟨oe, vs, e1, e2, e3⟩ := id e
  exact ⟨e, ⟨oe, e1⟩, fun _ _ ⟨o, v, q, r⟩ k => ⟨o, v, k o q, r⟩⟩
section
variable {X : Cx} {pins : List (Addr × Obj)} {σ : L2.St} {H : Hp} {s : Shared}
/-- what stands there anyway, and is tracked by nothing, may be tracked -/
theorem inv_track (I : Inv X pins σ H s) {a : Addr} {o : HO} {oe : Obj} {vs : Array Value} (n0 : X.s_0.heap.get? a = none) (ha : s.heap.get? a = some oe) (hd : oe.data = .fields vs) (na : H a = none)
    (nL : a ≠ X.env.locals) (np : ∀ p ∈ X.pn ++ pins, p.1 ≠ a) (new : ObjOk X.prog X.w (upd H a o) s.heap a o) : Inv X pins σ (upd H a o) s where
  ok := I.ok
  os := I.os
  bare := I.bare
  base := by
    have ne : ∀ b u, X.s_0.heap.get? b = some u → b ≠ a := fun b u e z => by
      rw [z, n0] at e
      cases e
    exact {
      keep := I.base.keep, slot := I.base.slot, there := I.base.there,
      free := fun b u e n x => by rw [upd_ne (ne b u e)]; exact I.base.free b u e n x,
      tups := fun b xs e => (by have q := I.base.tups b xs e; rw [upd_ne (ne_of_none q na)]; exact q),
      frzs := fun b u x e => (by have q := I.base.frzs b u x e; rw [upd_ne (ne_of_none q na)]; exact q),
      tbls := fun b ps e => (by obtain ⟨m, q⟩ := I.base.tbls b ps e; exact ⟨m, by rw [upd_ne (ne_of_none q na)]; exact q⟩) }
  loc := I.loc
  cell := I.cell
  free := by rw [upd_ne nL.symm]; exact I.free
  freeC := fun x c e => by
    have ne : c ≠ a := fun z => by
      obtain ⟨v, oc, hc, hv⟩ := I.cell x c e
      rw [z, ha] at hc
      cases hc
      rw [hd] at hv
      cases hv
    rw [upd_ne ne]
    exact I.freeC x c e
  pin := fun p hp => by
    obtain ⟨p1, p2, p3, p4, p5⟩ := I.pin p hp
    exact ⟨p1, by rw [upd_ne (np p hp)]; exact p2, p3, p4, p5⟩
  hok := I.hok.laidN (fun _ _ e => e) na new
  len := I.len
end
/-- the wish: the class is the clause's, what the suite does with it, and the error is tracked behind -/
def wKeep (K : PySem.W.Frag) (c : Value) (i : Nat) (ts : TS) (D : Ends) : WX := fun cls d σ H =>
  PySem.W.exmOne K cls c = some true ∧ d = none ∧ ∃ C, cls = .ref C ∧ ∀ a, H a = none → ts { nx := fun σ' H' => H' a = none → D.nx (σ'.set i none) (upd H' a (ErrV C a)), rt := fun _ _ => False } (σ.set i (some (.ref a))) H
section
variable {X : Cx} {x n : Str} {c : Value} {i : Nat} {body suite : List Stmt} {b₀ : Stmt} {np pos pos' : Pos} {tb : WX → TS} {ts : TS}
theorem ps_try_keep (hs : X.stack = X.env :: X.outer) (hf : X.env.frame = some X.env.locals) (hex : X.ex = []) (hN : X.N.Nodup) (hi : X.N[i]? = some n) (hln : X.env.kindOf n = some .local) (hc : Names X x c)
    (hb : ∀ (W : WX) (pl : List (Addr × Obj)) (ex : Value → Shared → Prop), Takes (X.tr pl ex) W → PassesOwn (model X.prog X.w) X.A X.env ex → PSs (X.tr pl ex) body (tb W))
    (hsu : ∀ (a : Addr) (oe : Obj) (pl : List (Addr × Obj)), PSs (X.suite a ((a, oe) :: pl)) (b₀ :: suite) ts) :
    PS X (.Try body [.ExceptHandler (some (.Name x np)) (some n) (b₀ :: suite) pos'] [] [] pos) (fun D σ H => tb (wKeep X.K c i ts D) D σ H) := by
  constructor
  intro pins s σ H D I h
  have okX := I.ok
  have frames : X.A.frames = some (X.env :: X.outer) := okX.frames.trans (congrArg some hs)
  refine wpAny_Try_except ?_
  refine wpAny_mono ((hb (wKeep X.K c i ts D) (X.pn ++ pins)
    (fun e s₁ => wpAny (model X.prog X.w) X.A (noteFrame e X.env) (fun _ s₂ => wpAny (model X.prog X.w) X.A (setFlight e none) (fun _ s₃ =>
      wpAny (model X.prog X.w) X.A (handleBy e X.env [.ExceptHandler (some (.Name x np)) (some n) (b₀ :: suite) pos']) (SP X pins D) X.xe s₃) X.xe s₂) X.xe s₁)
    (fun u s2 air => ?caught) PassesOwn.looking).run [] s σ H D (I.toTry _) h) (fun f s1 ends => ?through) (fun e s1 he => he)
  case caught =>
    obtain ⟨a, B, sI, pins2, σ2, H2, cls, d, rfl, I2, under, upto, sky, freeA, osE, bareG, match1, dn, C, rfl, go⟩ := air
    subst dn
    have J := I2.ofTry okX
    rw [hs] at sky
    show wpAny (model X.prog X.w) X.A (noteFrame (.ref a) X.env) _ _ _
    refine Sky.land Zc.steady frames hf sky fun h3 fly3 upto3 => ?_
    obtain ⟨oe3, vs3, at3, cls3, data3⟩ := fly3.there
    have noFrame : ∀ {hh : Heap} {oo : Obj} {vv : Array Value}, hh.FunFrames B (X.env :: X.outer) → hh.get? a = some oo → oo.data = .fields vv → a ∉ frs (X.env :: X.outer) := by
      intro hh oo vv ff e1 e2 mem
      obtain ⟨_, o2, e3, bad⟩ := ff.mem mem
      rw [e1] at e3
      cases e3
      exact bad _ e2
    have nfr := noFrame fly3.2.2.1 at3 data3
    have nL : a ≠ X.env.locals := by
      intro z
      refine nfr (List.mem_filterMap.mpr ⟨X.env, List.mem_cons_self, ?_⟩)
      rw [hf, z]
    have nF : a ∉ X.fs := by
      intro mem
      obtain ⟨e, he, q⟩ := List.mem_filterMap.mp mem
      exact nfr (List.mem_filterMap.mpr ⟨e, List.mem_cons_of_mem _ he, q⟩)
    -- it is new: it does not stand in the state without it
    have newI : sI.heap.get? a = none := by
      cases q : sI.heap.get? a with
      | none => rfl
      | some u =>
        have z := under a u q (by rw [hs]; exact nfr)
        rw [fly3.2.1] at z
        cases z
    have new0 : X.s_0.heap.get? a = none := by
      cases q : X.s_0.heap.get? a with
      | none => rfl
      | some u =>
        obtain ⟨u2, z⟩ := J.base.there a u q (by rw [hex]; exact fun z => nomatch z)
        rw [newI] at z
        cases z
    have offPins : ∀ p ∈ X.pn ++ pins, p.1 ≠ a := by
      intro p hp z
      have q := (J.pin p hp).1
      rw [z, newI] at q
      cases q
    have J3 : Inv X pins σ2 H2 { s2 with heap := h3 } := J.landed under fly3.1 (upto.trans upto3) osE bareG
    have S3 := J3.suite at3 data3 freeA nL nF
    refine wpAny_handleBy_cons (codeAny_handlers_test ?_) (fun q => by cases q)
    have typeIs : PySem.W.Looks (model X.prog X.w) h3 (typeOf (.ref a)) (.ref C) := fun A Q E st k q => wpAny_typeOf_ref (k _ _ at3) (by rw [cls3.1]; exact q)
    have looks := PySem.W.exm_one (M := model X.prog X.w) J3.kIn typeIs match1
    have nameIs : ∀ {Q : Value → Shared → Prop} {E : Value → Shared → Prop}, Q c { s2 with heap := h3 } → wpAny (model X.prog X.w) (X.A.mark (some (.ref a))) (eval (.Name x np) X.env) Q E { s2 with heap := h3 } := by
      intro Q E q
      rcases hc with ⟨g1, g2, m1 | ⟨m1, m2, m3⟩⟩
      · exact ld_glob (X := X.suite a ((a, oe3) :: (X.pn ++ pins))) S3 g1 m1 q g2
      · exact ld_blt (X := X.suite a ((a, oe3) :: (X.pn ++ pins))) S3 g1 m1 m2 q m3 g2
    refine nameIs (looks.here ?_)
    refine codeAny_handlers_suite_as ?_
    refine HandSPX.lands_againZ fly3 fun h4 fly4 upto4 => ?_
    have J4 : Inv X pins σ2 H2 { s2 with heap := h4 } := J.landed under fly4.1 ((upto.trans upto3).trans upto4) osE bareG
    obtain ⟨oe4, vs4, at4, cls4, data4⟩ := fly4.there
    have S4 := J4.suite at4 data4 freeA nL nF
    refine store_ok (X := X.suite a ((a, oe4) :: (X.pn ++ pins))) (v := .ref a) S4 hN hi (.inl hln) rfl (fun s5 S5 => ?_) (.inr hln)
    refine wpAny_mono ((hsu a oe4 (X.pn ++ pins)).run [] s5 _ H2 _ S5 (go a freeA)) (fun f s6 ends => ?_) (fun _ _ z => z.elim)
    match f, ends with
    | .ret _, ends => exact (let ⟨_, _, _, _, _, z⟩ := ends; z.elim)
    | .brk, ends => exact (let ⟨_, _, _, z⟩ := ends; z.elim)
    | .cont, ends => exact (let ⟨_, _, _, z⟩ := ends; z.elim)
    | .next, ends =>
      obtain ⟨σ6, H6, S6, q6⟩ := ends
      obtain ⟨at6, free6, _⟩ := S6.pin (a, oe4) (List.mem_append.mpr (.inl List.mem_cons_self))
      have J6 := inv_track (o := ErrV C a) (S6.unsuite okX) new0 at6 data4 free6 nL offPins (err_ok ⟨oe4, vs4, at6, cls4, data4⟩)
      exact gone_ok J6 hN hi hln fun s7 J7 => ⟨_, _, J7, q6 free6⟩
  case through =>
    match f, ends with
    | .next, ⟨σ', H', J', q⟩ => exact wpAny_execs_nil ⟨σ', H', J'.ofTry okX, q⟩
    | .brk, ⟨σ', H', J', q⟩ => exact ⟨σ', H', J'.ofTry okX, q⟩
    | .cont, ⟨σ', H', J', q⟩ => exact ⟨σ', H', J'.ofTry okX, q⟩
    | .ret u, ⟨v, σ', H', J', r, q⟩ => exact ⟨v, σ', H', J'.ofTry okX, r, q⟩
end
end My
/-! ### isinstance of an error that is tracked; a text times an int -/
namespace My
open PySem PySem.Spec PyProof.Rows L2
/-- what the classes D of errors must say: nothing of their own stands in isinstance's way -/
def errFacts (K : PySem.W.Frag) (D : Addr) : Bool :=
  (PySem.W.findIn K (.ref D) "__getattribute__" == some (some (.builtin "BaseException.__getattribute__"))) && ((PySem.W.findIn K (.ref D) "__getattr__" == some none) && ((PySem.W.subIn K (.ref D) (.type "BaseException") == some true) &&
  (PySem.W.hasDictIn K D && ((PySem.W.findIn K (.ref D) "__class__" == some (some (.builtin "object.__class__"))) && ((PySem.W.specialIn K (.builtin "object.__class__") "__get__" == some (some (.builtin "getset_descriptor.__get__"))) &&
  ((PySem.W.takesIn K (.builtin "object.__class__") == some true) && (PySem.W.mroIn K D (.type "object") == some true)))))))
theorem errFacts_to {K : PySem.W.Frag} {D : Addr} (h : errFacts K D = true) : L2.ExcC K D := by
  unfold errFacts at h
  simp only [Bool.and_eq_true, beq_iff_eq] at h
  obtain ⟨h1, h2, h3, h4, h5, h6, h7, h8⟩ := h
  exact ⟨h1, h2, h3, h4, h5, h6, h7, h8⟩
/-- what an error of the class at D needs to be raised, made, caught and asked for -/
def mkFacts (K : PySem.W.Frag) (D : Addr) : Bool :=
  PySem.W.excIn K D [.type "ValueError", .type "Exception", .type "BaseException", .type "object"] "ValueError.__new__" && (PySem.W.keepIn K (.ref D) && ((PySem.W.subIn K (.ref D) (.type "BaseException") == some true) && ((PySem.W.typeIn K (.ref D) == some (.type "type")) && errFacts K D)))
/-- it is of the class at c, or not -/
def kitB (K : PySem.W.Frag) (D : Addr) (c : Value) (b : Bool) : Bool := PySem.W.kitOne K (.ref D) c == some b
/-- a tracked thing at a is an error of the class at D -/
def ErrAt (H : Hp) (a D : Addr) : Prop := ∃ φ, H a = some (.ext φ) ∧ ∀ h, φ h → IsErr D a h
theorem ErrAt.same {H H' : Hp} {a D : Addr} (h : ErrAt H a D) (s : Same H H') : ErrAt H' a D := by
  obtain ⟨φ, e, q⟩ := h
  exact ⟨φ, s _ _ e, q⟩
theorem errV_at {H : Hp} {a D : Addr} : ErrAt (upd H a (ErrV D a)) a D := ⟨_, upd_same, fun _ h => h⟩
theorem exO_at {H : Hp} {a D : Addr} (e : H a = some (ExO (.ref D) a)) : ErrAt H a D := ⟨_, e, fun h ⟨oe, vs, h1, h2, h3, _⟩ => ⟨oe, vs, h1, h2, h3⟩⟩
section
variable {X : Cx}
def rIsErr (K : PySem.W.Frag) : List V → Hp → VK → Prop := fun xs H Q => ∃ (a D : Addr) (c : V) (u : Value) (b : Bool), xs = [.ref a, c] ∧ ErrAt H a D ∧ errFacts K D = true ∧ ClsV c u ∧ kitB K D u b = true ∧ Q (.bl b) H
theorem call_isErr : CallR X (.builtin "isinstance") (rIsErr X.K) := by
  intro pins s σ H xs us Q I r h
  obtain ⟨a, D, c, u, b, rfl, ⟨φ, ha, hφ⟩, hF, hc, hk, q⟩ := h
  have C := errFacts_to hF
  cases r with
  | cons r1 rr =>
    cases rr with
    | cons r2 r3 =>
      cases r3
      cases r1
      cases hc.eq r2
      obtain ⟨oe, vs, e1, ⟨e2, e3⟩, e4⟩ := hφ _ (I.hok a _ ha).1
      have J : PySem.W.InstAt s.heap a oe D none := by
        obtain ⟨oc, od, dt, sl⟩ := oe
        dsimp only at e2 e3 e4
        subst e2 e3 e4
        exact ⟨e1, rfl, rfl, trivial⟩
      exact PySem.W.kia_one (PySem.W.handS_kitx_exc C.hg C.hk C.hs C.hd C.ha C.hn C.ht C.hm) I.kIn J (beq_iff_eq.mp hk) (fun z => nomatch z) fun tk => ⟨.bl b, H, I.tok tk, rfl, q⟩
/-- s * n, of small ones: some text -/
theorem op_mulS : OpR X (binaryOp .Mult) (fun x y H Q => ∃ (z : Str) (n : Int), x = .str z ∧ y = .int n ∧ z.length ≤ 1000 ∧ -1000 ≤ n ∧ n ≤ 1000 ∧ ∀ t : Str, Q (.str t) H) := by
  intro pins s σ H x y v u Q I rx ry h
  obtain ⟨z, n, rfl, rfl, hz, h0, h1, q⟩ := h
  obtain ⟨t, rfl⟩ := rx
  obtain ⟨t', rfl⟩ := ry
  refine SB.mul ⟨?_, fun h2 _ => ?_, fun h2 _ => ?_⟩ fun t2 k => ⟨.str _, H, I.tok k, ⟨_, rfl⟩, q _⟩
  · rw [Bool.or_eq_false_iff]
    exact ⟨decide_eq_false (by omega), decide_eq_false (by omega)⟩
  · have h3 : (1000 : Int) ≤ (2 ^ 63 - 1) / n := (Int.le_ediv_iff_mul_le (by omega)).mpr (by omega)
    omega
  · have h4 : z.length * n.toNat ≤ 1000 * 1000 := Nat.mul_le_mul hz (by omega)
    exact decide_eq_false (by rw [sizeLine_eq]; omega)
end
end My
/-! ### the law's word for what an act raises -/
namespace My
open PySem PySem.Spec PyProof.Rows L2
theorem count_of {y : V} : ∀ {ys : List V} {us : List Value}, Vals ys us → ys.all flatV = true → us.countP (eqU y) = ys.countP (fun z => eqV z y)
  | _, _, .nil, _ => rfl
  | _, _, .cons r t, h => by
    rw [List.all_cons, Bool.and_eq_true] at h
    rw [List.countP_cons, List.countP_cons, count_of t h.2, eqU_of r h.1]
section
variable {X : Cx}
/-- xs.count(y), all flat -/
def rCountF (K : PySem.W.Frag) : V → List V → Hp → VK → Prop := fun x xs H Q => ∃ (a : Addr) (ys : List V) (y : V), x = V.ref a ∧ xs = [y] ∧ SqL K H a ys ∧ flatV y = true ∧ ys.all flatV = true ∧ Q (.int ((ys.countP fun z => eqV z y : Nat) : Int)) H
theorem mt_countF : MtR X "list.count" (rCountF X.K) := by
  intro pins s σ H x xs v us Q I rx rxs h
  obtain ⟨a, ys, y, rfl, rfl, hs, fy, fys, q⟩ := h
  cases rx
  cases rxs with
  | cons ry rt =>
    rename_i uy ut
    cases rt
    obtain ⟨its, rv, ⟨⟨cls, dd, data, sl⟩, n, ho, hc, hdn, hd⟩, hlen⟩ := I.list hs
    simp only at hc hd
    subst hc hd
    refine call_meets PySem.F.slot_list_count ⟨_, ho, rfl⟩ PySem.F.entry_list_count (PySem.F.args_list_count_2 _ _) (SeqAt.list_countAt a its.toArray n dd sl uy (eqU y)) ⟨ho, fun u hu => mem_eqAt ry fy rv fys u (by simpa using hu), ?_⟩
    refine ⟨.int ((ys.countP fun z => eqV z y : Nat) : Int), H, I.tok _, ⟨s.toks, ?_⟩, q⟩
    have ec : its.toArray.toList.countP (eqU y) = ys.countP (fun z => eqV z y) := count_of rv fys
    show Value.int ((its.toArray.toList.countP (eqU y) : Nat) : Int) s.toks = Value.int ((ys.countP (fun z => eqV z y) : Nat) : Int) s.toks
    rw [ec]
end
abbrev sWord : Stmt := topS 64
theorem scWord : FnScope ["act", "caught", "e", "some", "words"] ["act"] (defScope sWord) := ⟨rfl, rfl, rfl, by decide +kernel, rfl, by decide +kernel, by decide +kernel⟩
def kitW (K : PySem.W.Frag) (cs : List Addr) : Bool := (List.range 12).all fun i => (List.range 12).all fun j => kitB K (cs.getD i 0) (.ref (cs.getD j 0)) (decide (i = j))
def upW (K : PySem.W.Frag) (cs : List Addr) (CL : Addr) : Bool := (List.range 12).all fun i => mkFacts K (cs.getD i 0) && (kitB K (cs.getD i 0) (.type "ValueError") true && (PySem.W.exmOne K (.ref (cs.getD i 0)) (.ref CL) == some true))
structure WordTxt (K : PySem.W.Frag) (mg : Str → Option Value) (C0 C1 C2 C3 C4 C5 C6 C7 C8 C9 C10 C11 CL : Addr) : Prop where
  isi : mg "isinstance" = none
  ve : mg "ValueError" = none
  later : mg "LaterError" = some (.ref CL)
  c0 : mg "NoMachine" = some (.ref C0)
  c1 : mg "NoPlain" = some (.ref C1)
  c2 : mg "NoLetters" = some (.ref C2)
  c3 : mg "NoRule" = some (.ref C3)
  c4 : mg "NoRow" = some (.ref C4)
  c5 : mg "NoWord" = some (.ref C5)
  c6 : mg "NoNumber" = some (.ref C6)
  c7 : mg "NoDivisor" = some (.ref C7)
  c8 : mg "NoMatch" = some (.ref C8)
  c9 : mg "TooGreat" = some (.ref C9)
  c10 : mg "NoLimit" = some (.ref C10)
  c11 : mg "HasRow" = some (.ref C11)
  all : kitW K [C0, C1, C2, C3, C4, C5, C6, C7, C8, C9, C10, C11] = true
  up : upW K [C0, C1, C2, C3, C4, C5, C6, C7, C8, C9, C10, C11] CL = true
theorem kitW_of {K : PySem.W.Frag} {cs : List Addr} (h : kitW K cs = true) {i : Nat} (hi : i < 12) (j : Nat) (hj : j < 12) : kitB K (cs.getD i 0) (.ref (cs.getD j 0)) (decide (i = j)) = true := by
  unfold kitW at h
  simp only [List.all_eq_true, List.mem_range] at h
  exact h i hi j hj
theorem upW_of {K : PySem.W.Frag} {cs : List Addr} {CL : Addr} (h : upW K cs CL = true) {i : Nat} (hi : i < 12) : mkFacts K (cs.getD i 0) = true ∧ kitB K (cs.getD i 0) (.type "ValueError") true = true ∧ PySem.W.exmOne K (.ref (cs.getD i 0)) (.ref CL) = some true := by
  unfold upW at h
  simp only [List.all_eq_true, List.mem_range, Bool.and_eq_true, beq_iff_eq] at h
  exact h i hi
theorem err_of {K : PySem.W.Frag} {D : Addr} (h : mkFacts K D = true) : errFacts K D = true := by
  unfold mkFacts at h
  simp only [Bool.and_eq_true] at h
  exact h.2.2.2.2
/-- which of the classes it is -/
def mark (i n : Nat) : List Bool := (List.range n).map fun j => decide (i = j)
def theWords : List Str := ["machine", "plain", "letters", "rule", "row", "word", "number", "divisor", "match", "great", "limit", "has"]
/-- the word for the i-th class -/
def wordOf (i : Nat) : Str := theWords.getD i "odd"
theorem word_at {i : Nat} (h : i < 12) : (theWords.map V.str)[i]? = some (.str (wordOf i)) := by
  have h2 : i < theWords.length := h
  rw [List.getElem?_map, List.getElem?_eq_getElem h2]
  unfold wordOf
  rw [List.getD_eq_getElem?_getD, List.getElem?_eq_getElem h2]
  rfl
theorem mark_count : ∀ i, i < 12 → ((mark i 12).map V.bl).countP (fun z => eqV z (.bl true)) = 1 := by decide
theorem mark_flat : ∀ i, i < 12 → ((mark i 12).map V.bl).all flatV = true := by decide
theorem mark_at {i : Nat} (h : i < 12) : ((mark i 12).map V.bl)[i]? = some (.bl true) := by
  unfold mark
  rw [List.getElem?_map, List.getElem?_map, List.getElem?_range h]
  simp
theorem mark_not {i m : Nat} (h : i < 12) (hm : m < i) (z : V) (hz : ((mark i 12).map V.bl)[m]? = some z) : eqV z (.bl true) = false := by
  unfold mark at hz
  rw [List.getElem?_map, List.getElem?_map, List.getElem?_range (by omega)] at hz
  obtain rfl := Option.some.inj hz
  show eqV (V.bl (decide (i = m))) (.bl true) = false
  rw [decide_eq_false (show ¬ i = m by omega)]
  rfl
/-- what the law's word makes of an act's reading -/
def TTword (cs : List Addr) : (XK → Hp → VK → Prop) → Hp → VK → Prop := fun tl H Q =>
  tl (fun cls d H' => ∃ i, i < 12 ∧ cls = .ref (cs.getD i 0) ∧ d = none ∧ ∀ H'' : Hp, Same H' H'' → Q (.str (wordOf i)) H'') H (fun _ H' => ∀ H'' : Hp, Same H' H'' → Q (.str "fine") H'')
theorem takes_len {X : Cx} {W : WX} (tk : Takes X W) : Takes X (fun c d σ H => σ.length = X.N.length → W c d σ H) := by
  rintro u s' ⟨a, B, sI, pins, σ, H, cls, d, e, I, nb, up, sky, na, os, ag, w⟩
  exact tk u s' ⟨a, B, sI, pins, σ, H, cls, d, e, I, nb, up, sky, na, os, ag, w I.len⟩
/-- behind the act: an error is caught, or nothing is raised -/
def wordMid (cs : List Addr) (Q : VK) (σ : L2.St) (H' : Hp) : Prop :=
  (∃ (x0 x3 x4 : Option V) (a : Addr) (i : Nat), σ = [x0, some (.ref a), none, x3, x4] ∧ i < 12 ∧ ErrAt H' a (cs.getD i 0) ∧ ∀ H'' : Hp, Same H' H'' → Q (.str (wordOf i)) H'') ∨
  ((∃ (x0 x2 x3 x4 : Option V), σ = [x0, some .non, x2, x3, x4]) ∧ ∀ H'' : Hp, Same H' H'' → Q (.str "fine") H'')
section
variable {X : Cx} {C0 C1 C2 C3 C4 C5 C6 C7 C8 C9 C10 C11 CL : Addr}
theorem word_gives {q : Str} {g : Addr} {cdg : Value} (T : WordTxt X.K X.mg C0 C1 C2 C3 C4 C5 C6 C7 C8 C9 C10 C11 CL) : LamX.GivesTo X ["act", "caught", "e", "some", "words"] "_law_x_word" (defScope sWord) g cdg (defBody sWord) "act" q (TTword [C0, C1, C2, C3, C4, C5, C6, C7, C8, C9, C10, C11]) := by
  intro f c' s H Q tl act hc h
  refine ⟨_, (pss_cons (ps_set (i := 1) scWord.nd rfl (.inl rfl) pe_non)
 (Evl.pss_cut (ps_try_keep (i := 2) (tb := fun W D σ H => ∃ Ech : XK, (∀ cls d σ' H', Ech cls d H' → σ'.length = 5 → W cls d σ' H') ∧ σ[0]? = some (some (.ref f)) ∧ H c' = some (LamX.CodeO c' q) ∧ tl Ech H (fun _ H1 => D.nx σ H1)) rfl rfl rfl scWord.nd rfl rfl ⟨rfl, by decide, .inl T.later⟩
      (fun W pl ex tk _ => ⟨fun pins s1 σ1 H1 D1 I1 h1 => (let ⟨Ech, hW, z1, z2, z3⟩ := h1; (pss_one (ps_expr (act _ pl ex Ech _ _ (takes_len tk) hW))).run pins s1 σ1 H1 D1 I1 ⟨z1, z2, z3⟩)⟩)
      (fun a oe pl => (pss_one (ps_set (i := 1) scWord.nd rfl (.inl rfl) (pv 2)))))
 (Evl.pss_cut (ps_if (pt_cmpR op_isN (pv 1) pe_non (nomark _)) (pss_one (ps_ret pe_str)) pss_nil)
 (Evl.pss_cut (ps_set (i := 3) scWord.nd rfl (.inl rfl) (pe_lst (pa_cons (pe_callB call_isErr (by rfl) T.isi (by decide +kernel) (pa_cons (pv 1) (pa_cons (pe_glob (v := .ref C0) (by rfl) T.c0 rfl) pa_nil))) (pa_cons (pe_callB call_isErr (by rfl) T.isi (by decide +kernel) (pa_cons (pv 1) (pa_cons (pe_glob (v := .ref C1) (by rfl) T.c1 rfl) pa_nil))) (pa_cons (pe_callB call_isErr (by rfl) T.isi (by decide +kernel) (pa_cons (pv 1) (pa_cons (pe_glob (v := .ref C2) (by rfl) T.c2 rfl) pa_nil))) pa_nil)))))
 (Evl.pss_cut (ps_set (i := 3) scWord.nd rfl (.inl rfl) (pe_op op_cat (pv 3) (pe_lst (pa_cons (pe_callB call_isErr (by rfl) T.isi (by decide +kernel) (pa_cons (pv 1) (pa_cons (pe_glob (v := .ref C3) (by rfl) T.c3 rfl) pa_nil))) (pa_cons (pe_callB call_isErr (by rfl) T.isi (by decide +kernel) (pa_cons (pv 1) (pa_cons (pe_glob (v := .ref C4) (by rfl) T.c4 rfl) pa_nil))) (pa_cons (pe_callB call_isErr (by rfl) T.isi (by decide +kernel) (pa_cons (pv 1) (pa_cons (pe_glob (v := .ref C5) (by rfl) T.c5 rfl) pa_nil))) pa_nil))))))
 (Evl.pss_cut (ps_set (i := 3) scWord.nd rfl (.inl rfl) (pe_op op_cat (pv 3) (pe_lst (pa_cons (pe_callB call_isErr (by rfl) T.isi (by decide +kernel) (pa_cons (pv 1) (pa_cons (pe_glob (v := .ref C6) (by rfl) T.c6 rfl) pa_nil))) (pa_cons (pe_callB call_isErr (by rfl) T.isi (by decide +kernel) (pa_cons (pv 1) (pa_cons (pe_glob (v := .ref C7) (by rfl) T.c7 rfl) pa_nil))) (pa_cons (pe_callB call_isErr (by rfl) T.isi (by decide +kernel) (pa_cons (pv 1) (pa_cons (pe_glob (v := .ref C8) (by rfl) T.c8 rfl) pa_nil))) pa_nil))))))
 (Evl.pss_cut (ps_set (i := 3) scWord.nd rfl (.inl rfl) (pe_op op_cat (pv 3) (pe_lst (pa_cons (pe_callB call_isErr (by rfl) T.isi (by decide +kernel) (pa_cons (pv 1) (pa_cons (pe_glob (v := .ref C9) (by rfl) T.c9 rfl) pa_nil))) (pa_cons (pe_callB call_isErr (by rfl) T.isi (by decide +kernel) (pa_cons (pv 1) (pa_cons (pe_glob (v := .ref C10) (by rfl) T.c10 rfl) pa_nil))) (pa_cons (pe_callB call_isErr (by rfl) T.isi (by decide +kernel) (pa_cons (pv 1) (pa_cons (pe_glob (v := .ref C11) (by rfl) T.c11 rfl) pa_nil))) pa_nil))))))
 (Evl.pss_cut (ps_set (i := 4) scWord.nd rfl (.inl rfl) (pe_lst (pa_cons pe_str (pa_cons pe_str (pa_cons pe_str (pa_cons pe_str (pa_cons pe_str (pa_cons pe_str (pa_cons pe_str (pa_cons pe_str (pa_cons pe_str (pa_cons pe_str (pa_cons pe_str pa_nil)))))))))))))
 (pss_cons (ps_expr (pe_bm PySem.F.plainAttrs_list PySem.F.slot_list_append PySem.F.type_list_append mt_append (pv 4) (pa_cons pe_str pa_nil)))
 (pss_one (ps_ret (pe_ifExp (PW.pt (pw_and (pt_cmpR op_eq (pe_bm PySem.F.plainAttrs_list PySem.F.slot_list_count PySem.F.type_list_count mt_countF (pv 3) (pa_cons pe_bl pa_nil)) pe_int (nomark _)) (pw_and1 (pt_val (pe_callB call_isErr (by rfl) T.isi (by decide +kernel) (pa_cons (pv 1) (pa_cons (pe_bltn (v := .ty "ValueError") (by rfl) T.ve (by decide +kernel) rfl) pa_nil))))))) (pe_ix ix_list (pv 4) (pe_bm PySem.F.plainAttrs_list PySem.F.slot_list_index PySem.F.type_list_index mt_index (pv 3) (pa_cons pe_bl pa_nil)) (fun _ _ => rfl)) pe_str)))))))))))), ?_⟩
  have nonIs : V.bl (decide (V.non = V.non)) = V.bl true := congrArg V.bl (decide_eq_true rfl)
  refine ⟨wordMid [C0, C1, C2, C3, C4, C5, C6, C7, C8, C9, C10, C11] Q, ?_, ?_⟩
  · refine ⟨fun cls d H' => ∃ i, i < 12 ∧ cls = .ref ([C0, C1, C2, C3, C4, C5, C6, C7, C8, C9, C10, C11].getD i 0) ∧ d = none ∧ ∀ H'' : Hp, Same H' H'' → Q (.str (wordOf i)) H'', ?_, rfl, hc, ?_⟩
    · rintro cls d σ' H' ⟨i, hi, rfl, rfl, k⟩ hlen
      obtain ⟨x0, x1, x2, x3, x4, rfl⟩ : ∃ x0 x1 x2 x3 x4, σ' = [x0, x1, x2, x3, x4] := by
        match σ', hlen with
        | [x0, x1, x2, x3, x4], _ => exact ⟨x0, x1, x2, x3, x4, rfl⟩
      refine ⟨(upW_of T.up hi).2.2, rfl, _, rfl, fun a ha => ⟨_, rfl, fun ha2 => ?_⟩⟩
      exact .inl ⟨x0, x3, x4, a, i, rfl, hi, errV_at, fun H'' s2 => k H'' ((same_upd ha).trans s2)⟩
    · have e : (fun (_ : V) (H1 : Hp) => wordMid [C0, C1, C2, C3, C4, C5, C6, C7, C8, C9, C10, C11] Q [some (.ref f), some .non, none, none, none] H1) = fun _ H1 => ∀ H'' : Hp, Same H1 H'' → Q (.str "fine") H'' := by
        funext _ H1
        refine propext ⟨fun z => ?_, fun z => .inr ⟨⟨_, _, _, _, rfl⟩, z⟩⟩
        rcases z with ⟨_, _, _, _, _, e, _⟩ | ⟨_, z⟩
        · simp at e
        · exact z
      show tl _ H (fun (_ : V) (H1 : Hp) => wordMid [C0, C1, C2, C3, C4, C5, C6, C7, C8, C9, C10, C11] Q [some (.ref f), some .non, none, none, none] H1)
      rw [e]
      exact h
  rintro σ H1 (⟨x0, x3, x4, a, i, rfl, hi, hE, k⟩ | ⟨⟨x0, x2, x3, x4, rfl⟩, k⟩)
  · have hF := err_of (upW_of T.up hi).1
    have hV := (upW_of T.up hi).2.1
    have hk := kitW_of T.all hi
    refine ⟨fun σ H' => σ = [x0, some (.ref a), none, x3, x4] ∧ H' = H1, ?_, ?_⟩
    · exact ⟨_, rfl, rfl, false, congrArg V.bl (decide_eq_false (by intro z; cases z)), iteF ⟨rfl, rfl⟩⟩
    rintro σ H1 ⟨rfl, rfl⟩
    refine ⟨fun σ H' => ∃ p, σ = [x0, some (.ref a), none, some (.ref p), x4] ∧ Same H1 H' ∧ H1 p = none ∧ H' p = some (.lst ((mark i 3).map V.bl)), ?_, ?_⟩
    · have hE' := hE
      exact ⟨_, rfl, a, _, _, _, _, rfl, hE', hF, .own _, hk 0 (by decide), _, rfl, a, _, _, _, _, rfl, hE', hF, .own _, hk 1 (by decide), _, rfl, a, _, _, _, _, rfl, hE', hF, .own _, hk 2 (by decide), (by show 3 ≤ sizeLine; decide), fun p hp => ⟨p, rfl, same_upd hp, hp, upd_same⟩⟩
    rintro σ H2 ⟨p, rfl, s0, hp0, hp⟩
    refine ⟨fun σ H' => ∃ p, σ = [x0, some (.ref a), none, some (.ref p), x4] ∧ Same H1 H' ∧ H1 p = none ∧ H' p = some (.lst ((mark i 6).map V.bl)), ?_, ?_⟩
    · have hE' := hE.same s0
      refine ⟨_, rfl, _, rfl, a, _, _, _, _, rfl, hE', hF, .own _, hk 3 (by decide), _, rfl, a, _, _, _, _, rfl, hE', hF, .own _, hk 4 (by decide), _, rfl, a, _, _, _, _, rfl, hE', hF, .own _, hk 5 (by decide), (by show 3 ≤ sizeLine; decide), fun q2 hq2 => ?_⟩
      refine ⟨p, q2, _, _, rfl, rfl, same_upd hq2 _ _ hp, upd_same, (by show 6 ≤ sizeLine; decide), fun r hr2 => ⟨r, rfl, (s0.trans (same_upd hq2)).trans (same_upd hr2), (s0.trans (same_upd hq2)).free hr2, upd_same⟩⟩
    rintro σ H2 ⟨p, rfl, s0, hp0, hp⟩
    refine ⟨fun σ H' => ∃ p, σ = [x0, some (.ref a), none, some (.ref p), x4] ∧ Same H1 H' ∧ H1 p = none ∧ H' p = some (.lst ((mark i 9).map V.bl)), ?_, ?_⟩
    · have hE' := hE.same s0
      refine ⟨_, rfl, _, rfl, a, _, _, _, _, rfl, hE', hF, .own _, hk 6 (by decide), _, rfl, a, _, _, _, _, rfl, hE', hF, .own _, hk 7 (by decide), _, rfl, a, _, _, _, _, rfl, hE', hF, .own _, hk 8 (by decide), (by show 3 ≤ sizeLine; decide), fun q2 hq2 => ?_⟩
      refine ⟨p, q2, _, _, rfl, rfl, same_upd hq2 _ _ hp, upd_same, (by show 9 ≤ sizeLine; decide), fun r hr2 => ⟨r, rfl, (s0.trans (same_upd hq2)).trans (same_upd hr2), (s0.trans (same_upd hq2)).free hr2, upd_same⟩⟩
    rintro σ H2 ⟨p, rfl, s0, hp0, hp⟩
    refine ⟨fun σ H' => ∃ p, σ = [x0, some (.ref a), none, some (.ref p), x4] ∧ Same H1 H' ∧ H1 p = none ∧ H' p = some (.lst ((mark i 12).map V.bl)), ?_, ?_⟩
    · have hE' := hE.same s0
      refine ⟨_, rfl, _, rfl, a, _, _, _, _, rfl, hE', hF, .own _, hk 9 (by decide), _, rfl, a, _, _, _, _, rfl, hE', hF, .own _, hk 10 (by decide), _, rfl, a, _, _, _, _, rfl, hE', hF, .own _, hk 11 (by decide), (by show 3 ≤ sizeLine; decide), fun q2 hq2 => ?_⟩
      refine ⟨p, q2, _, _, rfl, rfl, same_upd hq2 _ _ hp, upd_same, (by show 12 ≤ sizeLine; decide), fun r hr2 => ⟨r, rfl, (s0.trans (same_upd hq2)).trans (same_upd hr2), (s0.trans (same_upd hq2)).free hr2, upd_same⟩⟩
    rintro σ H2 ⟨p, rfl, s0, hp0, hp⟩
    -- the words
    refine ⟨fun σ H' => ∃ l, σ = [x0, some (.ref a), none, some (.ref p), some (.ref l)] ∧ Same H2 H' ∧ H2 l = none ∧ H' l = some (.lst ((theWords.take 11).map V.str)), ?_, ?_⟩
    · exact ⟨(by show 11 ≤ sizeLine; decide), fun l hl => ⟨l, rfl, same_upd hl, hl, upd_same⟩⟩
    rintro σ H3 ⟨l, rfl, s3, hl0, hl⟩
    have npl : p ≠ l := ne_of_none hp hl0
    have hp3 := s3 _ _ hp
    refine ⟨_, rfl, .inl ⟨rfl, _, SqL.of hl⟩, l, _, _, rfl, rfl, hl, (by show 11 < sizeLine; decide), ?_⟩
    have s4 : Same H1 (upd H3 l (.lst ((theWords.take 11).map V.str ++ [.str "has"]))) := fun b o e => by
      have nb : b ≠ l := ne_of_none (s0 _ _ e) hl0
      rw [upd_ne nb]
      exact s3 _ _ (s0 _ _ e)
    have hp4 : (upd H3 l (.lst ((theWords.take 11).map V.str ++ [.str "has"]))) p = some (.lst ((mark i 12).map V.bl)) := by
      rw [upd_ne npl]
      exact hp3
    have hE' := hE.same s4
    refine ⟨_, rfl, .inl ⟨rfl, _, SqL.of hp4⟩, p, _, .bl true, rfl, rfl, SqL.of hp4, rfl, mark_flat i hi, rfl, true, congrArg V.bl (decide_eq_true (by rw [mark_count i hi]; rfl)), iteT ?_⟩
    refine ⟨_, rfl, a, _, _, _, _, rfl, hE', hF, .ty _, hV, _, rfl, iteT ?_⟩
    refine ⟨_, rfl, _, rfl, .inl ⟨rfl, _, SqL.of hp4⟩, p, _, .bl true, i, .bl true, rfl, rfl, SqL.of hp4, rfl, mark_flat i hi, mark_at hi, rfl, fun m z hm hz => mark_not hi hm z hz, ?_⟩
    exact ⟨l, theWords.map V.str, (i : Int), .str (wordOf i), rfl, rfl, SqL.of upd_same, atI_nat (word_at hi), k _ s4⟩
  · refine ⟨fun _ _ => False, ?_, fun _ _ z => z.elim⟩
    exact ⟨_, rfl, rfl, true, nonIs, iteT (k H1 (Same.refl H1))⟩
end
end My
/-! ### repr of data, {} among it -/
namespace My
open PySem PySem.Spec PyProof.Rows L2
mutual
/-- no list at any depth -/
def noList : PyData → Bool
  | .list _ => false
  | .tuple xs => noLists xs
  | _ => true
def noLists : List PyData → Bool
  | [] => true
  | x :: xs => noList x && noLists xs
end
section
variable {X : Cx} {pins : List (Addr × Obj)} {σ : L2.St} {H : Hp} {s : Shared}
mutual
theorem Rp.reads (I : Inv X pins σ H s) : ∀ (d : PyData) (v : V) (u : Value), Rp X.K H v d → RelV v u → ∃ as, Reads s.heap u d as ∧ (noList d = true → sysModules ∉ as)
  | .none, _, _, h, r => by
    cases h
    cases r
    exact ⟨_, Reads.none, fun _ z => nomatch z⟩
  | .bool b, _, _, h, r => by
    cases h
    cases r
    exact ⟨_, Reads.bool b, fun _ z => nomatch z⟩
  | .int i, _, _, h, r => by
    cases h
    obtain ⟨t, rfl⟩ := r
    exact ⟨_, Reads.int i t, fun _ z => nomatch z⟩
  | .str x, _, _, h, r => by
    cases h
    obtain ⟨t, rfl⟩ := r
    exact ⟨_, Reads.str x t, fun _ z => nomatch z⟩
  | .list ds, _, _, h, r => by
    cases h with
    | lst hs ha =>
      cases r
      obtain ⟨its, rv, ⟨o, n, ho, hc, _, hd⟩, _⟩ := I.list hs
      obtain ⟨as, hr, _⟩ := RpAll.reads I ds _ its ha rv
      exact ⟨_, Reads.list ho hc hd hr, fun z => by simp [noList] at z⟩
  | .tuple ds, _, _, h, r => by
    cases h with
    | tup hs ha =>
      cases r
      obtain ⟨its, rv, ⟨o, ho, hc, n, hd⟩, _⟩ := I.tuple hs
      obtain ⟨as, hr, no⟩ := RpAll.reads I ds _ its ha rv
      exact ⟨_, Reads.tuple ho hc hd hr, fun z => no (by simpa [noList] using z)⟩
  | .dict kvs, _, _, h, r => by
    cases h with
    | @dct a ha =>
      cases r
      obtain ⟨_, ns, vs, kv, o, es, ep, ho, ex, hd, _, hp, _⟩ := I.hok a _ ha
      cases kv
      have he : es.toList = [] := by
        cases q : es.toList with
        | nil => rfl
        | cons e l =>
          rw [q] at hp
          cases hp
      refine ⟨a :: [] ++ [], Reads.dict ho ex.1 hd (by rw [he]; exact ReadsAll.nil) (by rw [he]; exact ReadsAll.nil), fun _ z => ?_⟩
      simp at z
      rw [z] at ns
      simp at ns
theorem RpAll.reads (I : Inv X pins σ H s) : ∀ (ds : List PyData) (vs : List V) (us : List Value), RpAll X.K H vs ds → Vals vs us → ∃ as, ReadsAll s.heap us ds as ∧ (noLists ds = true → sysModules ∉ as)
  | [], _, _, h, r => by
    cases h
    cases r
    exact ⟨_, ReadsAll.nil, fun _ z => nomatch z⟩
  | d :: ds, _, _, h, r => by
    cases h with
    | cons h1 h2 =>
      cases r with
      | cons r1 r2 =>
        obtain ⟨as, q1, n1⟩ := Rp.reads I d _ _ h1 r1
        obtain ⟨bs, q2, n2⟩ := RpAll.reads I ds _ _ h2 r2
        refine ⟨_, ReadsAll.cons q1 q2, fun z hm => ?_⟩
        rw [noLists, Bool.and_eq_true] at z
        exact (List.mem_append.mp hm).elim (n1 z.1) (n2 z.2)
end
end
def rReprR (K : PySem.W.Frag) : List V → Hp → VK → Prop := fun xs H Q => ∃ x d, xs = [x] ∧ Rp K H x d ∧ (noList d = true ∨ d.hasDict = false) ∧ d.showable = true ∧ d.depth ≤ 60 ∧ d.shown.length ≤ sizeLine ∧ Q (.str d.shown) H
theorem call_reprR {X : Cx} (hgd : X.A.guards = some []) (hu : X.A.units + 64 < cLine) : CallR X (.builtin "repr") (rReprR X.K) := by
  intro pins s σ H xs us Q I r h
  obtain ⟨x, d, rfl, hd, hn, hs, hdep, hz, q⟩ := h
  cases r with
  | @cons _ u _ _ ru rn =>
    cases rn
    obtain ⟨as, hr, no⟩ := Rp.reads I d x u hd ru
    have off : d.hasDict = true → sysModules ∉ as := fun e => by
      rcases hn with h | h
      · exact no h
      · rw [h] at e
        cases e
    cases hd with
    | non =>
      obtain rfl : u = Value.none := ru
      exact PySem.P.repr_of_none ⟨.str _, H, I.tok _, ⟨_, rfl⟩, by simpa only [PyData.shown] using q⟩
    | bl b =>
      obtain rfl : u = Value.bool b := ru
      exact PySem.P.repr_of_bool ⟨.str _, H, I.tok _, ⟨_, rfl⟩, by simpa only [PyData.shown] using q⟩
    | int i =>
      obtain ⟨t, rfl⟩ := ru
      exact PySem.P.repr_of_int (by simpa [PyData.showable] using hs) ⟨.str _, H, I.tok _, ⟨_, rfl⟩, by simpa only [PyData.shown] using q⟩
    | str z _ =>
      obtain ⟨t, rfl⟩ := ru
      exact PySem.P.repr_of_str ⟨.str _, H, I.tok _, ⟨_, rfl⟩, by simpa only [PyData.shown] using q⟩ (by simpa only [PyData.shown] using hz)
    | @lst a _ ds h1 h2 =>
      obtain rfl : u = Value.ref a := ru
      exact PySem.repr_of_reads' hr hs off hgd (by omega) (fun _ _ e => e) (fun h' u tk hk => ⟨.str _, H, I.kept hk, ⟨_, rfl⟩, q⟩) hz
    | @tup a _ ds h1 h2 =>
      obtain rfl : u = Value.ref a := ru
      exact PySem.repr_of_reads' hr hs off hgd (by omega) (fun _ _ e => e) (fun h' u tk hk => ⟨.str _, H, I.kept hk, ⟨_, rfl⟩, q⟩) hz
    | @dct a h1 =>
      obtain rfl : u = Value.ref a := ru
      exact PySem.repr_of_reads' hr hs off hgd (by omega) (fun _ _ e => e) (fun h' u tk hk => ⟨.str _, H, I.kept hk, ⟨_, rfl⟩, q⟩) hz
/-- data of at most that depth and weight, ints of at most 10 ** 39 -/
structure Sd (D W : Nat) (d : PyData) : Prop where
  sh : d.showable = true
  dp : d.depth ≤ D
  lv : d.leavesShort 40 = true
  wt : d.weight ≤ W
theorem Sd.mono {D W D' W' : Nat} {d : PyData} (h : Sd D W d) (a : D ≤ D') (b : W ≤ W') : Sd D' W' d := ⟨h.sh, Nat.le_trans h.dp a, h.lv, Nat.le_trans h.wt b⟩
theorem sd_non : Sd 0 0 .none := ⟨rfl, Nat.le_refl _, rfl, by simp [PyData.weight]⟩
theorem sd_bl (b : Bool) : Sd 0 0 (.bool b) := ⟨rfl, Nat.le_refl _, rfl, by simp [PyData.weight]⟩
theorem sd_dct : Sd 1 0 (.dict []) := ⟨rfl, by simp [PyData.depth, PyData.depthKv], rfl, by simp [PyData.weight, PyData.weightKv]⟩
theorem log_le {n k : Nat} (h : n < 2 ^ k) (hk : 0 < k) : n.log2 + 1 ≤ k := by
  by_cases z : n = 0
  · subst z
    simp
    omega
  · exact (Nat.log2_lt z).mpr h
theorem sd_int {i : Int} (h : i.natAbs < 10 ^ 39) : Sd 0 130 (.int i) := by
  have l : i.natAbs.log2 + 1 ≤ 130 := log_le (Nat.lt_of_lt_of_le h (by decide)) (by decide)
  refine ⟨?_, Nat.le_refl _, ?_, ?_⟩
  · rw [PyData.showable]
    exact decide_eq_true (by omega)
  · rw [PyData.leavesShort]
    refine decide_eq_true ?_
    have e := int_text_length_le10 (k := 39) (by decide) h
    show (Str.ofString (toString i)).length ≤ 40
    rw [PySem.ofString_length]
    exact e
  · rw [PyData.weight]
    split
    · omega
    · exact l
theorem sd_str {z : Str} {n : Nat} (h : ∀ c ∈ z.cps.toList, c ≤ 1000) (l : z.length ≤ n) : Sd 0 n (.str z) := by
  refine ⟨rfl, Nat.le_refl _, ?_, ?_⟩
  · rw [PyData.leavesShort, List.all_eq_true]
    exact fun c hc => decide_eq_true (Nat.lt_of_le_of_lt (h c hc) (by decide))
  · rw [PyData.weight]
    exact l
theorem sd_all {D W : Nat} : ∀ {ds : List PyData}, (∀ d ∈ ds, Sd D W d) → PyData.showableAll ds = true ∧ PyData.depthAll ds ≤ D ∧ PyData.leavesShortAll 40 ds = true ∧ PyData.weightAll ds ≤ ds.length * (W + 1)
  | [], _ => by simp [PyData.showableAll, PyData.depthAll, PyData.leavesShortAll, PyData.weightAll]
  | d :: ds, h => by
    obtain ⟨a1, a2, a4, a5⟩ := h d (.head _)
    obtain ⟨b1, b2, b4, b5⟩ := @sd_all D W ds fun e he => h e (.tail _ he)
    refine ⟨?_, ?_, ?_, ?_⟩
    · rw [PyData.showableAll, a1, b1]
      rfl
    · rw [PyData.depthAll]
      exact Nat.max_le.mpr ⟨a2, b2⟩
    · rw [PyData.leavesShortAll, a4, b4]
      rfl
    · rw [PyData.weightAll, List.length_cons, Nat.succ_mul]
      omega
theorem sd_tup {D W n : Nat} {ds : List PyData} (h : ∀ d ∈ ds, Sd D W d) (l : ds.length ≤ n) : Sd (D + 1) (n * (W + 1)) (.tuple ds) := by
  obtain ⟨b1, b2, b4, b5⟩ := sd_all h
  have m := Nat.mul_le_mul_right (W + 1) l
  exact ⟨by rw [PyData.showable]; exact b1, by rw [PyData.depth]; omega, by rw [PyData.leavesShort]; exact b4, by rw [PyData.weight]; omega⟩
theorem sd_lst {D W n : Nat} {ds : List PyData} (h : ∀ d ∈ ds, Sd D W d) (l : ds.length ≤ n) : Sd (D + 1) (n * (W + 1)) (.list ds) := by
  obtain ⟨b1, b2, b4, b5⟩ := sd_all h
  have m := Nat.mul_le_mul_right (W + 1) l
  exact ⟨by rw [PyData.showable]; exact b1, by rw [PyData.depth]; omega, by rw [PyData.leavesShort]; exact b4, by rw [PyData.weight]; omega⟩
theorem Sd.fits {D W : Nat} {d : PyData} (h : Sd D W d) (w : W ≤ 300000) : d.shown.length ≤ sizeLine := by
  have a := PyData.shown_le 40 (by decide) d h.lv
  have b : (40 + 2) * d.weight ≤ 42 * 300000 := Nat.mul_le_mul_left _ (Nat.le_trans h.wt w)
  rw [sizeLine_eq]
  omega
end My
/-! ### small data, to be shown -/
namespace My
open PySem PySem.Spec PyProof.Rows L2
mutual
theorem Rp.dp {K : PySem.W.Frag} {H : Hp} : ∀ {v : V} {d : PyData}, Rp K H v d → d.hasDict = false → Dp K H v d
  | _, _, .non, _ => .non
  | _, _, .bl b, _ => .bl b
  | _, _, .int i, _ => .int i
  | _, _, .str x _, _ => .str x
  | _, _, .lst h t, n => .lst h (RpAll.dp t (by simpa only [PyData.hasDict] using n))
  | _, _, .tup h t, n => .tup h (RpAll.dp t (by simpa only [PyData.hasDict] using n))
  | _, _, .dct _, n => by simp [PyData.hasDict] at n
theorem RpAll.dp {K : PySem.W.Frag} {H : Hp} : ∀ {vs : List V} {ds : List PyData}, RpAll K H vs ds → PyData.hasDictAll ds = false → DpAll K H vs ds
  | _, _, .nil, _ => .nil
  | _, _, .cons h t, n => by
    rw [PyData.hasDictAll, Bool.or_eq_false_iff] at n
    exact .cons (Rp.dp h n.1) (RpAll.dp t n.2)
end
/-- data of at most that depth and weight, without dicts -/
structure Sm (D W : Nat) (d : PyData) : Prop where
  sh : d.showable = true
  dp : d.depth ≤ D
  nd : d.hasDict = false
  lv : d.leavesShort 13 = true
  wt : d.weight ≤ W
theorem Sm.mono {D W D' W' : Nat} {d : PyData} (h : Sm D W d) (a : D ≤ D') (b : W ≤ W') : Sm D' W' d := ⟨h.sh, Nat.le_trans h.dp a, h.nd, h.lv, Nat.le_trans h.wt b⟩
theorem sm_non : Sm 0 0 .none := ⟨rfl, Nat.le_refl _, by simp [PyData.hasDict], rfl, by simp [PyData.weight]⟩
theorem sm_bl (b : Bool) : Sm 0 0 (.bool b) := ⟨rfl, Nat.le_refl _, by simp [PyData.hasDict], rfl, by simp [PyData.weight]⟩
theorem sm_int {i : Int} (h : i.natAbs ≤ 1000) : Sm 0 1001 (.int i) := by
  have l := Nat.log2_le_self i.natAbs
  refine ⟨?_, Nat.le_refl _, by simp [PyData.hasDict], ?_, ?_⟩
  · rw [PyData.showable]
    exact decide_eq_true (by omega)
  · rw [PyData.leavesShort]
    exact decide_eq_true (PyData.shown_int_le (by omega))
  · rw [PyData.weight]
    split <;> omega
theorem sm_str {z : Str} {n : Nat} (h : ∀ c ∈ z.cps.toList, c ≤ 1000) (l : z.length ≤ n) : Sm 0 n (.str z) := by
  refine ⟨rfl, Nat.le_refl _, by simp [PyData.hasDict], ?_, ?_⟩
  · rw [PyData.leavesShort, List.all_eq_true]
    exact fun c hc => decide_eq_true (Nat.lt_of_le_of_lt (h c hc) (by decide))
  · rw [PyData.weight]
    exact l
theorem sm_all {D W : Nat} : ∀ {ds : List PyData}, (∀ d ∈ ds, Sm D W d) → PyData.showableAll ds = true ∧ PyData.depthAll ds ≤ D ∧ PyData.hasDictAll ds = false ∧ PyData.leavesShortAll 13 ds = true ∧ PyData.weightAll ds ≤ ds.length * (W + 1)
  | [], _ => by simp [PyData.showableAll, PyData.depthAll, PyData.hasDictAll, PyData.leavesShortAll, PyData.weightAll]
  | d :: ds, h => by
    obtain ⟨a1, a2, a3, a4, a5⟩ := h d (.head _)
    obtain ⟨b1, b2, b3, b4, b5⟩ := @sm_all D W ds fun e he => h e (.tail _ he)
    refine ⟨?_, ?_, ?_, ?_, ?_⟩
    · rw [PyData.showableAll, a1, b1]
      rfl
    · rw [PyData.depthAll]
      exact Nat.max_le.mpr ⟨a2, b2⟩
    · rw [PyData.hasDictAll, a3, b3]
      rfl
    · rw [PyData.leavesShortAll, a4, b4]
      rfl
    · rw [PyData.weightAll, List.length_cons, Nat.succ_mul]
      omega
theorem sm_tup {D W n : Nat} {ds : List PyData} (h : ∀ d ∈ ds, Sm D W d) (l : ds.length ≤ n) : Sm (D + 1) (n * (W + 1)) (.tuple ds) := by
  obtain ⟨b1, b2, b3, b4, b5⟩ := sm_all h
  have m := Nat.mul_le_mul_right (W + 1) l
  exact ⟨by rw [PyData.showable]; exact b1, by rw [PyData.depth]; omega, by rw [PyData.hasDict]; exact b3, by rw [PyData.leavesShort]; exact b4, by rw [PyData.weight]; omega⟩
theorem sm_lst {D W n : Nat} {ds : List PyData} (h : ∀ d ∈ ds, Sm D W d) (l : ds.length ≤ n) : Sm (D + 1) (n * (W + 1)) (.list ds) := by
  obtain ⟨b1, b2, b3, b4, b5⟩ := sm_all h
  have m := Nat.mul_le_mul_right (W + 1) l
  exact ⟨by rw [PyData.showable]; exact b1, by rw [PyData.depth]; omega, by rw [PyData.hasDict]; exact b3, by rw [PyData.leavesShort]; exact b4, by rw [PyData.weight]; omega⟩
theorem Sm.fits {D W : Nat} {d : PyData} (h : Sm D W d) (w : W ≤ 1000000) : d.shown.length ≤ sizeLine := PyData.shown_fits (B := 13) (by decide) (by decide) h.lv (Nat.le_trans h.wt (Nat.le_trans w (by decide)))
/-- repr of small data -/
theorem repr_sm {K : PySem.W.Frag} {H : Hp} {x : V} {d : PyData} {D W : Nat} {Q : VK} (h : Rp K H x d) (s : Sm D W d) (hD : D ≤ 60) (hW : W ≤ 1000000) (q : Q (.str d.shown) H) : rRepr K [x] H Q := ⟨x, d, rfl, h.dp s.nd, s.sh, Nat.le_trans s.dp hD, s.fits hW, q⟩
theorem letters_small {l : List Nat} (h : lettersL l = true) : ∀ c ∈ l, c ≤ 1000 := by
  unfold lettersL at h
  split at h
  · intro c hc
    simp at h hc
    omega
  · intro c hc
    simp at h hc
    omega
  · intro c hc
    simp at h hc
    omega
  · cases h
end My
/-! ### dicts whose keys are tuples of tuples -/
namespace My
open PySem PySem.Spec PyProof.Rows L2
mutual
def keyN : PyData → NestedKey
  | .none => .none
  | .bool b => .num (if b = true then 1 else 0)
  | .int i => .num i
  | .str x => .text x
  | .tuple xs => .tup (keyNs xs)
  | .list _ => .none
  | .dict _ => .none
def keyNs : List PyData → List NestedKey
  | [] => []
  | x :: xs => keyN x :: keyNs xs
end
mutual
theorem reads_nest {h : Heap} : ∀ {d : PyData} {v : Value} {as : List Addr}, Reads h v d as → tO d = true → NestedIs h (keyN d) v
  | .none, _, _, r, _ => by
    cases r
    rw [keyN]
    exact .none
  | .bool b, _, _, r, _ => by
    cases r
    rw [keyN]
    exact .bool rfl
  | .int i, _, _, r, _ => by
    cases r
    rw [keyN]
    exact .int _ _
  | .str x, _, _, r, _ => by
    cases r
    rw [keyN]
    exact .text _ _
  | .tuple xs, _, _, r, t => by
    cases r with
    | tuple h1 h2 h3 h4 =>
      rw [keyN]
      exact .tup h1 h2 h3 (readsAll_nest h4 (by simpa only [tO] using t))
  | .list _, _, _, _, t => by simp [tO] at t
  | .dict _, _, _, _, t => by simp [tO] at t
theorem readsAll_nest {h : Heap} : ∀ {ds : List PyData} {vs : List Value} {as : List Addr}, ReadsAll h vs ds as → tOs ds = true → NestedAll h (keyNs ds) vs
  | [], _, _, r, _ => by
    cases r
    rw [keyNs]
    exact .nil
  | d :: ds, _, _, r, t => by
    cases r with
    | cons h1 h2 =>
      rw [tOs, Bool.and_eq_true] at t
      rw [keyNs]
      exact .cons (reads_nest h1 t.1) (readsAll_nest h2 t.2)
end
abbrev Nx := List (NestedKey × Addr × V)
def NR (xs : Nx) (ys : List (NestedKey × Addr × Value)) : Prop := Paired (fun p q => p.1 = q.1 ∧ p.2.1 = q.2.1 ∧ RelV p.2.2 q.2.2) xs ys
def valN (xs : Nx) (k : NestedKey) : Option V := (xs.find? fun e => decide (e.1 = k)).map (·.2.2)
def putN (xs : Nx) (k : NestedKey) (b : Addr) (v : V) : Nx := if (valN xs k).isSome = true then xs.map fun e => if e.1 = k then (e.1, e.2.1, v) else e else xs ++ [(k, b, v)]
theorem valN_pos {k : NestedKey} {e : NestedKey × Addr × V} {xs : Nx} (h : e.1 = k) : valN (e :: xs) k = some e.2.2 := by simp [valN, h]
theorem valN_neg {k : NestedKey} {e : NestedKey × Addr × V} {xs : Nx} (h : ¬ e.1 = k) : valN (e :: xs) k = valN xs k := by simp [valN, h]
theorem NR.val {xs : Nx} {ys : List (NestedKey × Addr × Value)} (r : NR xs ys) (k : NestedKey) : RelO (valN xs k) ((atKey ys k).map (·.2)) := by
  unfold NR at r
  induction r with
  | nil => exact True.intro
  | @cons p q ps qs h t ih =>
    obtain ⟨h1, _, h2⟩ := h
    by_cases e : p.1 = k
    · have e' : q.1 = k := h1.symm.trans e
      have b : atKey (q :: qs) k = some q.2 := by simp [atKey, List.find?_cons, e']
      rw [valN_pos e, b]
      exact h2
    · have e' : ¬ q.1 = k := fun z => e (h1.trans z)
      have b : atKey (q :: qs) k = atKey qs k := by simp [atKey, List.find?_cons, e']
      rw [valN_neg e, b]
      exact ih
theorem NR.repl {xs : Nx} {ys : List (NestedKey × Addr × Value)} (r : NR xs ys) (k : NestedKey) {y : V} {u : Value} (ry : RelV y u) : NR (xs.map fun e => if e.1 = k then (e.1, e.2.1, y) else e) (ys.map (putAt k u)) := by
  unfold NR at r ⊢
  induction r with
  | nil => exact .nil
  | @cons p q ps qs h t ih =>
    rw [List.map_cons, List.map_cons]
    refine .cons ?_ ih
    obtain ⟨h1, h2, h3⟩ := h
    unfold putAt
    by_cases e : p.1 = k
    · rw [if_pos e, if_pos (h1.symm.trans e)]
      exact ⟨h1, h2, ry⟩
    · rw [if_neg e, if_neg (fun z => e (h1.trans z))]
      exact ⟨h1, h2, h3⟩
theorem NR.put {xs : Nx} {ys : List (NestedKey × Addr × Value)} (r : NR xs ys) (k : NestedKey) {b : Addr} {y : V} {u : Value} (ry : RelV y u) : NR (putN xs k b y) (storedH ys k b u) := by
  have e : (valN xs k).isSome = (atKey ys k).isSome := by rw [(r.val k).isSome_eq, Option.isSome_map]
  unfold putN storedH
  rw [e]
  by_cases q : (atKey ys k).isSome = true
  · rw [if_pos q, if_pos q]
    exact r.repl k ry
  · rw [if_neg q, if_neg q]
    exact Paired.snoc r ⟨rfl, rfl, ry⟩
theorem NR.mem {xs : Nx} {ys : List (NestedKey × Addr × Value)} (r : NR xs ys) : ∀ y ∈ ys, ∃ x ∈ xs, x.1 = y.1 ∧ x.2.1 = y.2.1 := by
  unfold NR at r
  induction r with
  | nil => exact fun _ h => nomatch h
  | @cons p q ps qs h t ih =>
    intro y hy
    rcases List.mem_cons.mp hy with rfl | hy
    · exact ⟨p, .head _, h.1, h.2.1⟩
    · obtain ⟨x, hx, e⟩ := ih y hy
      exact ⟨x, .tail _ hx, e⟩
/-- at a stands such a dict -/
def NdP (P : Program) (w : World) (a : Addr) (xs : Nx) (h : Heap) : Prop := (a == sysModules) = false ∧ ∃ ys, NR xs ys ∧ (ys.map (·.1)).Nodup ∧ ∃ o es ep, h.get? a = some o ∧ o.ExactDict ∧ o.data = .dict es ep ∧ es.toList = ys.map (entryOfKey (nestedKind P w))
def NdO (P : Program) (w : World) (a : Addr) (xs : Nx) : HO := .ext (NdP P w a xs)
theorem ndO_ok {P : Program} {w : World} {H : Hp} {h : Heap} {a : Addr} {xs : Nx} (x : NdP P w a xs h) : ObjOk P w H h a (NdO P w a xs) :=
  ⟨x, by
    obtain ⟨_, _, _, _, o, _, _, e, _⟩ := x
    exact ⟨o, e⟩, fun h1 h2 p k => by
    obtain ⟨z, ys, r, n, o, es, ep, e, q⟩ := p
    exact ⟨z, ys, r, n, o, es, ep, k o e, q⟩⟩
structure ND (P : Program) (w : World) (K : PySem.W.Frag) (H : Hp) (a : Addr) (xs : Nx) : Prop where
  here : H a = some (NdO P w a xs)
  ks : ∀ e ∈ xs, ∃ d, keyN d = e.1 ∧ Rp K H (.ref e.2.1) d ∧ tO d = true ∧ e.1.depth ≤ 8
theorem ND.ts {P : Program} {w : World} {K : PySem.W.Frag} {H H' : Hp} {a : Addr} {xs : Nx} (n : ND P w K H a xs) (s : TStay K H H') (e : H' a = some (NdO P w a xs)) : ND P w K H' a xs :=
  ⟨e, fun x hx => by
    obtain ⟨d, h1, h2, h3, h4⟩ := n.ks x hx
    exact ⟨d, h1, rp_ts s h2 h3, h3, h4⟩⟩
theorem ND.same {P : Program} {w : World} {K : PySem.W.Frag} {H H' : Hp} {a : Addr} {xs : Nx} (n : ND P w K H a xs) (s : Same H H') : ND P w K H' a xs := n.ts (ts_same s) (s _ _ n.here)
theorem ND.put {P : Program} {w : World} {K : PySem.W.Frag} {H : Hp} {a b : Addr} {xs : Nx} {d : PyData} (n : ND P w K H a xs) (hb : Rp K H (.ref b) d) (t : tO d = true) (l : (keyN d).depth ≤ 8) (v : V) :
    ND P w K (upd H a (NdO P w a (putN xs (keyN d) b v))) a (putN xs (keyN d) b v) := by
  have ts : TStay K H (upd H a (NdO P w a (putN xs (keyN d) b v))) := ts_upd n.here (fun _ z => nomatch z) (fun _ _ z => nomatch z)
  refine ⟨upd_same, fun x hx => ?_⟩
  unfold putN at hx
  split at hx
  · obtain ⟨e, he, rfl⟩ := List.mem_map.mp hx
    obtain ⟨d', h1, h2, h3, h4⟩ := n.ks e he
    by_cases q : e.1 = keyN d
    · rw [if_pos q]
      exact ⟨d', h1, rp_ts ts h2 h3, h3, h4⟩
    · rw [if_neg q]
      exact ⟨d', h1, rp_ts ts h2 h3, h3, h4⟩
  · rcases List.mem_append.mp hx with m | m
    · obtain ⟨d', h1, h2, h3, h4⟩ := n.ks x m
      exact ⟨d', h1, rp_ts ts h2 h3, h3, h4⟩
    · rw [List.mem_singleton.mp m]
      exact ⟨d, rfl, rp_ts ts hb t, t, l⟩
theorem putN_new {xs : Nx} {k : NestedKey} {b : Addr} {v : V} (h : valN xs k = none) : putN xs k b v = xs ++ [(k, b, v)] := by
  unfold putN
  rw [h]
  exact if_neg (by decide)
theorem putN_len (xs : Nx) (k : NestedKey) (b : Addr) (v : V) : (putN xs k b v).length ≤ xs.length + 1 := by
  unfold putN
  split
  · rw [List.length_map]
    omega
  · rw [List.length_append]
    exact Nat.le_refl _
section
variable {X : Cx} {pins : List (Addr × Obj)} {σ : L2.St} {H : Hp} {s : Shared} {a b : Addr} {xs : Nx} {d : PyData} {A : Around} {E : Value → Shared → Prop}
theorem nd_of (I : Inv X pins σ H s) (n : ND X.prog X.w X.K H a xs) : (a == sysModules) = false ∧ ∃ ys, NR xs ys ∧ s.heap.DictOfH (nestedKind X.prog X.w) a ys := by
  obtain ⟨⟨z, ys, r, nd, o, es, ep, h1, h2, h3, h4⟩, _, _⟩ := (show ObjOk X.prog X.w H s.heap a (NdO X.prog X.w a xs) from I.hok a _ n.here)
  refine ⟨z, ys, r, o, es, ep, h1, h2, h3, h4, fun y hy => ?_, nd⟩
  obtain ⟨x, hx, e1, e2⟩ := r.mem y hy
  obtain ⟨d', k1, k2, k3, k4⟩ := n.ks x hx
  obtain ⟨as, rd, _⟩ := Rp.reads I d' _ _ k2 (show RelV (.ref x.2.1) (Value.ref x.2.1) from rfl)
  rw [← e1, ← e2]
  exact ⟨k1 ▸ reads_nest rd k3, k4⟩
theorem nk_of (I : Inv X pins σ H s) (h : Rp X.K H (.ref b) d) (t : tO d = true) (l : (keyN d).depth ≤ 8) : (nestedKind X.prog X.w).is s.heap (keyN d) b := by
  obtain ⟨as, rd, _⟩ := Rp.reads I d _ _ h (show RelV (.ref b) (Value.ref b) from rfl)
  exact ⟨reads_nest rd t, l⟩
theorem nroom (hu : A.units + 9 < cLine) : A.in1.units + 8 < cLine := by
  have : A.in1.units = A.units + 1 := rfl
  omega
theorem nd_typeIs (I : Inv X pins σ H s) (n : ND X.prog X.w X.K H a xs) : s.TypeIs (.ref a) "dict" := by
  obtain ⟨_, ys, _, dd⟩ := nd_of I n
  exact dd.typeIs
theorem nd_getItem {v : V} {Q : Value → Shared → Prop} (hu : A.units + 9 < cLine) (I : Inv X pins σ H s) (n : ND X.prog X.w X.K H a xs) (hb : Rp X.K H (.ref b) d) (t : tO d = true) (l : (keyN d).depth ≤ 8) (hv : valN xs (keyN d) = some v)
    (h : ∀ w' s', Inv X pins σ H s' → RelV v w' → Q w' s') : wpAny (model X.prog X.w) A (getItem (.ref a) (.ref b)) Q E s := by
  obtain ⟨_, ys, r, dd⟩ := nd_of I n
  obtain ⟨w', hw, rw'⟩ := RelO.some_of (v := v) (o := (atKey ys (keyN d)).map (·.2)) (by rw [← hv]; exact r.val _)
  obtain ⟨p, hp, hp2⟩ := Option.map_eq_some_iff.mp hw
  refine wpAny_getItem_heap (nroom hu) (nk_of I hb t l) dd hp ?_
  rw [hp2]
  exact h w' _ (I.tok _) rw'
theorem nd_notIn {Q : Value → Shared → Prop} (hu : A.units + 9 < cLine) (I : Inv X pins σ H s) (n : ND X.prog X.w X.K H a xs) (hb : Rp X.K H (.ref b) d) (t : tO d = true) (l : (keyN d).depth ≤ 8)
    (h : ∀ s', Inv X pins σ H s' → Q (.bool (!(valN xs (keyN d)).isSome)) s') : wpAny (model X.prog X.w) A (compareOp .NotIn (.ref b) (.ref a)) Q E s := by
  obtain ⟨z, ys, r, dd⟩ := nd_of I n
  refine wpAny_notIn_heap (nroom hu) (nk_of I hb t l) z dd ?_
  have q := (r.val (keyN d)).isSome_eq
  rw [Option.isSome_map] at q
  rw [← q]
  exact h _ (I.tok _)
theorem nd_in {Q : Value → Shared → Prop} (hu : A.units + 9 < cLine) (I : Inv X pins σ H s) (n : ND X.prog X.w X.K H a xs) (hb : Rp X.K H (.ref b) d) (t : tO d = true) (l : (keyN d).depth ≤ 8)
    (h : ∀ s', Inv X pins σ H s' → Q (.bool (valN xs (keyN d)).isSome) s') : wpAny (model X.prog X.w) A (compareOp .In (.ref b) (.ref a)) Q E s := by
  obtain ⟨z, ys, r, dd⟩ := nd_of I n
  refine wpAny_in_heap (nroom hu) (nk_of I hb t l) z dd ?_
  have q := (r.val (keyN d)).isSome_eq
  rw [Option.isSome_map] at q
  rw [← q]
  exact h _ (I.tok _)
theorem nd_setItem {v : V} {r : Value} {Q : Unit → Shared → Prop} (hu : A.units + 9 < cLine) (I : Inv X pins σ H s) (n : ND X.prog X.w X.K H a xs) (hb : Rp X.K H (.ref b) d) (t : tO d = true) (l : (keyN d).depth ≤ 8) (hz : xs.length < sizeLine) (rv : RelV v r)
    (h : ∀ s', Inv X pins σ (upd H a (NdO X.prog X.w a (putN xs (keyN d) b v))) s' → Q () s') : wpAny (model X.prog X.w) A (setItem (.ref a) (.ref b) r) Q E s := by
  obtain ⟨z, ys, rr, dd⟩ := nd_of I n
  have hz2 : ys.length ≤ sizeLine := by rw [← Paired.length rr]; omega
  refine wpAny_setItem_heap (hsz := hz2) (nroom hu) (nk_of I hb t l) dd fun h' dd' hs => h _ ?_
  obtain ⟨q, es, ep, hq, h2, h3, h4, _, h5⟩ := dd'
  exact d_write I (by rw [n.here]; exact True.intro) hs ⟨q, hq⟩ (ndO_ok ⟨z, _, rr.put _ rv, h5, q, es, ep, hq, h2, h3, h4⟩)
end
/-! as rules -/
def NAt (P : Program) (w : World) (K : PySem.W.Frag) (H : Hp) (x y : V) (a b : Addr) (xs : Nx) (d : PyData) : Prop := x = .ref a ∧ y = .ref b ∧ ND P w K H a xs ∧ Rp K H (.ref b) d ∧ tO d = true ∧ (keyN d).depth ≤ 8
def tNGet (P : Program) (w : World) (K : PySem.W.Frag) (td ty : TE) : TE := fun σ H Q => td σ H fun x H1 => ty σ H1 fun y H2 => ∃ a b xs d v, NAt P w K H2 x y a b xs d ∧ valN xs (keyN d) = some v ∧ Q v H2
def tNNotIn (P : Program) (w : World) (K : PySem.W.Frag) (ty td : TE) : TE := fun σ H Q => ty σ H fun y H1 => td σ H1 fun x H2 => ∃ a b xs d, NAt P w K H2 x y a b xs d ∧ Q (.bl (!(valN xs (keyN d)).isSome)) H2
def tNIn (P : Program) (w : World) (K : PySem.W.Frag) (ty td : TE) : TE := fun σ H Q => ty σ H fun y H1 => td σ H1 fun x H2 => ∃ a b xs d, NAt P w K H2 x y a b xs d ∧ Q (.bl (valN xs (keyN d)).isSome) H2
def sNPut (P : Program) (w : World) (K : PySem.W.Frag) (td ty tv : TE) : TS := fun D σ H => tv σ H fun v H1 => td σ H1 fun x H2 => ty σ H2 fun y H3 => ∃ a b xs d, NAt P w K H3 x y a b xs d ∧ xs.length < sizeLine ∧ D.nx σ (upd H3 a (NdO P w a (putN xs (keyN d) b v)))
def tNDisp (P : Program) (w : World) (K : PySem.W.Frag) (tk tv : TE) : TE := fun σ H Q => ∀ p, H p = none → tk σ (upd H p (NdO P w p [])) fun x H1 => tv σ H1 fun y H2 => ∃ b d, x = .ref b ∧ Rp K H2 (.ref b) d ∧ tO d = true ∧ (keyN d).depth ≤ 8 ∧ H2 p = some (NdO P w p []) ∧ Q (.ref p) (upd H2 p (NdO P w p [(keyN d, b, y)]))
section
variable {X : Cx} {o i e value : Expr} {pos pos' : Pos} {td ty tv : TE}
theorem pe_nget (hu : X.A.units + 9 < cLine) (ho : PE X o td) (hi : PE X i ty) (hs : NoSl i) : PE X (.Subscript o i pos) (tNGet X.prog X.w X.K td ty) := by
  refine ⟨fun pins s σ H Q I h => ?_⟩
  refine subD_of PySem.F.slot_dict_getitem.lookup hs (thn (ho.run pins s σ H _ I h) fun u s1 ⟨x, H1, I1, rx, q1⟩ => thn (hi.run pins s1 σ H1 _ I1 q1) fun iv s2 ⟨y, H2, I2, ry, a, b, xs, d, v, ⟨ex, ey, n, hb, t, l⟩, hv, q2⟩ => ?_)
  subst ex ey
  obtain rfl : u = Value.ref a := rx
  obtain rfl : iv = Value.ref b := ry
  exact ⟨nd_typeIs I2 n, nd_getItem hu I2 n hb t l hv fun w' s3 I3 rw' => ⟨v, H2, I3, rw', q2⟩⟩
theorem pc_nnotin (hu : X.A.units + 9 < cLine) (hi : PE X i ty) (ho : PE X o td) : PC X .NotIn i o (tNNotIn X.prog X.w X.K ty td) := by
  refine ⟨fun pins s σ H Q I h => ?_⟩
  refine thn (hi.run pins s σ H _ I h) fun iv s1 ⟨y, H1, I1, ry, q1⟩ => thn (ho.run pins s1 σ H1 _ I1 q1) fun u s2 ⟨x, H2, I2, rx, a, b, xs, d, ⟨ex, ey, n, hb, t, l⟩, q2⟩ => ?_
  subst ex ey
  obtain rfl : u = Value.ref a := rx
  obtain rfl : iv = Value.ref b := ry
  exact nd_notIn hu I2 n hb t l fun s3 I3 => ⟨.bl _, H2, I3, rfl, q2⟩
theorem pc_nin (hu : X.A.units + 9 < cLine) (hi : PE X i ty) (ho : PE X o td) : PC X .In i o (tNIn X.prog X.w X.K ty td) := by
  refine ⟨fun pins s σ H Q I h => ?_⟩
  refine thn (hi.run pins s σ H _ I h) fun iv s1 ⟨y, H1, I1, ry, q1⟩ => thn (ho.run pins s1 σ H1 _ I1 q1) fun u s2 ⟨x, H2, I2, rx, a, b, xs, d, ⟨ex, ey, n, hb, t, l⟩, q2⟩ => ?_
  subst ex ey
  obtain rfl : u = Value.ref a := rx
  obtain rfl : iv = Value.ref b := ry
  exact nd_in hu I2 n hb t l fun s3 I3 => ⟨.bl _, H2, I3, rfl, q2⟩
theorem ps_nput (hu : X.A.units + 9 < cLine) (ho : PE X o td) (hi : PE X i ty) (hv : PE X value tv) (hs : swapsWith value (some (.Subscript o i pos')) pos.line X.env = pure false) :
    PS X (.Assign [.Subscript o i pos'] value pos) (sNPut X.prog X.w X.K td ty tv) := by
  refine ⟨fun pins s σ H D I h => ?_⟩
  refine wpAny_Assign_Subscript (thn (hv.run pins s σ H _ I h) fun r s1 ⟨v, H1, I1, rv, q1⟩ => thn (ho.run pins s1 σ H1 _ I1 q1) fun u s2 ⟨x, H2, I2, rx, q2⟩ => thn (hi.run pins s2 σ H2 _ I2 q2) fun iv s3 ⟨y, H3, I3, ry, a, b, xs, d, ⟨ex, ey, n, hb, t, l⟩, hz, q3⟩ => ?_) hs
  subst ex ey
  obtain rfl : u = Value.ref a := rx
  obtain rfl : iv = Value.ref b := ry
  exact nd_setItem hu I3 n hb t l hz rv fun s4 I4 => ⟨σ, _, I4, q3⟩
theorem pe_ndisp {kx vx : Expr} {tk : TE} (hu : X.A.units + 9 < cLine) (hk : PE X kx tk) (hv : PE X vx tv) : PE X (.Dict [some kx] [vx] pos) (tNDisp X.prog X.w X.K tk tv) := by
  refine ⟨fun pins s σ H Q I q => ?_⟩
  have hn := I.hok.fresh (Nat.le_refl s.heap.objs.size)
  have zs : (s.heap.objs.size == sysModules) = false := beq_eq_false_iff_ne.mpr (Ne.symm (Nat.ne_of_lt I.big))
  have I1 := I.laid (a := s.heap.objs.size) (o := NdO X.prog X.w s.heap.objs.size []) (h' := s.heap.push { cls := .type "dict", data := .dict #[] }) (t' := s.toks) (fun _ _ q => Heap.get?_push_of_some _ q) (Nat.le_refl _)
    (ndO_ok ⟨zs, [], .nil, List.nodup_nil, _, #[], 0, Heap.get?_push_size _ rfl, ⟨rfl, rfl, rfl⟩, rfl, rfl⟩)
  have hroom : (nestedKind X.prog X.w).room X.A := show X.A.units + 8 < cLine by omega
  have hshape : (evalEachOpt [some kx] X.env).zip ((evalEach [vx] X.env).map fun v => do let x ← v; standAt pos; pure x) = (pairTrees [some kx] [vx] X.env pos).map fun p => (some p.1, p.2) := by rfl
  rw [arm_eval_Dict, hshape, dictDisplay_pairs (pairTrees [some kx] [vx] X.env pos) (by simp [pairTrees]) (by simp [pairTrees])]
  refine wpAny_bind (wpAny_standAt (wpAny_bind (wpAny_subDictH (knd := nestedKind X.prog X.w) (Q := fun d s' => wpAny (model X.prog X.w) X.A (pure (Value.ref d)) (EP X pins σ Q) X.xe s') hroom (by simp [pairTrees]) ?_)))
  refine thn ((pps_cons hk hv pps_nil).run pins _ σ _ (fun ps H2 => match ps with
    | [(x, y)] => ∃ b d, x = .ref b ∧ Rp X.K H2 (.ref b) d ∧ tO d = true ∧ (keyN d).depth ≤ 8 ∧ H2 s.heap.objs.size = some (NdO X.prog X.w s.heap.objs.size []) ∧ Q (.ref s.heap.objs.size) (upd H2 s.heap.objs.size (NdO X.prog X.w s.heap.objs.size [(keyN d, b, y)]))
    | _ => False) I1 (q _ hn)) fun ws s2 ⟨ps, H2, I2, rel, hq⟩ => ?_
  match ps, rel, hq with
  | [], _, hq => exact hq.elim
  | _ :: _ :: _, _, hq => exact hq.elim
  | [(x, y)], rel, hq =>
    obtain ⟨b, d, rfl, hb, t, l, e, q2⟩ := hq
    cases rel with
    | @cons _ q0 _ _ h1 h2 =>
      cases h2
      obtain ⟨u1, u2⟩ := q0
      obtain ⟨r1, r2⟩ := h1
      obtain rfl : u1 = Value.ref b := r1
      have n0 : ND X.prog X.w X.K H2 s.heap.objs.size [] := ⟨e, fun _ h => nomatch h⟩
      obtain ⟨z, ys, rr, dd⟩ := nd_of I2 n0
      cases rr
      refine ⟨[(keyN d, b, u2)], ⟨rfl, rfl, nk_of I2 hb t l, trivial⟩, dd, fun h' tk dd' hs => wpAny_pure ⟨.ref s.heap.objs.size, _, ?_, rfl, q2⟩⟩
      obtain ⟨o, es, ep, hq, h2, h3, h4, _, h5⟩ := dd'
      exact d_write I2 (by rw [e]; exact True.intro) hs ⟨o, hq⟩ (ndO_ok ⟨z, _, .cons ⟨rfl, rfl, r2⟩ .nil, h5, o, es, ep, hq, h2, h3, h4⟩)
end
end My
/-! ### the pen stays -/
namespace My
open PySem PySem.Spec PyProof.Rows L2
theorem PenC.same {H H' : Hp} {p c : Addr} {n : Nat} (h : PenC H p c n) (s : Same H H') : PenC H' p c n := h.keep (fun _ e => s _ _ e) (fun _ e => s _ _ e)
end My
/-! ### the law's machines -/
namespace My
open PySem PySem.Spec PyProof.Rows L2
abbrev sXMachineB : Stmt := topS 59
abbrev sXPlainB : Stmt := topS 60
theorem scXMachineB : FnScope ["pen", "base", "letters", "most", "wide", "many", "states", "state", "row", "letter", "choice", "again", "pair"] ["pen", "base", "letters", "most", "wide"] (defScope sXMachineB) := ⟨rfl, rfl, rfl, by decide +kernel, rfl, by decide +kernel, by decide +kernel⟩
theorem scXPlainB : FnScope ["pen", "base", "letters", "most", "wide", "many", "states", "state", "letter"] ["pen", "base", "letters", "most", "wide"] (defScope sXPlainB) := ⟨rfl, rfl, rfl, by decide +kernel, rfl, by decide +kernel, by decide +kernel⟩
structure BlTxt (K : PySem.W.Frag) (mg : Str → Option Value) (xm xp xf xs : Addr) (ym yp yf ys : FuncData) : Prop where
  range : mg "range" = none
  len : mg "len" = none
  tuple : mg "tuple" = none
  int : mg "int" = none
  FXMachineB : Fun K "_law_x_machine" "_law_x_machine" sXMachineB xm ym
  bXMachineB : Binds K ym ["pen", "base", "letters", "most", "wide"] []
  gXMachineB : mg "_law_x_machine" = some (.ref xm)
  FXPlainB : Fun K "_law_x_plain" "_law_x_plain" sXPlainB xp yp
  bXPlainB : Binds K yp ["pen", "base", "letters", "most", "wide"] []
  gXPlainB : mg "_law_x_plain" = some (.ref xp)
theorem ts_but {K : PySem.W.Frag} {p : Addr} {n : Nat} {H H' : Hp} (h : Pen H p n) (b : But p H H') : TStay K H H' := fun a xs e => by
  obtain ⟨ys, hp⟩ := h.ls
  have ne : ∀ o, H a = some o → (∃ ks, o = .tup ks) ∨ (∃ u ks, o = .frz u (.tup ks)) → a ≠ p := fun o e ho z => by
    rw [z, hp] at e
    cases e
    rcases ho with ⟨_, ho⟩ | ⟨_, _, ho⟩ <;> cases ho
  rcases e with (e | ⟨u, e⟩) | e
  · exact .inl (.inl (b _ _ (ne _ e (.inl ⟨_, rfl⟩)) e))
  · exact .inl (.inr ⟨u, b _ _ (ne _ e (.inr ⟨_, _, rfl⟩)) e⟩)
  · exact .inr e
theorem goS {K : PySem.W.Frag} {H H' : Hp} {us : List V} {es : List (List (List (Int × Int)))} (s : TStay K H H') (h : RpAll K H us (es.map eS)) : RpAll K H' us (es.map eS) := rpAll_ts s h (tOs_map tO_eS _)
theorem goC {K : PySem.W.Frag} {H H' : Hp} {us : List V} {es : List (List (Int × Int))} (s : TStay K H H') (h : RpAll K H us (es.map eC)) : RpAll K H' us (es.map eC) := rpAll_ts s h (tOs_map tO_eC _)
theorem goP {K : PySem.W.Frag} {H H' : Hp} {us : List V} {es : List (Int × Int)} (s : TStay K H H') (h : RpAll K H us (es.map eP)) : RpAll K H' us (es.map eP) := rpAll_ts s h (tOs_map tO_eP _)
theorem rp_snoc {K : PySem.W.Frag} {H : Hp} {v : V} {d : PyData} : ∀ {vs : List V} {ds : List PyData}, RpAll K H vs ds → Rp K H v d → RpAll K H (vs ++ [v]) (ds ++ [d])
  | _, _, .nil, h => .cons h .nil
  | _, _, .cons a t, h => .cons a (rp_snoc t h)
theorem map_snoc {α : Type} {f : α → PyData} {l : List α} {x : α} : (l ++ [x]).map f = l.map f ++ [f x] := by rw [List.map_append]; rfl
theorem all_snoc {α : Type} {P : α → Prop} {l : List α} {x : α} (h : ∀ y ∈ l, P y) (hx : P x) : ∀ y ∈ l ++ [x], P y := fun y hy => by
  rcases List.mem_append.mp hy with m | m
  · exact h y m
  · rw [List.mem_singleton.mp m]
    exact hx
theorem ts_lst {K : PySem.W.Frag} {H : Hp} {S : Addr} {ys : List V} {o : HO} (h : H S = some (.lst ys)) : TStay K H (upd H S o) := ts_upd h (fun _ z => nomatch z) (fun _ _ z => nomatch z)
theorem butNone {p a : Addr} {H H' : Hp} (b : But p H H') (n : a ≠ p) (e : H' a = none) : H a = none := by
  cases h : H a with
  | none => rfl
  | some o =>
    rw [b a o n h] at e
    cases e
theorem rp_nil {K : PySem.W.Frag} {H : Hp} {vs : List V} {ds : List PyData} (h : RpAll K H vs ds) : RpAll K H (vs ++ []) ds := by
  rw [List.append_nil]
  exact h
theorem eqv_eP (a b : Int × Int) : PyData.eqv (eP a) (eP b) = decide (a = b) := by
  obtain ⟨a1, a2⟩ := a
  obtain ⟨b1, b2⟩ := b
  simp only [eP, PyData.eqv, PyData.eqvAll, Bool.and_true, Prod.mk.injEq]
  by_cases h1 : a1 = b1 <;> by_cases h2 : a2 = b2 <;> simp [h1, h2]
theorem any_eP (ps : List (Int × Int)) (p : Int × Int) : ((ps.map eP).any fun z => PyData.eqv z (eP p)) = decide (p ∈ ps) := by
  rw [List.any_map]
  induction ps with
  | nil => rfl
  | cons q ps ih =>
    rw [List.any_cons, ih]
    show (PyData.eqv (eP q) (eP p) || decide (p ∈ ps)) = decide (p ∈ q :: ps)
    rw [eqv_eP]
    by_cases h : q = p
    · simp [h]
    · have : ¬ p = q := fun z => h z.symm
      simp [h, this]
theorem lay_eP : ∀ l : List (Int × Int), PyData.canLayAll0 (l.map eP) = true ∧ PyData.depthAll (l.map eP) ≤ 1 ∧ PyData.hasDictAll (l.map eP) = false
  | [] => by simp [PyData.canLayAll0, PyData.depthAll, PyData.hasDictAll]
  | x :: a => by
    have ih := lay_eP a
    rw [List.map_cons]
    simp [eP, PyData.canLayAll0, PyData.depthAll, PyData.canLay0, PyData.depth, PyData.hasDictAll, PyData.hasDict, ih]
theorem shaped_eP (p : Int × Int) : SeqAt.shaped (eP p) = true := by
  simp [SeqAt.shaped, eP, PyData.canLay0, PyData.canLayAll0, PyData.depth, PyData.depthAll]
/-- a choice as the law makes it -/
structure Ck (m wd : Int) (ps : List (Int × Int)) : Prop where
  nd : ps.Nodup
  le : ps.length ≤ 3
  rg : ∀ p ∈ ps, -wd ≤ p.1 ∧ p.1 ≤ wd ∧ 0 ≤ p.2 ∧ p.2 ≤ m - 1
/-- a machine as the law makes it: choices of different pairs, or pairs alone -/
structure Made (M : Mc) : Prop where
  ok : Mok M
  few : M.C.length ≤ 130
def Side (d : PyData) (M : Mc) : Prop := Made M ∧ ((d = eM M ∧ mchD d = true) ∨ (d = fM M ∧ mchD d = false ∧ plnD d = true ∧ withD d = eM M ∧ ∀ cs ∈ M.C, ∀ ps ∈ cs, ps.length = 1))
def spMach3 (K : PySem.W.Frag) : Sp := fun vs H Q _ => ∃ (p c : Addr) (n : Nat) (b : Int) (z : Str) (most wide : Int), vs = [.ref p, .int b, .str z, .int most, .int wide] ∧ PenC H p c n ∧ n < 1046000 ∧ lettersL z.cps.toList = true ∧ 2 ≤ b ∧ b ≤ 9 ∧ 1 ≤ most ∧ most ≤ 4 ∧ 1 ≤ wide ∧ wide ≤ 20 ∧
  ∀ (H' : Hp) (t : Addr) (M : Mc), But p H H' → PenC H' p c (n + 100) → t ≠ p → Rp K H' (.ref t) (eM M) → Side (eM M) M → M.b = b → M.z = z → (M.C.length : Int) ≤ most → (∀ cs ∈ M.C, ∀ ps ∈ cs, ∀ p ∈ ps, -wide ≤ p.1 ∧ p.1 ≤ wide) → Q (.ref t) H'
theorem key_of {ps : List (Int × Int)} : (ps.map eP).map keyD = ps.map fun p => [p.1, p.2] := by
  rw [List.map_map]
  rfl
theorem tupD_ok {lo hi : Int} {ds : List PyData} (h1 : lo ≤ (ds.length : Int)) (h2 : (ds.length : Int) ≤ hi) : tupD lo hi (.tuple ds) = true := by
  show (decide (lo ≤ (ds.length : Int)) && decide ((ds.length : Int) ≤ hi)) = true
  rw [decide_eq_true h1, decide_eq_true h2]
  rfl
theorem betD_ok {lo hi i : Int} (h1 : lo ≤ i) (h2 : i ≤ hi) : betD lo hi (.int i) = true := by
  show (decide (lo ≤ i) && decide (i ≤ hi)) = true
  rw [decide_eq_true h1, decide_eq_true h2]
  rfl
theorem mch_made {wd b : Int} (wd20 : wd ≤ 20) {z : Str} {C : List (List (List (Int × Int)))} (b2 : 2 ≤ b) (b9 : b ≤ 9) (hl : lettersL z.cps.toList = true) (c1 : 1 ≤ C.length) (c4 : C.length ≤ 4) (row : ∀ cs ∈ C, cs.length = z.length)
    (ch : ∀ cs ∈ C, ∀ ps ∈ cs, 1 ≤ ps.length ∧ Ck (C.length : Int) wd ps) : Side (eM ⟨b, z, C⟩) ⟨b, z, C⟩ := by
  have w : (20 : Int) ≤ wideN := by decide +kernel
  have l1 : ∀ cs ∈ C, tupD (z.length : Int) (z.length : Int) (eS cs) = true := fun cs hcs => by
    have := row cs hcs
    exact tupD_ok (by rw [List.length_map]; omega) (by rw [List.length_map]; omega)
  have l2 : ∀ cs ∈ C, ∀ ps ∈ cs, chD (C.length : Int) (eC ps) = true := fun cs hcs ps hps => by
    obtain ⟨h1, h2⟩ := ch cs hcs ps hps
    have a1 : tupD 1 3 (.tuple (ps.map eP)) = true := by
      have := h2.le
      exact tupD_ok (by rw [List.length_map]; omega) (by rw [List.length_map]; omega)
    have a2 : (ps.map eP).all (pairD 20 (C.length : Int)) = true := by
      rw [List.all_map, List.all_eq_true]
      intro p hp
      obtain ⟨r1, r2, r3, r4⟩ := h2.rg p hp
      show (betD (-20) 20 (.int p.1) && betD 0 ((C.length : Int) - 1) (.int p.2)) = true
      rw [betD_ok (by omega) (by omega), betD_ok r3 r4]
      rfl
    have a3 : ((ps.map eP).map keyD).Nodup := by
      rw [key_of]
      refine List.Pairwise.map _ (fun x y hxy e => hxy ?_) h2.nd
      injection e with e1 e2
      injection e2 with e2 _
      exact Prod.ext e1 e2
    show (tupD 1 3 (.tuple (ps.map eP)) && ((ps.map eP).all (pairD 20 (C.length : Int)) && decide ((List.map keyD (ps.map eP)).Nodup))) = true
    rw [a1, a2, decide_eq_true a3]
    rfl
  have fr : frmD 4 (eM ⟨b, z, C⟩) = true := by
    show (betD 2 9 (.int b) && (ltrD (.str z) && tabD (lenD (.str z)) 4 (.tuple (C.map eS)))) = true
    have a1 : betD 2 9 (.int b) = true := betD_ok b2 b9
    have a2 : tabD (lenD (.str z)) 4 (.tuple (C.map eS)) = true := by
      show (tupD 1 4 (.tuple (C.map eS)) && (C.map eS).all (tupD (z.length : Int) (z.length : Int))) = true
      have a3 : tupD 1 4 (.tuple (C.map eS)) = true := tupD_ok (by rw [List.length_map]; omega) (by rw [List.length_map]; omega)
      have a4 : (C.map eS).all (tupD (z.length : Int) (z.length : Int)) = true := by
        rw [List.all_map, List.all_eq_true]
        exact fun cs hcs => l1 cs hcs
      rw [a3, a4]
      rfl
    rw [a1, a2, show ltrD (.str z) = true from hl]
    rfl
  refine ⟨⟨⟨b2, b9, hl, c1, (show C.length ≤ 300 by omega), row, fun cs hcs ps hps => ⟨(ch cs hcs ps hps).1, (ch cs hcs ps hps).2.le⟩, fun cs hcs ps hps p hp => ?_, .inl c4⟩, (show C.length ≤ 130 by omega)⟩, .inl ⟨rfl, ?_⟩⟩
  · obtain ⟨r1, r2, r3, r4⟩ := (ch cs hcs ps hps).2.rg p hp
    exact ⟨by omega, by omega, r3, r4⟩
  · show (frmD 4 (eM ⟨b, z, C⟩) && ((C.map eS).flatMap fun st => (elems st).map (chD ((C.map eS).length : Int))).all id) = true
    rw [fr, Bool.true_and, List.all_eq_true]
    intro x hx
    obtain ⟨st, hst, hx⟩ := List.mem_flatMap.mp hx
    obtain ⟨cs, hcs, rfl⟩ := List.mem_map.mp hst
    obtain ⟨d, hd, rfl⟩ := List.mem_map.mp hx
    obtain ⟨ps, hps, rfl⟩ := List.mem_map.mp (show d ∈ cs.map eC from hd)
    rw [List.length_map]
    exact l2 cs hcs ps hps
section
variable {P : Program} {w : World} {K : PySem.W.Frag} {mg : Str → Option Value} {base : Heap} {f1 f2 f3 f4 : Addr} {d1 d2 d3 d4 : FuncData} {xm xp xf xs : Addr} {ym yp yf ys : FuncData}
theorem ok_mach3 (TP : PenTxt K mg f1 f2 f3 f4 d1 d2 d3 d4) (T : BlTxt K mg xm xp xf xs ym yp yf ys) {k : Nat} : FnOk P w K mg base CX0 (k + 4) xm ym ["pen", "base", "letters", "most", "wide"] (spMach3 K) := by
  have GTC : FnOk P w K mg base CX0 (k + 3) f3 d3 ["pen", "many"] spTakeC := ok_takeC TP (k := k + 1)
  have GP : FnOk P w K mg base CX0 (k + 3) f4 d4 ["pen", "some"] (spPickC K) := ok_pickC TP (k := k)
  refine T.FXMachineB.ok scXMachineB (fun vs H Q E h => ?_) (fun cdv A outer s H vs Q E hr h => ?_)
  · obtain ⟨p, c, n, b, z, most, wide, rfl, _⟩ := h
    rfl
  · obtain ⟨p, c, n, b, z, most, wide, rfl, hP, hn, hl, b2', b9', m1, m4, w1, w20, q⟩ := h
    have hu : (A.deeper (envOfC "_law_x_machine" (defScope sXMachineB) s.heap.objs.size xm cdv)).units + 65 < cLine := by have := hr.un; omega
    refine ⟨_, (Evl.pss_cut (ps_par (i := 5) (j := 6) (by rfl) scXMachineB.nd rfl rfl (by decide) rfl rfl (pa_cons (pe_op op_add pe_int (pe_call GTC hr (by rfl) TP.gTake TP.FTake.kp TP.bTake .nil pass0 (pa_cons (pv 0) (pa_cons (pv 3) pa_nil)))) (pa_cons (pe_lst pa_nil) pa_nil)) (by rfl))
 (pss_cons (ps_for PassesOwn.never rfl (pi_range1 (by rfl) T.range (pa_cons (pv 5) pa_nil)) (pg_name (i := 7) scXMachineB.nd rfl (.inl rfl))
 (pss_cons (ps_set (i := 8) scXMachineB.nd rfl (.inl rfl) (pe_lst pa_nil))
 (pss_cons (ps_for PassesOwn.never rfl (pi_str (pv 2)) (pg_name (i := 9) scXMachineB.nd rfl (.inl rfl))
 (pss_cons (ps_set (i := 10) scXMachineB.nd rfl (.inl rfl) (pe_lst pa_nil))
 (pss_cons (ps_for PassesOwn.never rfl (pi_range1 (by rfl) T.range (pa_cons (pe_call GP hr (by rfl) TP.gPick TP.FPick.kp TP.bPick .nil pass0 (pa_cons (pv 0) (pa_cons (pe_lst (pa_cons pe_int (pa_cons pe_int (pa_cons pe_int (pa_cons pe_int (pa_cons pe_int pa_nil)))))) pa_nil))) pa_nil)) (pg_name (i := 11) scXMachineB.nd rfl (.inl rfl))
 (pss_cons (ps_set (i := 12) scXMachineB.nd rfl (.inl rfl) (pe_tup (pa_cons (pe_op op_sub (pe_call GTC hr (by rfl) TP.gTake TP.FTake.kp TP.bTake .nil pass0 (pa_cons (pv 0) (pa_cons (pe_op op_add (pe_op op_mul pe_int (pv 4)) pe_int) pa_nil))) (pv 4)) (pa_cons (pe_call GTC hr (by rfl) TP.gTake TP.FTake.kp TP.bTake .nil pass0 (pa_cons (pv 0) (pa_cons (pv 5) pa_nil))) pa_nil))))
 (pss_one (ps_set (i := 10) scXMachineB.nd rfl (.inl rfl) (pe_op op_cat (pv 10) (pe_op op_rep (pe_lst (pa_cons (pv 12) pa_nil)) (pe_callTy call_int1 (by rfl) T.int (by decide +kernel) (pa_cons (pe_cmpR (op_notInD hu) (pv 12) (pv 10) (by rfl)) pa_nil))))))))
 (pss_one (ps_expr (pe_bm PySem.F.plainAttrs_list PySem.F.slot_list_append PySem.F.type_list_append mt_append (pv 8) (pa_cons (pe_callTy call_tuple_of (by rfl) T.tuple (by decide +kernel) (pa_cons (pv 10) pa_nil)) pa_nil)))))))
 (pss_one (ps_expr (pe_bm PySem.F.plainAttrs_list PySem.F.slot_list_append PySem.F.type_list_append mt_append (pv 6) (pa_cons (pe_callTy call_tuple_of (by rfl) T.tuple (by decide +kernel) (pa_cons (pv 8) pa_nil)) pa_nil)))))))
 (pss_one (ps_ret (pe_tup (pa_cons (pv 1) (pa_cons (pv 2) (pa_cons (pe_callTy call_tuple_of (by rfl) T.tuple (by decide +kernel) (pa_cons (pv 6) pa_nil)) pa_nil)))))))), ?_⟩
    have z3 : z.cps.size ≤ 3 := ltrD_len (d := .str z) hl
    have sl3 : ∀ {m : Nat}, m ≤ 100 → m < sizeLine := fun h => Nat.lt_of_le_of_lt h (by decide)
    refine ⟨fun σ H' => ∃ (mi : Int) (S : Addr), σ = [some (.ref p), some (.int b), some (.str z), some (.int most), some (.int wide), some (.int mi), some (.ref S), none, none, none, none, none, none] ∧ 1 ≤ mi ∧ mi ≤ most ∧ But p H H' ∧ PenC H' p c (n + 1) ∧ H' S = some (.lst []) ∧ S ≠ p ∧ S ≠ c ∧ H S = none, ?_, ?_⟩
    · refine ⟨_, rfl, _, rfl, p, c, most, n, rfl, hP, by omega, by omega, log_small (m := 4) (by omega) (by decide), fun H1 k1 b1 hP1 k10 k11 => ⟨_, _, rfl, rfl, (by show 0 ≤ sizeLine; decide), fun S hS => ?_⟩⟩
      have x1 := same_upd (o := HO.lst []) hS
      obtain ⟨c1, _, _, hp1, hc1, _⟩ := hP1.ex
      refine ⟨_, _, rfl, 1 + k1, S, rfl, by omega, by omega, b1.trans (But.of x1), hP1.same x1, upd_same, (ne_of_none hp1 hS).symm, (ne_of_none hc1 hS).symm, butNone b1 (ne_of_none hp1 hS).symm hS⟩
    rintro σ H1 ⟨mi, S, rfl, i1, i4, b1, hP1, hS, nSp, nSc, S0⟩
    refine ⟨_, rfl, _, rfl, by omega, by omega, ?_⟩
    refine for_range (lo := 0) (n := mi.toNat) (fun i σ H' => ∃ v7 v8 v9 v10 v11 v12 vs css, σ = [some (.ref p), some (.int b), some (.str z), some (.int most), some (.int wide), some (.int mi), some (.ref S), v7, v8, v9, v10, v11, v12] ∧ But p H H' ∧ PenC H' p c (n + 1 + 22 * i) ∧ H' S = some (.lst vs) ∧ RpAll K H' vs (List.map eS css) ∧ vs.length = i ∧ ∀ cs ∈ css, cs.length = z.length ∧ ∀ ps ∈ cs, 1 ≤ ps.length ∧ Ck mi wide ps)
      ⟨none, none, none, none, none, none, [], [], rfl, b1, hP1, hS, .nil, rfl, fun _ h => nomatch h⟩ ?_ ?_
    · rintro i σ H2 hi ⟨v7, v8, v9, v10, v11, v12, vs, css, rfl, b2, hP2, hS2, hV, lv, ok⟩
      refine ⟨(by show 0 ≤ sizeLine; decide), fun R hR => ?_⟩
      have xR := same_upd (o := HO.lst []) hR
      obtain ⟨_, _, _, hp2, hc2, _⟩ := hP2.ex
      have nRp := (ne_of_none hp2 hR).symm
      have nRc := (ne_of_none hc2 hR).symm
      have nRS := (ne_of_none hS2 hR).symm
      have R0 := butNone b2 nRp hR
      refine ⟨_, rfl, z, rfl, ?_⟩
      refine for_it walk_str (fun j σ H' => ∃ v9 v10 v11 v12 us pss, σ = [some (.ref p), some (.int b), some (.str z), some (.int most), some (.int wide), some (.int mi), some (.ref S), some (.int (0 + (i : Int))), some (.ref R), v9, v10, v11, v12] ∧ But p H H' ∧ PenC H' p c (n + 1 + 22 * i + 7 * j) ∧ H' S = some (.lst vs) ∧ RpAll K H' vs (List.map eS css) ∧ H' R = some (.lst us) ∧ RpAll K H' us (List.map eC pss) ∧ us.length = j ∧ ∀ ps ∈ pss, 1 ≤ ps.length ∧ Ck mi wide ps)
        ⟨v9, v10, v11, v12, [], [], rfl, b2.trans (But.of xR), hP2.same xR, xR _ _ hS2, goS (ts_same xR) hV, upd_same, .nil, rfl, fun _ h => nomatch h⟩ (fun _ _ _ _ _ => trivial) ?_ ?_
      · rintro j u σ H' H3 hj ⟨v9, v10, v11, v12, us, pss, rfl, b3, hP3, hS3, hV3, hR3, hU3, lu, oku⟩ ⟨rfl, cc, hcc, rfl⟩
        refine ⟨(by show 0 ≤ sizeLine; decide), fun C hC => ?_⟩
        have xC := same_upd (o := HO.lst []) hC
        have hPC := hP3.same xC
        refine ⟨_, rfl, (by show 5 ≤ sizeLine; decide), fun L hL => ?_⟩
        have xL := same_upd (o := HO.lst [.int 1, .int 1, .int 2, .int 2, .int 3]) hL
        have hPL := hPC.same xL
        obtain ⟨_, _, _, hp3, _⟩ := hPC.ex
        refine ⟨p, c, L, _, _, rfl, hPL, by omega, SqL.of upd_same, (ne_of_none hp3 hL).symm, (by show 0 < 5; decide), (by show 5 ≤ 1000; decide), fun H4 m v b4 hP4 hm => ?_⟩
        have hv : ∃ g : Int, v = .int g ∧ 1 ≤ g ∧ g ≤ 3 := by
          match m, hm with
          | 0, hm => exact ⟨1, (Option.some.inj hm).symm, by omega, by omega⟩
          | 1, hm => exact ⟨1, (Option.some.inj hm).symm, by omega, by omega⟩
          | 2, hm => exact ⟨2, (Option.some.inj hm).symm, by omega, by omega⟩
          | 3, hm => exact ⟨2, (Option.some.inj hm).symm, by omega, by omega⟩
          | 4, hm => exact ⟨3, (Option.some.inj hm).symm, by omega, by omega⟩
          | m + 5, hm => exact absurd hm (by simp)
        obtain ⟨g, rfl, g1, g3⟩ := hv
        have nCp := (ne_of_none (hP3.ex.choose_spec.choose_spec.choose_spec.1) hC).symm
        have bCL : But p H3 H4 := (But.of (xC.trans xL)).trans b4
        have bT4 : TStay K H3 H4 := ts_but hP3.pen bCL
        refine ⟨_, rfl, by omega, by omega, ?_⟩
        refine for_range (lo := 0) (n := g.toNat) (fun e σ H' => ∃ v11 v12 C ws ps, σ = [some (.ref p), some (.int b), some (.str z), some (.int most), some (.int wide), some (.int mi), some (.ref S), some (.int (0 + (i : Int))), some (.ref R), some (.str ⟨#[cc]⟩), some (.ref C), v11, v12] ∧ But p H3 H' ∧ PenC H' p c (n + 1 + 22 * i + 7 * j + 1 + 2 * e) ∧ H' C = some (.lst ws) ∧ RpAll K H' ws (List.map eP ps) ∧ (ps.length ≤ e ∧ (0 < e → 1 ≤ ps.length)) ∧ (ps.Nodup ∧ ∀ q ∈ ps, -wide ≤ q.1 ∧ q.1 ≤ wide ∧ 0 ≤ q.2 ∧ q.2 ≤ mi - 1) ∧ C ≠ p)
          ⟨v11, v12, C, [], [], rfl, bCL, hP4, b4 _ _ nCp (xL _ _ upd_same), .nil, ⟨Nat.le_refl _, fun h => absurd h (Nat.lt_irrefl _)⟩, ⟨.nil, fun _ h => nomatch h⟩, nCp⟩ ?_ ?_
        · rintro e σ H5 he ⟨v11, v12, C, ws, ps, rfl, b5, hP5, hC5, hW5, lw, okw, nCp5⟩
          refine ⟨_, rfl, _, rfl, _, _, rfl, rfl, .inl ⟨by decide, by decide⟩, _, _, rfl, rfl, p, c, 2 * wide + 1, _, rfl, hP5, by omega, by omega, log_small (m := 41) (by omega) (by decide), fun H6 k6 b6 hP6 k60 k61 => ?_⟩
          refine ⟨_, rfl, _, _, rfl, rfl, _, rfl, _, rfl, p, c, mi, _, rfl, hP6, by omega, by omega, log_small (m := 4) (by omega) (by decide), fun H7 k7 b7 hP7 k70 k71 => ⟨(by show 2 ≤ sizeLine; decide), fun T hT => ?_⟩⟩
          have b67 := b6.trans b7
          have bT7 : TStay K H5 H7 := ts_but hP5.pen b67
          have hC7 := b67 _ _ nCp5 hC5
          have xT := same_upd (o := HO.tup [.int (k6 - wide), .int k7]) hT
          refine ⟨_, rfl, _, rfl, (by show 1 ≤ sizeLine; decide), fun M hM => ?_⟩
          have xM := same_upd (o := HO.lst [.ref T]) hM
          have xTM := xT.trans xM
          have rg : -wide ≤ k6 - wide ∧ k6 - wide ≤ wide ∧ 0 ≤ k7 ∧ k7 ≤ mi - 1 := by omega
          obtain ⟨pr, hpr⟩ : ∃ pr : Int × Int, pr = (k6 - wide, k7) := ⟨_, rfl⟩
          have rT : Rp K (upd (upd H7 T (HO.tup [.int (k6 - wide), .int k7])) M (HO.lst [.ref T])) (.ref T) (eP pr) := by
            rw [hpr]
            exact .tup (SqT.of (xM _ _ upd_same)) (.cons (.int _) (.cons (.int _) .nil))
          have hCM := xTM _ _ hC7
          have hWM := goP (bT7.trans (ts_same xTM)) hW5
          have lay := lay_eP ps
          have lps : ws.length = ps.length := by rw [hW5.len, List.length_map]
          have sht : SeqAt.shaped (.list (List.map eP ps)) = true := by
            have l2 := lay.2.1
            simp [SeqAt.shaped, PyData.canLay0, PyData.depth, lay.1]
            omega
          refine ⟨_, rfl, _, rfl, eP pr, List.map eP ps, rT.dp (by simp [eP, PyData.hasDict, PyData.hasDictAll]), .lst (SqL.of hCM) (RpAll.dp hWM lay.2.2), shaped_eP pr, sht, ?_⟩
          rw [any_eP]
          by_cases mem : pr ∈ ps
          · rw [decide_eq_true mem]
            refine .inr ⟨false, rfl, M, 0, [V.ref T], rfl, rfl, upd_same, by decide, by decide, (by show 0 ≤ sizeLine; decide), fun N hN => ?_⟩
            have xN := same_upd (o := HO.lst []) hN
            refine ⟨C, N, ws, [], rfl, rfl, xN _ _ hCM, upd_same, (by show ws.length + 0 ≤ sizeLine; exact Nat.le_of_lt (sl3 (by omega))), fun O hO => ?_⟩
            have xO := same_upd (o := HO.lst (ws ++ [])) hO
            have x4 := (xTM.trans xN).trans xO
            obtain ⟨_, _, _, hp7, _, _⟩ := hP7.ex
            have nO : O ≠ p := (ne_of_none ((xTM.trans xN) _ _ hp7) hO).symm
            refine ⟨_, _, O, ws ++ [], ps, rfl, b5.trans (b67.trans (But.of x4)), (hP7.same x4).mono (by omega), upd_same, ?_, ⟨by omega, fun _ => List.length_pos_of_mem mem⟩, okw, nO⟩
            exact rp_nil (goP (ts_same (xN.trans xO)) hWM)
          · rw [decide_eq_false mem]
            refine .inr ⟨true, rfl, M, 1, [V.ref T], rfl, rfl, upd_same, by decide, by decide, (by show 1 ≤ sizeLine; decide), fun N hN => ?_⟩
            have xN := same_upd (o := HO.lst [V.ref T]) hN
            refine ⟨C, N, ws, [V.ref T], rfl, rfl, xN _ _ hCM, upd_same, (by show ws.length + 1 ≤ sizeLine; exact Nat.le_of_lt (sl3 (by omega))), fun O hO => ?_⟩
            have xO := same_upd (o := HO.lst (ws ++ [V.ref T])) hO
            have x4 := (xTM.trans xN).trans xO
            obtain ⟨_, _, _, hp7, _, _⟩ := hP7.ex
            have nO : O ≠ p := (ne_of_none ((xTM.trans xN) _ _ hp7) hO).symm
            refine ⟨_, _, O, ws ++ [V.ref T], ps ++ [pr], rfl, b5.trans (b67.trans (But.of x4)), (hP7.same x4).mono (by omega), upd_same, ?_, ?_, ⟨?_, ?_⟩, nO⟩
            · rw [map_snoc]
              exact rp_snoc (goP (ts_same (xN.trans xO)) hWM) (rp_ts (ts_same (xN.trans xO)) rT (tO_eP _))
            · rw [List.length_append, List.length_singleton]
              omega
            · rw [List.nodup_append]
              refine ⟨okw.1, by simp, fun a ha b hb => ?_⟩
              rw [List.mem_singleton.mp hb]
              exact fun z => mem (z ▸ ha)
            · exact all_snoc okw.2 (by rw [hpr]; exact rg)
        · rintro σ H5 ⟨v11, v12, C, ws, ps, rfl, b5, hP5, hC5, hW5, lw, okw, nCp5⟩
          have bT5 : TStay K H3 H5 := ts_but hP3.pen b5
          have hR5 := b5 _ _ nRp hR3
          have hS5 := b5 _ _ nSp hS3
          refine ⟨_, rfl, .inl ⟨rfl, _, SqL.of hR5⟩, _, rfl, C, _, rfl, .inl ⟨SqL.of hC5, fun t ht => ?_⟩⟩
          have xt := same_upd (o := HO.tup ws) ht
          have bt : TStay K (upd H5 t (HO.tup ws)) (upd (upd H5 t (HO.tup ws)) R (HO.lst (us ++ [V.ref t]))) := ts_lst (xt _ _ hR5)
          have z9 : z.cps.size ≤ 3 := z3
          have ckp : 1 ≤ ps.length ∧ Ck mi wide ps := ⟨lw.2 (by omega), okw.1, by omega, okw.2⟩
          refine ⟨R, _, _, rfl, rfl, xt _ _ hR5, sl3 (by omega), ?_⟩
          refine ⟨_, _, _, _, us ++ [V.ref t], pss ++ [ps], rfl, ?_, ?_, ?_, ?_, upd_same, ?_, by rw [List.length_append, lu]; rfl, all_snoc oku ckp⟩
          · intro b o nb e
            rw [upd_ne (ne_of_none e R0)]
            exact xt _ _ (b5 _ _ nb (b3 _ _ nb e))
          · exact (hP5.keep (fun o e => by rw [upd_ne nRp.symm]; exact xt _ _ e) (fun o e => by rw [upd_ne nRc.symm]; exact xt _ _ e)).mono (by omega)
          · rw [upd_ne nRS.symm]
            exact xt _ _ hS5
          · exact goS ((bT5.trans (ts_same xt)).trans bt) hV3
          · rw [map_snoc]
            refine rp_snoc (goC ((bT5.trans (ts_same xt)).trans bt) hU3) (.tup (bt _ _ (SqT.of upd_same)) (goP ((ts_same xt).trans bt) hW5))
      · rintro σ H4 ⟨v9, v10, v11, v12, us, pss, rfl, b4, hP4, hS4, hV4, hR4, hU4, lu, oku⟩
        have lu3 : us.length ≤ 3 := by rw [lu]; exact z3
        refine ⟨_, rfl, .inl ⟨rfl, _, SqL.of hS4⟩, _, rfl, R, _, rfl, .inl ⟨SqL.of hR4, fun t ht => ?_⟩⟩
        have xt := same_upd (o := HO.tup us) ht
        refine ⟨S, _, _, rfl, rfl, xt _ _ hS4, sl3 (by omega), ?_⟩
        have bt : TStay K (upd H4 t (HO.tup us)) (upd (upd H4 t (HO.tup us)) S (HO.lst (vs ++ [V.ref t]))) := ts_lst (xt _ _ hS4)
        have lup : us.length = pss.length := by rw [hU4.len, List.length_map]
        refine ⟨_, _, _, _, _, _, vs ++ [V.ref t], css ++ [pss], rfl, ?_, ?_, upd_same, ?_, by rw [List.length_append, lv]; rfl, all_snoc ok ⟨lup.symm.trans lu, oku⟩⟩
        · intro b o nb e
          rw [upd_ne (ne_of_none e S0)]
          exact xt _ _ (b4 _ _ nb e)
        · exact (hP4.keep (fun o e => by rw [upd_ne nSp.symm]; exact xt _ _ e) (fun o e => by rw [upd_ne nSc.symm]; exact xt _ _ e)).mono (by have : z.cps.size ≤ 3 := z3; omega)
        · rw [map_snoc]
          exact rp_snoc (goS ((ts_same xt).trans bt) hV4) (.tup (bt _ _ (SqT.of upd_same)) (goC ((ts_same xt).trans bt) hU4))
    · rintro σ H2 ⟨v7, v8, v9, v10, v11, v12, vs, css, rfl, b2, hP2, hS2, hV, lv, ok⟩
      refine ⟨_, rfl, _, rfl, _, rfl, S, _, rfl, .inl ⟨SqL.of hS2, fun t ht => ⟨(by show 3 ≤ sizeLine; decide), fun u hu => ?_⟩⟩⟩
      have xt := same_upd (o := HO.tup vs) ht
      have xu := same_upd (o := HO.tup [V.int b, V.str z, V.ref t]) hu
      have x2 := xt.trans xu
      have hz : z.length ≤ sizeLine := Nat.le_trans (show z.length ≤ 3 from z3) (by decide)
      have lvc : vs.length = css.length := by rw [hV.len, List.length_map]
      have emi : mi = (css.length : Int) := by omega
      have hPt := hP2.same xt
      obtain ⟨_, _, _, hpt, _, _⟩ := hPt.ex
      refine q _ u ⟨b, z, css⟩ (b2.trans (But.of x2)) ((hP2.same x2).mono (by omega)) (ne_of_none hpt hu).symm (.tup (SqT.of upd_same) (.cons (.int b) (.cons (.str z hz) (.cons (.tup (SqT.of (xu _ _ upd_same)) (goS (ts_same x2) hV)) .nil)))) ?_ rfl rfl (by show (css.length : Int) ≤ most; omega) (fun cs hcs ps hps p hp => ?_)
      · exact mch_made w20 b2' b9' hl (by omega) (by omega) (fun cs hcs => (ok cs hcs).1) fun cs hcs ps hps => emi ▸ (ok cs hcs).2 ps hps
      · have := ((ok cs hcs).2 ps hps).2.rg p hp
        exact ⟨this.1, this.2.1⟩
def spPln3 (K : PySem.W.Frag) : Sp := fun vs H Q _ => ∃ (p c : Addr) (n : Nat) (b : Int) (z : Str) (most wide : Int), vs = [.ref p, .int b, .str z, .int most, .int wide] ∧ PenC H p c n ∧ n < 1046000 ∧ lettersL z.cps.toList = true ∧ 2 ≤ b ∧ b ≤ 9 ∧ 1 ≤ most ∧ most ≤ 5 ∧ 1 ≤ wide ∧ wide ≤ wideN ∧
  ∀ (H' : Hp) (t : Addr) (M : Mc), But p H H' → PenC H' p c (n + 50) → t ≠ p → Rp K H' (.ref t) (fM M) → Side (fM M) M → M.b = b → M.z = z → (M.C.length : Int) ≤ most → (∀ cs ∈ M.C, ∀ ps ∈ cs, ∀ p ∈ ps, -wide ≤ p.1 ∧ p.1 ≤ wide) → Q (.ref t) H'
def rowD (qs : List (Int × Int)) : PyData := .tuple (qs.map eP)
structure Pk (wide m : Int) (q : Int × Int) : Prop where
  lo : -wide ≤ q.1
  hi : q.1 ≤ wide
  t0 : 0 ≤ q.2
  t1 : q.2 ≤ m - 1
theorem tO_rowD (qs : List (Int × Int)) : tO (rowD qs) = true := by
  rw [rowD, tO]
  exact tOs_map tO_eP qs
theorem goR {K : PySem.W.Frag} {H H' : Hp} {us : List V} {es : List (List (Int × Int))} (s : TStay K H H') (h : RpAll K H us (es.map rowD)) : RpAll K H' us (es.map rowD) := rpAll_ts s h (tOs_map tO_rowD _)
theorem pln_made {K : PySem.W.Frag} {b : Int} {z : Str} {rows : List (List (Int × Int))} (b2 : 2 ≤ b) (b9 : b ≤ 9) (hl : lettersL z.cps.toList = true) (c1 : 1 ≤ rows.length) (c5 : rows.length ≤ 130) (row : ∀ qs ∈ rows, qs.length = z.length)
    (pr : ∀ qs ∈ rows, ∀ q ∈ qs, -wideN ≤ q.1 ∧ q.1 ≤ wideN ∧ 0 ≤ q.2 ∧ q.2 ≤ (rows.length : Int) - 1) :
    Side (fM ⟨b, z, rows.map (List.map fun p => [p])⟩) ⟨b, z, rows.map (List.map fun p => [p])⟩ ∧ fM ⟨b, z, rows.map (List.map fun p => [p])⟩ = .tuple [.int b, .str z, .tuple (rows.map rowD)] := by
  have e1 : fM ⟨b, z, rows.map (List.map fun p => [p])⟩ = .tuple [.int b, .str z, .tuple (rows.map rowD)] := by
    unfold fM
    simp only [List.map_map]
    refine congrArg (fun l => PyData.tuple [.int b, .str z, .tuple l]) (List.map_congr_left fun xs _ => ?_)
    show PyData.tuple ((xs.map fun p => [p]).map fC) = .tuple (xs.map eP)
    rw [List.map_map]
    rfl
  refine ⟨?_, e1⟩
  have z1 := ltr_pos hl
  have fr : ∀ most : Int, (rows.length : Int) ≤ most → frmD most (.tuple [.int b, .str z, .tuple (rows.map rowD)]) = true := fun most hm => by
    show (betD 2 9 (.int b) && (ltrD (.str z) && tabD (lenD (.str z)) most (.tuple (rows.map rowD)))) = true
    have a2 : tabD (lenD (.str z)) most (.tuple (rows.map rowD)) = true := by
      show (tupD 1 most (.tuple (rows.map rowD)) && (rows.map rowD).all (tupD (z.length : Int) (z.length : Int))) = true
      have a4 : (rows.map rowD).all (tupD (z.length : Int) (z.length : Int)) = true := by
        rw [List.all_map, List.all_eq_true]
        intro qs hqs
        have := row qs hqs
        exact tupD_ok (by rw [List.length_map]; omega) (by rw [List.length_map]; omega)
      rw [tupD_ok (by rw [List.length_map]; omega) (by rw [List.length_map]; exact hm), a4]
      rfl
    rw [betD_ok b2 b9, a2, show ltrD (.str z) = true from hl]
    rfl
  have pl : plnD (fM ⟨b, z, rows.map (List.map fun p => [p])⟩) = true := by
    rw [e1]
    show (frmD 300 (.tuple [.int b, .str z, .tuple (rows.map rowD)]) && ((rows.map rowD).flatMap fun st => (elems st).map (pairD ((10 : Int) ^ (30 : Int).toNat) ((rows.map rowD).length : Int))).all id) = true
    rw [fr 300 (by omega), Bool.true_and, List.all_eq_true]
    intro x hx
    obtain ⟨st, hst, hx⟩ := List.mem_flatMap.mp hx
    obtain ⟨qs, hqs, rfl⟩ := List.mem_map.mp hst
    obtain ⟨d, hd, rfl⟩ := List.mem_map.mp hx
    obtain ⟨p, hp, rfl⟩ := List.mem_map.mp (show d ∈ qs.map eP from hd)
    obtain ⟨r1, r2, r3, r4⟩ := pr qs hqs p hp
    rw [List.length_map]
    show (betD (-wideN) wideN (.int p.1) && betD 0 ((rows.length : Int) - 1) (.int p.2)) = true
    rw [betD_ok r1 r2, betD_ok r3 r4]
    rfl
  have mk : mchD (fM ⟨b, z, rows.map (List.map fun p => [p])⟩) = false := by
    rw [e1]
    cases rows with
    | nil => exact absurd c1 (by decide)
    | cons qs rest =>
      have lq := row qs (.head _)
      cases qs with
      | nil => rw [List.length_nil] at lq; omega
      | cons p r =>
        have : ((((p :: r) :: rest).map rowD).flatMap fun st => (elems st).map (chD ((((p :: r) :: rest).map rowD).length : Int))).all id = false := by
          have hc : ∀ m : Int, chD m (eP p) = false := fun m => by
            show (tupD 1 3 (eP p) && ((([.int p.1, .int p.2] : List PyData).all (pairD 20 m)) && decide ((List.map keyD [.int p.1, .int p.2]).Nodup))) = false
            rw [show (([.int p.1, .int p.2] : List PyData).all (pairD 20 m)) = false from rfl]
            simp
          rw [List.map_cons, List.flatMap_cons]
          show (((eP p :: r.map eP).map (chD _)) ++ _).all id = false
          rw [List.map_cons, List.cons_append, List.all_cons, hc]
          rfl
        show (frmD 4 _ && _) = false
        rw [this, Bool.and_false]
  have wd : withD (fM ⟨b, z, rows.map (List.map fun p => [p])⟩) = eM ⟨b, z, rows.map (List.map fun p => [p])⟩ := by
    rw [e1]
    unfold withD eM eS
    simp only [List.map_map]
    refine congrArg (fun l => PyData.tuple [.int b, .str z, .tuple l]) (List.map_congr_left fun xs _ => ?_)
    show PyData.tuple ((elems (.tuple (xs.map eP))).map fun pr => .tuple [pr]) = .tuple ((xs.map fun p => [p]).map eC)
    unfold elems eC
    simp only [List.map_map]
    rfl
  have one : ∀ cs ∈ rows.map (List.map fun p : Int × Int => [p]), ∀ ps ∈ cs, ∃ qs ∈ rows, ∃ p ∈ qs, ps = [p] := fun cs hcs ps hps => by
    obtain ⟨qs, hqs, rfl⟩ := List.mem_map.mp hcs
    obtain ⟨p, hp, rfl⟩ := List.mem_map.mp hps
    exact ⟨qs, hqs, p, hp, rfl⟩
  have l1 : ∀ cs ∈ rows.map (List.map fun p : Int × Int => [p]), ∀ ps ∈ cs, ps.length = 1 := fun cs hcs ps hps => by
    obtain ⟨qs, hqs, p, hp, rfl⟩ := one cs hcs ps hps
    rfl
  have lr : (rows.map (List.map fun p : Int × Int => [p])).length = rows.length := List.length_map _
  refine ⟨⟨⟨b2, b9, hl, (by show 1 ≤ (List.map _ rows).length; omega), (by show (List.map _ rows).length ≤ 300; omega), fun cs hcs => ?_, fun cs hcs ps hps => ?_, fun cs hcs ps hps p hp => ?_, .inr l1⟩, (by show (List.map _ rows).length ≤ 130; omega)⟩, .inr ⟨rfl, mk, pl, wd, l1⟩⟩
  · obtain ⟨qs, hqs, rfl⟩ := List.mem_map.mp hcs
    rw [List.length_map]
    exact row qs hqs
  · rw [l1 cs hcs ps hps]
    exact ⟨Nat.le_refl _, Nat.le_add_left 1 2⟩
  · obtain ⟨qs, hqs, q, hq, rfl⟩ := one cs hcs ps hps
    obtain rfl := List.mem_singleton.mp hp
    obtain ⟨r1, r2, r3, r4⟩ := pr qs hqs p hq
    exact ⟨r1, r2, r3, by show p.2 ≤ ((List.map _ rows).length : Int) - 1; omega⟩
theorem ok_pln3 (TP : PenTxt K mg f1 f2 f3 f4 d1 d2 d3 d4) (T : BlTxt K mg xm xp xf xs ym yp yf ys) {k : Nat} : FnOk P w K mg base CX0 (k + 4) xp yp ["pen", "base", "letters", "most", "wide"] (spPln3 K) := by
  have GTC : FnOk P w K mg base CX0 (k + 3) f3 d3 ["pen", "many"] spTakeC := ok_takeC TP (k := k + 1)
  refine T.FXPlainB.ok scXPlainB (fun vs H Q E h => ?_) (fun cdv A outer s H vs Q E hr h => ?_)
  · obtain ⟨p, c, n, b, z, most, wide, rfl, _⟩ := h
    rfl
  · obtain ⟨p, c, n, b, z, most, wide, rfl, hP, hn, hl, b2', b9', m1, m4, wi0, wiN, q⟩ := h
    refine ⟨_, (Evl.pss_cut (ps_asg (pe_tup (pa_cons (pe_op op_add pe_int (pe_call GTC hr (by rfl) TP.gTake TP.FTake.kp TP.bTake .nil pass0 (pa_cons (pv 0) (pa_cons (pv 3) pa_nil)))) (pa_cons (pe_lst pa_nil) pa_nil))) (pg_tup rfl (pgs_cons (pg_name (i := 5) scXPlainB.nd rfl (.inr rfl)) (pgs_cons (pg_name (i := 6) scXPlainB.nd rfl (.inl rfl)) pgs_nil))))
 (pss_cons (ps_for PassesOwn.never rfl (pi_range1 (by rfl) T.range (pa_cons (pv 5) pa_nil)) (pg_name (i := 7) scXPlainB.nd rfl (.inl rfl))
 (pss_one (ps_expr (pe_bm PySem.F.plainAttrs_list PySem.F.slot_list_append PySem.F.type_list_append mt_append (pv 6) (pa_cons (pe_callTy call_tuple_of (by rfl) T.tuple (by decide +kernel) (pa_cons (pe_lc (own := [("letter", 8)]) (g := gName 8) (tt := tYes) (by rfl) scXPlainB.nd (pi_str (pv 2)) (blkOk_by (N := ["pen", "base", "letters", "most", "wide", "many", "states", "state", "letter"]) (sc := defScope sXPlainB) (by decide +kernel)) (fun _ _ _ _ _ => pg_name (i := 8) scXPlainB.nd rfl (Or.inl rfl)) (fun _ _ _ _ _ => pts_nil) (fun _ _ _ _ _ => (pe_tup (pa_cons (pe_op op_sub (pe_call GTC hr (by rfl) TP.gTake TP.FTake.kp TP.bTake .nil pass0 (pa_cons (pv 0) (pa_cons (pe_op op_add (pe_op op_mul pe_int (pv 4)) pe_int) pa_nil))) (pv 4)) (pa_cons (pe_call GTC hr (by rfl) TP.gTake TP.FTake.kp TP.bTake .nil pass0 (pa_cons (pv 0) (pa_cons (pv 5) pa_nil))) pa_nil))))) pa_nil)) pa_nil)))))
 (pss_one (ps_ret (pe_tup (pa_cons (pv 1) (pa_cons (pv 2) (pa_cons (pe_callTy call_tuple_of (by rfl) T.tuple (by decide +kernel) (pa_cons (pv 6) pa_nil)) pa_nil)))))))), ?_⟩
    have wi1 : wide < 2 ^ 100 := Int.lt_of_le_of_lt wiN wide_two.1
    have z3 : z.cps.size ≤ 3 := ltrD_len (d := .str z) hl
    have sl3 : ∀ {m : Nat}, m ≤ 100 → m < sizeLine := fun h => Nat.lt_of_le_of_lt h (by decide)
    refine ⟨fun σ H' => ∃ (mi : Int) (S : Addr), σ = [some (.ref p), some (.int b), some (.str z), some (.int most), some (.int wide), some (.int mi), some (.ref S), none, none] ∧ 1 ≤ mi ∧ mi ≤ most ∧ But p H H' ∧ PenC H' p c (n + 1) ∧ H' S = some (.lst []) ∧ S ≠ p ∧ S ≠ c ∧ H S = none, ?_, ?_⟩
    · refine ⟨_, rfl, _, rfl, p, c, most, n, rfl, hP, by omega, by omega, log_small (m := 6) (by omega) (by decide), fun H1 k1 b1 hP1 k10 k11 => ⟨_, _, rfl, rfl, (by show 0 ≤ sizeLine; decide), fun S hS => ⟨(by show 2 ≤ sizeLine; decide), fun t ht => ?_⟩⟩⟩
      have x1 := same_upd (o := HO.lst []) hS
      have x2 := x1.trans (same_upd (o := HO.tup [.int (1 + k1), .ref S]) ht)
      obtain ⟨c1, _, _, hp1, hc1, _⟩ := hP1.ex
      refine ⟨t, _, rfl, SqT.of upd_same, rfl, _, _, rfl, _, _, rfl, rfl, 1 + k1, S, rfl, by omega, by omega, b1.trans (But.of x2), hP1.same x2, same_upd ht _ _ upd_same, (ne_of_none hp1 hS).symm, (ne_of_none hc1 hS).symm, butNone b1 (ne_of_none hp1 hS).symm hS⟩
    rintro σ H1 ⟨mi, S, rfl, i1, i4, b1, hP1, hS, nSp, nSc, S0⟩
    refine ⟨_, rfl, _, rfl, by omega, by omega, ?_⟩
    refine for_range (lo := 0) (n := mi.toNat) (fun i σ H' => ∃ v7 vs rows, σ = [some (.ref p), some (.int b), some (.str z), some (.int most), some (.int wide), some (.int mi), some (.ref S), v7, none] ∧ But p H H' ∧ PenC H' p c (n + 1 + 6 * i) ∧ H' S = some (.lst vs) ∧ RpAll K H' vs (List.map rowD rows) ∧ vs.length = i ∧ ∀ qs ∈ rows, qs.length = z.length ∧ ∀ q ∈ qs, Pk wide mi q)
      ⟨none, [], [], rfl, b1, hP1, hS, .nil, rfl, fun _ h => nomatch h⟩ ?_ ?_
    · rintro i σ H2 hi ⟨v7, vs, rows, rfl, b2, hP2, hS2, hV, lv, ok⟩
      refine ⟨_, rfl, .inl ⟨rfl, _, SqL.of hS2⟩, _, rfl, z, rfl, fun D nD => ?_⟩
      obtain ⟨_, _, _, hp2, hc2, _⟩ := hP2.ex
      have xD := same_upd (o := HO.lst []) nD
      have nDp := (ne_of_none hp2 nD).symm
      have nDc := (ne_of_none hc2 nD).symm
      refine lc_it walk_str (fun j H' => ∃ us qs, But p H2 H' ∧ PenC H' p c (n + 1 + 6 * i + 2 * j) ∧ H' D = some (.lst us) ∧ RpAll K H' us (List.map eP qs) ∧ us.length = j ∧ ∀ q ∈ qs, Pk wide mi q) ⟨[], [], But.of xD, hP2.same xD, upd_same, .nil, rfl, fun _ h => nomatch h⟩ (fun _ _ _ _ => trivial) ?_ ?_
      · rintro j u H' H3 hj ⟨us, qs, bj, hPj, hD, hU, lu, oku⟩ ⟨rfl, cc, hcc, rfl⟩
        refine ⟨rfl, ?_⟩
        refine ⟨_, rfl, _, rfl, _, _, rfl, rfl, .inl ⟨by decide, by decide⟩, _, _, rfl, rfl, p, c, 2 * wide + 1, _, rfl, hPj, by omega, by omega, ?_, fun H6 k6 b6 hP6 k60 k61 => ?_⟩
        · exact Nat.lt_trans (log_le (k := 103) (show (2 * wide + 1).natAbs < 2 ^ 103 by omega) (by decide)) (by decide)
        refine ⟨_, rfl, _, _, rfl, rfl, _, rfl, _, rfl, p, c, mi, _, rfl, hP6, by omega, by omega, log_small (m := 6) (by omega) (by decide), fun H7 k7 b7 hP7 k70 k71 => ⟨(by show 2 ≤ sizeLine; decide), fun T hT => ?_⟩⟩
        have b67 := b6.trans b7
        have bT7 : TStay K H3 H7 := ts_but hPj.pen b67
        have hD7 := b67 _ _ nDp hD
        have xT := same_upd (o := HO.tup [.int (k6 - wide), .int k7]) hT
        have isp : Pk wide mi (k6 - wide, k7) := ⟨by show -wide ≤ k6 - wide; omega, by show k6 - wide ≤ wide; omega, k70, by show k7 ≤ mi - 1; omega⟩
        have hDT := xT _ _ hD7
        have bt : TStay K (upd H7 T (HO.tup [.int (k6 - wide), .int k7])) (upd (upd H7 T (HO.tup [.int (k6 - wide), .int k7])) D (HO.lst (us ++ [V.ref T]))) := ts_lst hDT
        have z9 : z.cps.size ≤ 3 := z3
        refine ⟨_, hDT, sl3 (by omega), us ++ [V.ref T], qs ++ [(k6 - wide, k7)], ?_, ?_, upd_same, ?_, by rw [List.length_append, lu]; rfl, all_snoc oku isp⟩
        · intro b o nb e
          rw [upd_ne (ne_of_none e nD)]
          exact xT _ _ (b67 _ _ nb (bj _ _ nb e))
        · exact (hP7.keep (fun o e => by rw [upd_ne nDp.symm]; exact xT _ _ e) (fun o e => by rw [upd_ne nDc.symm]; exact xT _ _ e)).mono (by omega)
        · rw [map_snoc]
          exact rp_snoc (goP ((bT7.trans (ts_same xT)).trans bt) hU) (.tup (bt _ _ (SqT.of upd_same)) (.cons (.int _) (.cons (.int _) .nil)))
      · rintro H3 ⟨us, qs, bj, hPj, hD, hU, lu, oku⟩
        have lu3 : us.length ≤ 3 := by rw [lu]; exact z3
        refine ⟨D, _, rfl, .inl ⟨SqL.of hD, fun t ht => ?_⟩⟩
        have xt := same_upd (o := HO.tup us) ht
        have hS3 := xt _ _ (bj _ _ nSp hS2)
        refine ⟨S, _, _, rfl, rfl, hS3, sl3 (by omega), ?_⟩
        have bt : TStay K (upd H3 t (HO.tup us)) (upd (upd H3 t (HO.tup us)) S (HO.lst (vs ++ [V.ref t]))) := ts_lst hS3
        have bT3 : TStay K H2 H3 := ts_but hP2.pen bj
        have luq : us.length = qs.length := by rw [hU.len, List.length_map]
        refine ⟨_, vs ++ [V.ref t], rows ++ [qs], rfl, ?_, ?_, upd_same, ?_, by rw [List.length_append, lv]; rfl, all_snoc ok ⟨luq.symm.trans lu, oku⟩⟩
        · intro b o nb e
          rw [upd_ne (ne_of_none e S0)]
          exact xt _ _ (bj _ _ nb (b2 _ _ nb e))
        · exact (hPj.keep (fun o e => by rw [upd_ne nSp.symm]; exact xt _ _ e) (fun o e => by rw [upd_ne nSc.symm]; exact xt _ _ e)).mono (by have : z.cps.size ≤ 3 := z3; omega)
        · rw [map_snoc]
          exact rp_snoc (goR ((bT3.trans (ts_same xt)).trans bt) hV) (.tup (bt _ _ (SqT.of upd_same)) (goP ((ts_same xt).trans bt) hU))
    · rintro σ H2 ⟨v7, vs, rows, rfl, b2, hP2, hS2, hV, lv, ok⟩
      refine ⟨_, rfl, _, rfl, _, rfl, S, _, rfl, .inl ⟨SqL.of hS2, fun t ht => ⟨(by show 3 ≤ sizeLine; decide), fun u hu => ?_⟩⟩⟩
      have xt := same_upd (o := HO.tup vs) ht
      have xu := same_upd (o := HO.tup [V.int b, V.str z, V.ref t]) hu
      have x2 := xt.trans xu
      have hz : z.length ≤ sizeLine := Nat.le_trans (show z.length ≤ 3 from z3) (by decide)
      have lvr : vs.length = rows.length := by rw [hV.len, List.length_map]
      have emi : mi = (rows.length : Int) := by omega
      have hPt := hP2.same xt
      obtain ⟨_, _, _, hpt, _, _⟩ := hPt.ex
      obtain ⟨sd, rp⟩ := pln_made (K := K) b2' b9' hl (by omega) (by omega) (fun qs hqs => (ok qs hqs).1) (fun qs hqs q hq => by
        obtain ⟨h1, h2, h3, h4⟩ := (ok qs hqs).2 q hq
        exact ⟨by omega, by omega, h3, by omega⟩)
      refine q _ u ⟨b, z, rows.map (List.map fun p => [p])⟩ (b2.trans (But.of x2)) ((hP2.same x2).mono (by omega)) (ne_of_none hpt hu).symm ?_ sd rfl rfl (by show ((rows.map (List.map fun p : Int × Int => [p])).length : Int) ≤ most; rw [List.length_map]; omega) (fun cs hcs ps hps p hp => ?_)
      · rw [rp]
        exact .tup (SqT.of upd_same) (.cons (.int b) (.cons (.str z hz) (.cons (.tup (SqT.of (xu _ _ upd_same)) (goR (ts_same x2) hV)) .nil)))
      · obtain ⟨qs, hqs, rfl⟩ := List.mem_map.mp hcs
        obtain ⟨q1, hq1, rfl⟩ := List.mem_map.mp hps
        obtain rfl := List.mem_singleton.mp hp
        have := (ok qs hqs).2 p hq1
        exact ⟨this.lo, this.hi⟩
end
end My
/-! ### rules for the looks at data -/
namespace My
open PySem PySem.Spec PyProof.Rows L2
/-! isinstance of data -/
theorem Rp.tyx {K : PySem.W.Frag} {H : Hp} {x : V} {d : PyData} (h : Rp K H x d) : TyX K H x (.type (kindOf d)) := by
  cases h with
  | non => exact .base .non
  | bl => exact .base (.bl _)
  | int => exact .base (.int _)
  | str => exact .base (.str _)
  | lst h1 _ =>
    rcases h1 with (z | ⟨o, z⟩) | ⟨o, its, n, z, c, _⟩
    · exact .base (.lst z)
    · exact .base (.frz z)
    · exact .kList z c
  | tup h1 _ =>
    rcases h1 with (z | ⟨o, z⟩) | ⟨o, its, n, z, c, _⟩
    · exact .base (.tup z)
    · exact .fTuple z
    · exact .kTuple z c
  | dct h1 => exact .base (.dK h1)
def isInt : PyData → Bool
  | .bool _ => true
  | .int _ => true
  | _ => false
theorem kit_int {K : PySem.W.Frag} (d : PyData) : PySem.W.kitOne K (.type (kindOf d)) (.type "int") = some (isInt d) := by
  cases d with
  | none => exact kit_ty (by decide +kernel : L2.kitB "NoneType" "int" = some false)
  | bool _ => exact kit_ty (by decide +kernel : L2.kitB "bool" "int" = some true)
  | int _ => exact kit_ty (by decide +kernel : L2.kitB "int" "int" = some true)
  | str _ => exact kit_ty (by decide +kernel : L2.kitB "str" "int" = some false)
  | list _ => exact kit_ty (by decide +kernel : L2.kitB "list" "int" = some false)
  | tuple _ => exact kit_ty (by decide +kernel : L2.kitB "tuple" "int" = some false)
  | dict _ => exact kit_ty (by decide +kernel : L2.kitB "dict" "int" = some false)
def isBool : PyData → Bool
  | .bool _ => true
  | _ => false
theorem kit_bool {K : PySem.W.Frag} (d : PyData) : PySem.W.kitOne K (.type (kindOf d)) (.type "bool") = some (isBool d) := by
  cases d with
  | none => exact kit_ty (by decide +kernel : L2.kitB "NoneType" "bool" = some false)
  | bool _ => exact kit_ty (by decide +kernel : L2.kitB "bool" "bool" = some true)
  | int _ => exact kit_ty (by decide +kernel : L2.kitB "int" "bool" = some false)
  | str _ => exact kit_ty (by decide +kernel : L2.kitB "str" "bool" = some false)
  | list _ => exact kit_ty (by decide +kernel : L2.kitB "list" "bool" = some false)
  | tuple _ => exact kit_ty (by decide +kernel : L2.kitB "tuple" "bool" = some false)
  | dict _ => exact kit_ty (by decide +kernel : L2.kitB "dict" "bool" = some false)
def isStr : PyData → Bool
  | .str _ => true
  | _ => false
theorem kit_str {K : PySem.W.Frag} (d : PyData) : PySem.W.kitOne K (.type (kindOf d)) (.type "str") = some (isStr d) := by
  cases d with
  | none => exact kit_ty (by decide +kernel : L2.kitB "NoneType" "str" = some false)
  | bool _ => exact kit_ty (by decide +kernel : L2.kitB "bool" "str" = some false)
  | int _ => exact kit_ty (by decide +kernel : L2.kitB "int" "str" = some false)
  | str _ => exact kit_ty (by decide +kernel : L2.kitB "str" "str" = some true)
  | list _ => exact kit_ty (by decide +kernel : L2.kitB "list" "str" = some false)
  | tuple _ => exact kit_ty (by decide +kernel : L2.kitB "tuple" "str" = some false)
  | dict _ => exact kit_ty (by decide +kernel : L2.kitB "dict" "str" = some false)
def isTup : PyData → Bool
  | .tuple _ => true
  | _ => false
theorem kit_tuple {K : PySem.W.Frag} (d : PyData) : PySem.W.kitOne K (.type (kindOf d)) (.type "tuple") = some (isTup d) := by
  cases d with
  | none => exact kit_ty (by decide +kernel : L2.kitB "NoneType" "tuple" = some false)
  | bool _ => exact kit_ty (by decide +kernel : L2.kitB "bool" "tuple" = some false)
  | int _ => exact kit_ty (by decide +kernel : L2.kitB "int" "tuple" = some false)
  | str _ => exact kit_ty (by decide +kernel : L2.kitB "str" "tuple" = some false)
  | list _ => exact kit_ty (by decide +kernel : L2.kitB "list" "tuple" = some false)
  | tuple _ => exact kit_ty (by decide +kernel : L2.kitB "tuple" "tuple" = some true)
  | dict _ => exact kit_ty (by decide +kernel : L2.kitB "dict" "tuple" = some false)
def isLst : PyData → Bool
  | .list _ => true
  | _ => false
theorem kit_list {K : PySem.W.Frag} (d : PyData) : PySem.W.kitOne K (.type (kindOf d)) (.type "list") = some (isLst d) := by
  cases d with
  | none => exact kit_ty (by decide +kernel : L2.kitB "NoneType" "list" = some false)
  | bool _ => exact kit_ty (by decide +kernel : L2.kitB "bool" "list" = some false)
  | int _ => exact kit_ty (by decide +kernel : L2.kitB "int" "list" = some false)
  | str _ => exact kit_ty (by decide +kernel : L2.kitB "str" "list" = some false)
  | list _ => exact kit_ty (by decide +kernel : L2.kitB "list" "list" = some true)
  | tuple _ => exact kit_ty (by decide +kernel : L2.kitB "tuple" "list" = some false)
  | dict _ => exact kit_ty (by decide +kernel : L2.kitB "dict" "list" = some false)
def isDct : PyData → Bool
  | .dict _ => true
  | _ => false
theorem kit_dict {K : PySem.W.Frag} (d : PyData) : PySem.W.kitOne K (.type (kindOf d)) (.type "dict") = some (isDct d) := by
  cases d with
  | none => exact kit_ty (by decide +kernel : L2.kitB "NoneType" "dict" = some false)
  | bool _ => exact kit_ty (by decide +kernel : L2.kitB "bool" "dict" = some false)
  | int _ => exact kit_ty (by decide +kernel : L2.kitB "int" "dict" = some false)
  | str _ => exact kit_ty (by decide +kernel : L2.kitB "str" "dict" = some false)
  | list _ => exact kit_ty (by decide +kernel : L2.kitB "list" "dict" = some false)
  | tuple _ => exact kit_ty (by decide +kernel : L2.kitB "tuple" "dict" = some false)
  | dict _ => exact kit_ty (by decide +kernel : L2.kitB "dict" "dict" = some true)
/-! x in t, t a tuple of data -/
theorem op_inTD {X : Cx} (hu : X.A.units + 65 < cLine) : OpR X (compareOp .In) (fun x y H Q => ∃ d ds, Dp X.K H x d ∧ Dp X.K H y (.tuple ds) ∧ SeqAt.shaped d = true ∧ SeqAt.shaped (.tuple ds) = true ∧ Q (.bl (ds.any fun z => PyData.eqv z d)) H) := by
  intro pins s σ H x y v u Q I rx ry h
  obtain ⟨d, ds, hd, he, sd, se, q⟩ := h
  obtain ⟨as, r1⟩ := Dp.reads I d x v hd rx
  obtain ⟨bs, r2⟩ := Dp.reads I (.tuple ds) y u he ry
  exact SeqAt.in_tuple_reads r2 r1 (SeqAt.canLay_of_shaped se) (SeqAt.canLay_of_shaped sd) (room_in_shaped sd hu) ⟨.bl _, H, I, rfl, q⟩
/-! len(set(xs)), xs a list of ints -/
def kinds (ns : List Int) : Nat → List Int := PyProof.Rows.firstMet fun i => ns.getD i 0
def tLenSetN (K : PySem.W.Frag) (ta : TE) : TE := fun σ H Q => ta σ H fun x H1 => ∃ (l : Addr) (ns : List Int), x = .ref l ∧ SqL K H1 l (ns.map V.int) ∧ ns.length ≤ 4000 ∧ Q (.int ((kinds ns ns.length).length : Nat)) H1
theorem pe_lenSetN {X : Cx} {a : Expr} {ta : TE} {p p2 q pos : Pos} (hg : Gl X "len") (hm : X.mg "len" = none) (hg2 : Gl X "set") (hm2 : X.mg "set" = none) (ha : PE X a ta) (hc : X.calm = true := by rfl)
    (na : starEach [a] X.env = (false, eval a X.env) :: starEach [] X.env := by rfl) : PE X (.Call (.Name "len" p) [.Call (.Name "set" p2) [a] [] q] [] pos) (tLenSetN X.K ta) := by
  refine ⟨fun pins s σ H Q I h => ?_⟩
  refine Call_ (ld_blt I hg hm boot_len (PyProof.Rows.callWith_builtin1 (PyProof.Rows.args_cons ?_ rfl) rfl rfl))
  refine Call_ (ld_blt I hg2 hm2 boot_set (PyProof.Rows.callWith_type1 (PyProof.Rows.args_cons (thn (ha.run pins s σ H _ I h) fun v s1 z => PyProof.Rows.args_nil ?_) na) na rfl))
  obtain ⟨x, H1, J, r1, l, ns, rfl, hq, hl, q1⟩ := z
  cases r1
  obtain ⟨its, r, pl, hz⟩ := J.list hq
  have same : its.toArray.size = ns.length := by rw [List.size_toArray, ← r.length, List.length_map]
  refine call_set_list (J.ok.hd hc) pl.isList (by simpa using RZ.intsAre_vals r) (by rw [same]; unfold scanBound; omega) fun h' tk hS hk => PyProof.Rows.args_nil ?_
  rw [same] at hS
  obtain ⟨o, es, ep, t, ho, hex, hd, _, _, _, hf, hn⟩ := hS
  have J2 : Inv X pins σ H1 { s1 with heap := h', toks := tk } := J.kept fun b o e => hk b o (Heap.lt_size e) e
  have few : (kinds ns ns.length).length ≤ ns.length := PyProof.Rows.firstMet_length_le (fun i => ns.getD i 0) ns.length
  have hn2 : es.size = (kinds ns ns.length).length := hn
  refine call_len_set ho hex hd hf (by omega) ⟨.int (kinds ns ns.length).length, H1, J2.tok _, ⟨_, by rw [hn2]⟩, q1⟩
/-- as many as there are: none is twice -/
theorem kinds_at {ns : List Int} : ∀ i, i ≤ ns.length → ((kinds ns i).length = i ↔ (ns.take i).Nodup)
  | 0, _ => by simp [kinds, PyProof.Rows.firstMet_zero]
  | i + 1, hi => by
    have ih := @kinds_at ns i (by omega)
    have le : (kinds ns i).length ≤ i := PyProof.Rows.firstMet_length_le (fun i => ns.getD i 0) i
    have hx : ns.getD i 0 = ns[i] := by
      rw [List.getD_eq_getElem?_getD, List.getElem?_eq_getElem (show i < ns.length by omega)]
      rfl
    have pre : (List.range i).map (fun i => ns.getD i 0) = ns.take i := by
      refine List.ext_getElem (by simp; omega) fun j h1 h2 => ?_
      have hj : j < ns.length := by
        rw [List.length_map, List.length_range] at h1
        omega
      rw [List.getElem_map, List.getElem_range, List.getElem_take, List.getD_eq_getElem?_getD, List.getElem?_eq_getElem hj]
      rfl
    have any : (kinds ns i).any (· == ns[i]) = (ns.take i).any (· == ns[i]) := by
      have := PyProof.Rows.firstMet_any (fun i => ns.getD i 0) i ns[i]
      rw [pre] at this
      exact this
    have len : (kinds ns (i + 1)).length = if (kinds ns i).any (· == ns[i]) = true then (kinds ns i).length else (kinds ns i).length + 1 := by
      have e : kinds ns (i + 1) = PyProof.Rows.step_dedup (kinds ns i) (ns.getD i 0) := PyProof.Rows.firstMet_succ (fun i => ns.getD i 0) i
      rw [e, PyProof.Rows.step_length, hx]
    rw [len, any, List.take_succ, List.getElem?_eq_getElem (show i < ns.length by omega)]
    have mem : (ns.take i).any (· == ns[i]) = true ↔ ns[i] ∈ ns.take i := by
      rw [List.any_eq_true]
      constructor
      · rintro ⟨x, hx, e⟩
        rw [beq_iff_eq] at e
        rw [← e]
        exact hx
      · exact fun h => ⟨_, h, beq_self_eq_true _⟩
    have nd : (ns.take i ++ [ns[i]]).Nodup ↔ (ns.take i).Nodup ∧ ¬ ns[i] ∈ ns.take i := by
      rw [List.nodup_append]
      constructor
      · rintro ⟨h1, _, h3⟩
        exact ⟨h1, fun h => h3 _ h _ (List.mem_singleton.mpr rfl) rfl⟩
      · rintro ⟨h1, h2⟩
        refine ⟨h1, by simp, fun a ha b hb e => h2 ?_⟩
        rw [List.mem_singleton.mp hb] at e
        rw [← e]
        exact ha
    show _ ↔ (ns.take i ++ [ns[i]]).Nodup
    rw [nd]
    by_cases h : (ns.take i).any (· == ns[i]) = true
    · rw [if_pos h]
      exact ⟨fun e => by omega, fun e => absurd (mem.mp h) e.2⟩
    · rw [if_neg h]
      have h2 : ¬ ns[i] ∈ ns.take i := fun m => h (mem.mpr m)
      exact ⟨fun e => ⟨ih.mp (by omega), h2⟩, fun e => by rw [ih.mpr e.1]⟩
theorem kinds_all {ns : List Int} : (kinds ns ns.length).length = ns.length ↔ ns.Nodup := by
  have h := kinds_at (ns := ns) ns.length (Nat.le_refl _)
  rw [List.take_length] at h
  exact h
/-! one sign found in the alphabet -/
theorem find_abc (c : Nat) : Txt.find abc ⟨#[c]⟩ = if 97 ≤ c ∧ c ≤ 122 then ((c - 97 : Nat) : Int) else -1 := by
  have there : ∀ n : Nat, n < 26 → Txt.find abc ⟨#[97 + n]⟩ = (n : Int) := by decide +kernel
  by_cases h : 97 ≤ c ∧ c ≤ 122
  · rw [if_pos h]
    have := there (c - 97) (by omega)
    rw [show 97 + (c - 97) = c by omega] at this
    exact this
  · rw [if_neg h]
    have ll : ∀ x ∈ abc.cps.toList, 97 ≤ x ∧ x ≤ 122 := by decide +kernel
    have e := PySem.StrLaws.found_one abc c
    rw [decide_eq_false (fun m => h (ll c m))] at e
    unfold Txt.find
    cases q : Builtin.Str.occurrences abc ⟨#[c]⟩ 0 abc.length 1 with
    | nil => rfl
    | cons a b =>
      rw [q] at e
      cases e
end My
/-! ### the law's own looks at machines: pairs, pays -/
namespace My
open PySem PySem.Spec PyProof.Rows L2 PySem.Builtin.Str
abbrev sXPairs : Stmt := topS 62
theorem scXPairs : FnScope ["machine", "state", "at", "choice"] ["machine", "state", "at"] (defScope sXPairs) := ⟨rfl, rfl, rfl, by decide +kernel, rfl, by decide +kernel, by decide +kernel⟩
abbrev sXPays : Stmt := topS 63
theorem scXPays : FnScope ["machine", "pays", "state", "at", "pay", "after"] ["machine"] (defScope sXPays) := ⟨rfl, rfl, rfl, by decide +kernel, rfl, by decide +kernel, by decide +kernel⟩
structure Lf1 (K : PySem.W.Frag) (mg : Str → Option Value) (x1 x2 : Addr) (y1 y2 : FuncData) : Prop where
  isi : mg "isinstance" = none
  tuple : mg "tuple" = none
  list : mg "list" = none
  range : mg "range" = none
  len : mg "len" = none
  min : mg "min" = none
  max : mg "max" = none
  FXPairs : Fun K "_law_x_pairs" "_law_x_pairs" sXPairs x1 y1
  bXPairs : Binds K y1 ["machine", "state", "at"] []
  gXPairs : mg "_law_x_pairs" = some (.ref x1)
  FXPays : Fun K "_law_x_pays" "_law_x_pays" sXPays x2 y2
  bXPays : Binds K y2 ["machine"] []
  gXPays : mg "_law_x_pays" = some (.ref x2)
theorem pgT {X : Cx} {K : PySem.W.Frag} {es : List Expr} {k : Nat} {pos : Pos} {t : TGs} {n : Nat} (e : X.K = K) (hc : X.calm = true) (h : PGs X es t)
    (hn : (assignEach es X.env).length = n := by rfl) (hst : (assignEach es X.env).findIdx? (·.1) = none := by rfl) : PG X (.Tuple es k pos) (gTup K n t) := by
  subst e
  exact pg_tup hc h hn hst
def spPairs (K : PySem.W.Frag) : Sp := fun vs H Q _ => ∃ (x : V) (d : PyData) (M : Mc) (s : Int) (at_ : Nat), vs = [x, .int s, .int (at_ : Nat)] ∧ Rp K H x d ∧ Side d M ∧ 0 ≤ s ∧ s ≤ (M.C.length : Int) - 1 ∧ at_ < M.z.length ∧
  ∀ H' l zs, Same H H' → H l = none → H' l = some (.lst zs) → RpAll K H' zs ((chP M at_ s).map eP) → Q (.ref l) H'
def spPays (K : PySem.W.Frag) : Sp := fun vs H Q _ => ∃ (x : V) (d : PyData) (M : Mc), vs = [x] ∧ Rp K H x d ∧ Side d M ∧
  ∀ H' t, Same H H' → H t = none → H' t = some (.tup [.int (minL (paysL M)), .int (maxL (paysL M))]) → Q (.ref t) H'
theorem tO_fC (ps : List (Int × Int)) : tO (fC ps) = true := tO_eP _
theorem tO_fS (cs : List (List (Int × Int))) : tO (fS cs) = true := by
  rw [fS, tO]
  exact tOs_map tO_fC cs
theorem tO_fM (M : Mc) : tO (fM M) = true := by
  simp only [fM, tO, tOs, Bool.true_and, Bool.and_true]
  exact tOs_map tO_fS M.C
theorem side_tO {d : PyData} {M : Mc} (h : Side d M) : tO d = true := by
  rcases h.2 with ⟨rfl, _⟩ | ⟨rfl, _⟩
  · exact tO_eM M
  · exact tO_fM M
/-- what stands at the top of a side -/
theorem side_top {K : PySem.W.Frag} {H : Hp} {x : V} {d : PyData} {M : Mc} (h : Side d M) (hx : Rp K H x d) : ∃ a sa xs, x = .ref a ∧ SqT K H a [.int M.b, .str M.z, .ref sa] ∧ SqT K H sa xs ∧ xs.length = M.C.length ∧
    ((d = eM M ∧ RpAll K H xs (M.C.map eS)) ∨ (d = fM M ∧ (∀ cs ∈ M.C, ∀ ps ∈ cs, ps.length = 1) ∧ RpAll K H xs (M.C.map fS))) := by
  rcases h.2 with ⟨rfl, _⟩ | ⟨rfl, _, _, _, one⟩
  · obtain ⟨a, w3, rfl, hS, hC⟩ := hx.three
    obtain ⟨sa, xs, rfl, hS2, hA⟩ := hC.isTup
    exact ⟨a, sa, xs, rfl, hS, hS2, by rw [hA.len, List.length_map], .inl ⟨rfl, hA⟩⟩
  · obtain ⟨a, w3, rfl, hS, hC⟩ := hx.three
    obtain ⟨sa, xs, rfl, hS2, hA⟩ := hC.isTup
    exact ⟨a, sa, xs, rfl, hS, hS2, by rw [hA.len, List.length_map], .inr ⟨rfl, one, hA⟩⟩
/-- a plain machine's pair -/
theorem pl_at {K : PySem.W.Frag} {H : Hp} {xs : List V} {M : Mc} (hM : Mok M) (one : ∀ cs ∈ M.C, ∀ ps ∈ cs, ps.length = 1) (hA : RpAll K H xs (M.C.map fS)) {s : Int} {at_ : Nat} (s0 : 0 ≤ s) (s1 : s ≤ (M.C.length : Int) - 1) (ha : at_ < M.z.length) :
    ∃ ra ys v p, atI xs s = some (.ref ra) ∧ SqT K H ra ys ∧ atI ys (at_ : Int) = some v ∧ Rp K H v (eP p) ∧ chP M at_ s = [p] := by
  have hs : s.toNat < M.C.length := by omega
  obtain ⟨u, hu, r1⟩ := rpAll_get hA (List.getElem?_eq_getElem hs)
  obtain ⟨ra, ys, rfl, hS3, hA3⟩ := r1.isTup
  have ha2 : at_ < M.C[s.toNat].length := by rw [hM.row _ (List.getElem_mem hs)]; exact ha
  obtain ⟨u2, hu2, r2⟩ := rpAll_get hA3 (List.getElem?_eq_getElem ha2)
  have es : ((s.toNat : Nat) : Int) = s := by omega
  have e2 : chP M at_ s = M.C[s.toNat][at_] := by
    unfold chP
    rw [List.getD_eq_getElem?_getD (l := M.C), List.getElem?_eq_getElem hs, Option.getD_some, List.getD_eq_getElem?_getD, List.getElem?_eq_getElem ha2]
    rfl
  have l1 := one _ (List.getElem_mem hs) _ (List.getElem_mem ha2)
  obtain ⟨p, hp⟩ : ∃ p, M.C[s.toNat][at_] = [p] := List.length_eq_one_iff.mp l1
  refine ⟨ra, ys, u2, p, es ▸ atI_nat hu, hS3, atI_nat hu2, ?_, e2.trans hp⟩
  have : fC M.C[s.toNat][at_] = eP p := by rw [hp]; rfl
  rw [← this]
  exact r2
section
variable {P : Program} {w : World} {K : PySem.W.Frag} {mg : Str → Option Value} {base : Heap} {x1 x2 : Addr} {y1 y2 : FuncData}
theorem ok_xPairs (T : Lf1 K mg x1 x2 y1 y2) {k : Nat} : FnOk P w K mg base CX0 (k + 1) x1 y1 ["machine", "state", "at"] (spPairs K) := by
  refine T.FXPairs.ok scXPairs (fun vs H Q E h => ?_) (fun cdv A outer s H vs Q E hr h => ?_)
  · obtain ⟨x, d, M, s, at_, rfl, _⟩ := h
    rfl
  · obtain ⟨x, d, M, s, at_, rfl, hx, hsd, s0, s1, ha, q⟩ := h
    refine ⟨_, (Evl.pss_cut (ps_set (i := 3) scXPairs.nd rfl (.inl rfl) (pe_ix ix_tup (pe_ix ix_tup (pe_ix ix_tup (pv 0) pe_int (fun _ _ => rfl)) (pv 1) (fun _ _ => rfl)) (pv 2) (fun _ _ => rfl)))
 (pss_one (ps_ret (pe_ifExp (pt_val (pe_callB call_isi (by rfl) T.isi (by decide +kernel) (pa_cons (pe_ix ix_tup (pv 3) pe_int (fun _ _ => rfl)) (pa_cons (pe_bltn (v := .ty "tuple") (by rfl) T.tuple (by decide +kernel) rfl) pa_nil)))) (pe_callTy call_list_of (by rfl) T.list (by decide +kernel) (pa_cons (pv 3) pa_nil)) (pe_lst (pa_cons (pv 3) pa_nil)))))), ?_⟩
    have hM := hsd.1.ok
    obtain ⟨a, sa, xs, rfl, hS, hS2, lx, hd⟩ := side_top hsd hx
    rcases hd with ⟨rfl, hA⟩ | ⟨rfl, one, hA⟩
    · obtain ⟨ra, ys, ca, zs, e1, hS3, e2, hS4, hA4⟩ := ch_at hM hA s0 s1 ha
      obtain ⟨p0, hp0⟩ := ch_some hM s0 s1 ha
      obtain ⟨z0, zr, ez⟩ : ∃ z0 zr, zs = z0 :: zr := by
        cases e : zs with
        | nil =>
          have := hA4.len
          rw [e, List.length_map, List.length_nil] at this
          have := List.length_pos_of_mem hp0
          omega
        | cons z0 zr => exact ⟨z0, zr, rfl⟩
      obtain ⟨q0, hq0, rq⟩ := rpAll_back hA4 (i := 0) (v := z0) (by rw [ez]; rfl)
      refine ⟨fun σ H1 => σ = [some (.ref a), some (.int s), some (.int (at_ : Nat)), some (.ref ca)] ∧ H1 = H, ?_, ?_⟩
      · exact ⟨_, rfl, a, _, 2, _, rfl, rfl, hS, rfl, _, rfl, sa, xs, s, _, rfl, rfl, hS2, e1, _, rfl, ra, ys, _, _, rfl, rfl, hS3, e2, rfl, rfl⟩
      rintro σ H1 ⟨rfl, rfl⟩
      refine ⟨_, rfl, ca, zs, 0, z0, rfl, rfl, hS4, (by rw [ez]; exact atI_nat (j := 0) rfl), z0, _, _, _, _, rfl, .ty _, rq.tyx, kit_tuple _, _, rfl, ?_⟩
      refine iteT ⟨_, rfl, ca, zs, rfl, .inr hS4, fun l hl => ?_⟩
      exact q _ l zs (same_upd hl) hl upd_same (goP (ts_same (same_upd hl)) hA4)
    · obtain ⟨ra, ys, v, p, e1, hS3, e2, rv, ec⟩ := pl_at hM one hA s0 s1 ha
      obtain ⟨pa, rfl, hS5⟩ := rv.pair
      refine ⟨fun σ H1 => σ = [some (.ref a), some (.int s), some (.int (at_ : Nat)), some (.ref pa)] ∧ H1 = H, ?_, ?_⟩
      · exact ⟨_, rfl, a, _, 2, _, rfl, rfl, hS, rfl, _, rfl, sa, xs, s, _, rfl, rfl, hS2, e1, _, rfl, ra, ys, _, _, rfl, rfl, hS3, e2, rfl, rfl⟩
      rintro σ H1 ⟨rfl, rfl⟩
      refine ⟨_, rfl, pa, _, 0, _, rfl, rfl, hS5, rfl, _, _, _, _, _, rfl, .ty _, (Rp.int (K := K) (H := H1) p.1).tyx, kit_tuple _, _, rfl, ?_⟩
      refine iteF ⟨_, rfl, (by show 1 ≤ sizeLine; decide), fun l hl => ?_⟩
      refine q _ l _ (same_upd hl) hl upd_same ?_
      rw [ec]
      exact .cons (rp_ts (ts_same (same_upd hl)) rv (tO_eP p)) .nil
theorem ok_xPays (T : Lf1 K mg x1 x2 y1 y2) {k : Nat} : FnOk P w K mg base CX0 (k + 2) x2 y2 ["machine"] (spPays K) := by
  have GP : FnOk P w K mg base CX0 (k + 1) x1 y1 ["machine", "state", "at"] (spPairs K) := ok_xPairs T
  refine T.FXPays.ok scXPays (fun vs H Q E h => ?_) (fun cdv A outer s H vs Q E hr h => ?_)
  · obtain ⟨x, d, M, rfl, _⟩ := h
    rfl
  · obtain ⟨x, d, M, rfl, hx, hsd, q⟩ := h
    refine ⟨_, (Evl.pss_cut (ps_set (i := 1) scXPays.nd rfl (.inl rfl) (pe_lst pa_nil))
 (Evl.pss_cut (ps_for PassesOwn.never rfl (pi_range1 (by rfl) T.range (pa_cons (pe_callB call_len_seq (by rfl) T.len PySem.boot_len (pa_cons (pe_ix ix_tup (pv 0) pe_int (fun _ _ => rfl)) pa_nil)) pa_nil)) (pg_name (i := 2) scXPays.nd rfl (.inl rfl))
 (pss_one (ps_for PassesOwn.never rfl (pi_range1 (by rfl) T.range (pa_cons (pe_callB call_len_str (by rfl) T.len PySem.boot_len (pa_cons (pe_ix ix_tup (pv 0) pe_int (fun _ _ => rfl)) pa_nil)) pa_nil)) (pg_name (i := 3) scXPays.nd rfl (.inl rfl))
 (pss_one (ps_set (i := 1) scXPays.nd rfl (.inl rfl) (pe_op op_cat (pv 1) (pe_lc (own := [("pay", 4), ("after", 5)]) (g := gTup K 2 (gCons (gName 4) (gCons (gName 5) gNil))) (tt := tYes) (by rfl) scXPays.nd (pi_list (pe_call GP hr (by rfl) T.gXPairs T.FXPairs.kp T.bXPairs .nil pass0 (pa_cons (pv 0) (pa_cons (pv 2) (pa_cons (pv 3) pa_nil))))) (blkOk_by (N := ["machine", "pays", "state", "at", "pay", "after"]) (sc := defScope sXPays) (by decide +kernel)) (fun _ _ _ _ _ => pgT (K := K) rfl rfl (pgs_cons (pg_name (i := 4) scXPays.nd rfl (Or.inl rfl)) (pgs_cons (pg_name (i := 5) scXPays.nd rfl (Or.inl rfl)) pgs_nil))) (fun _ _ _ _ _ => pts_nil) (fun _ _ _ _ _ => (pv 4)))))))))
 (pss_one (ps_ret (pe_tup (pa_cons (pe_callB (cr_min rfl) (by rfl) T.min (by decide +kernel) (pa_cons (pv 1) pa_nil)) (pa_cons (pe_callB (cr_max rfl) (by rfl) T.max (by decide +kernel) (pa_cons (pv 1) pa_nil)) pa_nil))))))), ?_⟩
    have hM := hsd.1.ok
    obtain ⟨a, sa, xs, rfl, hS, hS2, lx, hd⟩ := side_top hsd hx
    have lz := ltr_pos hM.ltr
    have lc := hM.c1
    have lc5 := hsd.1.few
    have zsl : M.z.length ≤ sizeLine := Nat.le_trans lz.2 (by decide)
    have big : ∀ (i j : Nat) (cs : List (List (Int × Int))), M.C[i]? = some cs → ((M.C.take i).flatMap fun cs => cs.flatMap fun ps => ps.map (·.1)).length + ((cs.take j).flatMap fun ps => ps.map (·.1)).length ≤ 2000 := fun i j cs hcs => by
      have f1 : ∀ cs ∈ M.C, ∀ l : List (List (Int × Int)), (∀ q ∈ l, q ∈ cs) → (l.flatMap fun ps => ps.map (·.1)).length ≤ 3 * l.length := fun cs hcs l hl => flat_len l fun ps hps => by
        rw [List.length_map]
        exact (hM.ch cs hcs ps (hl ps hps)).2
      have f2 := flat_len (g := fun cs : List (List (Int × Int)) => cs.flatMap fun ps => ps.map (·.1)) (n := 9) (M.C.take i) fun cs hcs => by
        have h1 := f1 cs (List.mem_of_mem_take hcs) cs fun _ z => z
        have h2 := hM.row cs (List.mem_of_mem_take hcs)
        omega
      have mcs := List.mem_of_getElem? hcs
      have f3 := f1 cs mcs (cs.take j) fun q hq => List.mem_of_mem_take hq
      have f5 := hM.row cs mcs
      have g1 := List.length_take_le' i M.C
      have g2 := List.length_take_le' j cs
      omega
    refine ⟨fun σ H1 => ∃ l, σ = [some (.ref a), some (.ref l), none, none, none, none] ∧ Same H H1 ∧ H1 l = some (.lst []), ?_, ?_⟩
    · exact ⟨(by show 0 ≤ sizeLine; decide), fun l hl => ⟨l, rfl, same_upd hl, upd_same⟩⟩
    rintro σ H1 ⟨l0, rfl, s1, hl0⟩
    refine ⟨fun σ H2 => ∃ l v2 v3, σ = [some (.ref a), some (.ref l), v2, v3, none, none] ∧ Same H H2 ∧ H2 l = some (.lst ((paysL M).map V.int)), ?_, ?_⟩
    · refine ⟨_, rfl, a, _, 2, _, rfl, rfl, same_tup s1 hS, rfl, sa, xs, rfl, .inr (same_tup s1 hS2), _, rfl, by omega, by omega, ?_⟩
      refine for_range (lo := 0) (n := (xs.length : Int).toNat) (fun i σ H2 => ∃ l v2 v3, σ = [some (.ref a), some (.ref l), v2, v3, none, none] ∧ Same H H2 ∧ H2 l = some (.lst (((M.C.take i).flatMap fun cs => cs.flatMap fun ps => ps.map (·.1)).map V.int))) ⟨l0, none, none, rfl, s1, hl0⟩ ?_ ?_
      · rintro i σ H2 hi ⟨l, v2, v3, rfl, s2, hl⟩
        have hi2 : i < M.C.length := by omega
        have hcs : M.C[i]? = some M.C[i] := List.getElem?_eq_getElem hi2
        have row := hM.row _ (List.getElem_mem hi2)
        generalize M.C[i] = cs at hcs row
        refine ⟨_, rfl, a, _, 1, _, rfl, rfl, same_tup s2 hS, rfl, M.z, rfl, zsl, _, rfl, by omega, by omega, ?_⟩
        refine for_range (lo := 0) (n := (M.z.length : Int).toNat) (fun j σ H3 => ∃ l v3, σ = [some (.ref a), some (.ref l), some (.int (0 + (i : Int))), v3, none, none] ∧ Same H H3 ∧ H3 l = some (.lst ((((M.C.take i).flatMap fun cs => cs.flatMap fun ps => ps.map (·.1)) ++ ((cs.take j).flatMap fun ps => ps.map (·.1))).map V.int))) ⟨l, v3, rfl, s2, by rw [hl]; simp⟩ ?_ ?_
        · rintro j σ H3 hj ⟨l, v3, rfl, s3, hl⟩
          have hj2 : j < M.z.length := by omega
          have hps : cs[j]? = some (cs[j]'(by omega)) := List.getElem?_eq_getElem _
          have ec : chP M j (0 + (i : Int)) = cs[j]'(by omega) := by
            unfold chP
            rw [show (0 + (i : Int)).toNat = i by omega, List.getD_eq_getElem?_getD (l := M.C), hcs, Option.getD_some, List.getD_eq_getElem?_getD, hps]
            rfl
          have b1 := big i (j + 1) cs hcs
          have b0 := big i j cs hcs
          have tk := take_flat (g := fun ps : List (Int × Int) => ps.map (·.1)) hps
          have ch3 := (hM.ch cs (List.mem_of_getElem? hcs) _ (List.getElem_mem (show j < cs.length by omega))).2
          generalize cs[j]'(by omega) = ps at hps ec tk ch3
          rw [tk, List.length_append, List.length_map] at b1
          have sl : ∀ {m : Nat}, m ≤ 2000 → m < sizeLine := fun h => Nat.lt_of_le_of_lt h (by decide)
          refine ⟨_, rfl, _, rfl, _, rfl, _, rfl, .ref a, _, M, 0 + (i : Int), j, (by show [V.ref a, V.int (0 + (i : Int)), V.int (0 + (j : Int))] = [V.ref a, V.int (0 + (i : Int)), V.int (j : Int)]; rw [Int.zero_add (j : Int)]), hx.go s3, hsd, by omega, by omega, hj2, fun H4 zl zs s4 nz hz hZ => ?_⟩
          rw [ec] at hZ
          have lzs : zs.length = ps.length := by rw [hZ.len, List.length_map]
          refine ⟨zl, rfl, ⟨_, SqL.of hz⟩, fun D nD => ?_⟩
          refine lc_lstO (K := K) (xs := zs) (fun m H5 => Same H4 H5 ∧ H5 D = some (.lst ((ps.take m).map fun p => V.int p.1))) ⟨same_upd nD, upd_same⟩ (fun m H5 h => SqL.of (h.1 _ _ hz)) ?_ ?_
          · rintro m u H5 hu ⟨s5, hD⟩
            obtain ⟨p, hp, rp⟩ := rpAll_back hZ hu
            obtain ⟨pa, rfl, hSp⟩ := rp.pair
            refine ⟨pa, _, rfl, same_tup s5 hSp, rfl, _, _, rfl, _, _, rfl, rfl, rfl, _, rfl, _, hD, ?_, same_new s5 nD, ?_⟩
            · rw [List.length_map]
              have := List.length_take_le' m ps
              exact sl (by omega)
            · rw [upd_same, List.take_succ, hp, List.map_append]
              rfl
          · rintro H5 ⟨s5, hD⟩
            rw [lzs, List.take_length] at hD
            have s45 := s4.trans s5
            refine ⟨l, D, _, _, rfl, rfl, s45 _ _ hl, hD, ?_, fun N hN => ?_⟩
            · rw [List.length_map, List.length_map, List.length_append]
              exact Nat.le_of_lt (sl (by omega))
            refine ⟨N, _, rfl, (s3.trans s45).trans (same_upd hN), ?_⟩
            rw [upd_same, tk]
            simp
        · rintro σ H3 ⟨l, v3, rfl, s3, hl⟩
          refine ⟨l, _, v3, rfl, s3, ?_⟩
          have row2 := row
          rw [hl, show (M.z.length : Int).toNat = cs.length by omega, List.take_length, take_flat hcs]
      · rintro σ H2 ⟨l, v2, v3, rfl, s2, hl⟩
        refine ⟨l, v2, v3, rfl, s2, ?_⟩
        rw [hl, show (xs.length : Int).toNat = M.C.length by omega, List.take_length]
        rfl
    · rintro σ H2 ⟨l, v2, v3, rfl, s2, hl⟩
      have pos : 0 < (paysL M).length := List.length_pos_iff.mpr (pays_ne hM)
      refine ⟨_, rfl, l, _, rfl, SqL.of hl, pos, fun n hn le => ?_⟩
      refine ⟨_, rfl, l, _, rfl, SqL.of hl, pos, fun m hm ge => ⟨(by show 2 ≤ sizeLine; decide), fun t ht => ?_⟩⟩
      refine q _ t (s2.trans (same_upd ht)) (s2.free ht) ?_
      rw [upd_same, maxL_eq hm ge, minL_eq hn le]
end
end My
/-! ### a state, or None -/
namespace My
open PySem PySem.Spec PyProof.Rows L2
def stV : Option Int → V
  | some i => .int i
  | none => .non
end My
/-! ### the law's rule -/
namespace My
open PySem PySem.Spec PyProof.Rows L2
abbrev sXRule : Stmt := topS 61
theorem scXRule : FnScope ["pen", "letters", "most", "many", "states", "state", "row", "letter", "after"] ["pen", "letters", "most"] (defScope sXRule) := ⟨rfl, rfl, rfl, by decide +kernel, rfl, by decide +kernel, by decide +kernel⟩
structure RulTxt (K : PySem.W.Frag) (mg : Str → Option Value) (x2 : Addr) (y2 : FuncData) : Prop where
  range : mg "range" = none
  len : mg "len" = none
  tuple : mg "tuple" = none
  FXRule : Fun K "_law_x_rule" "_law_x_rule" sXRule x2 y2
  bXRule : Binds K y2 ["pen", "letters", "most"] []
  gXRule : mg "_law_x_rule" = some (.ref x2)
def stD : Option Int → PyData
  | some i => .int i
  | none => .none
theorem letters_pos {z : Str} (h : lettersL z.cps.toList = true) : 0 < z.length := by
  have e : z.cps.toList.length = z.length := Array.length_toList
  rw [← e]
  cases l : z.cps.toList with
  | nil => rw [l] at h; cases h
  | cons a b => exact Nat.succ_pos _
theorem but_none {p a : Addr} {H H' : Hp} (b : But p H H') (n : a ≠ p) (e : H' a = none) : H a = none := by
  cases h : H a with
  | none => rfl
  | some o => exact absurd ((b a o n h).symm.trans e) (by simp)
/-- a row of a rule's table -/
structure RowOk (n m : Nat) (r : List (Option Int)) : Prop where
  len : r.length = n
  has : ∃ x ∈ r, x ≠ none
  range : ∀ i, some i ∈ r → 0 ≤ i ∧ i < (m : Int)
def rowsD (rows : List (List (Option Int))) : List PyData := rows.map fun r => .tuple (r.map stD)
theorem rulD_rows {z : Str} {rows : List (List (Option Int))} (hl : lettersL z.cps.toList = true) (h1 : 1 ≤ rows.length) (h2 : rows.length ≤ 4) (h : ∀ r ∈ rows, RowOk z.length rows.length r) : rulD (.tuple [.str z, .tuple (rowsD rows)]) = true := by
  have ln : (rowsD rows).length = rows.length := List.length_map ..
  rw [rulD, Bool.and_eq_true, Bool.and_eq_true, tabD, Bool.and_eq_true, List.all_eq_true, List.all_eq_true]
  refine ⟨hl, ⟨?_, fun e he => ?_⟩, fun e he => ?_⟩
  · rw [tupD, Bool.and_eq_true, decide_eq_true_eq, decide_eq_true_eq, ln]
    omega
  · obtain ⟨r, hr, rfl⟩ := List.mem_map.mp he
    rw [tupD, Bool.and_eq_true, decide_eq_true_eq, decide_eq_true_eq, List.length_map, (h r hr).len]
    exact ⟨Int.le_refl _, Int.le_refl _⟩
  · obtain ⟨r, hr, rfl⟩ := List.mem_map.mp he
    rw [wayD, Bool.and_eq_true, List.all_eq_true, decide_eq_true_eq, ln]
    refine ⟨?_, fun d hd => ?_⟩
    · obtain ⟨x, hx, hn⟩ := (h r hr).has
      cases x with
      | none => exact absurd rfl hn
      | some i =>
        have : PyData.int i ∈ (r.map stD).filter someD := List.mem_filter.mpr ⟨List.mem_map.mpr ⟨some i, hx, rfl⟩, rfl⟩
        have := List.length_pos_of_mem this
        omega
    · obtain ⟨hd1, hd2⟩ := List.mem_filter.mp hd
      obtain ⟨x, hx, rfl⟩ := List.mem_map.mp hd1
      cases x with
      | none => cases hd2
      | some i =>
        have := (h r hr).range i hx
        show betD 0 _ (.int i) = true
        rw [betD, Bool.and_eq_true, decide_eq_true_eq, decide_eq_true_eq]
        omega
/-- the tuples of rows stand -/
inductive RowsAt (p : Addr) (H : Hp) : List Addr → List (List (Option Int)) → Prop
  | nil : RowsAt p H [] []
  | cons {t : Addr} {r : List (Option Int)} {ts : List Addr} {rows : List (List (Option Int))} : (t ≠ p ∧ H t = some (.tup (r.map stV))) → RowsAt p H ts rows → RowsAt p H (t :: ts) (r :: rows)
theorem RowsAt.go {p : Addr} {H H' : Hp} {ts : List Addr} {rows : List (List (Option Int))} (h : RowsAt p H ts rows) (g : ∀ (t : Addr) (r : List (Option Int)), t ≠ p → H t = some (.tup (r.map stV)) → H' t = some (.tup (r.map stV))) : RowsAt p H' ts rows := by
  induction h with
  | nil => exact .nil
  | cons a _ ih => exact .cons ⟨a.1, g _ _ a.1 a.2⟩ ih
theorem RowsAt.snoc {p : Addr} {H : Hp} {ts : List Addr} {rows : List (List (Option Int))} (h : RowsAt p H ts rows) {t : Addr} {r : List (Option Int)} (n : t ≠ p) (e : H t = some (.tup (r.map stV))) : RowsAt p H (ts ++ [t]) (rows ++ [r]) := by
  induction h with
  | nil => exact .cons ⟨n, e⟩ .nil
  | cons a _ ih => exact .cons a ih
theorem rs_st {p : Addr} {K : PySem.W.Frag} {H : Hp} (x : Option Int) : Rs p K H (stV x) (stD x) := by
  cases x with
  | none => exact rs_non
  | some i => exact rs_int i
theorem RowsAt.rs {p : Addr} {K : PySem.W.Frag} {H : Hp} {ts : List Addr} {rows : List (List (Option Int))} (h : RowsAt p H ts rows) : RsAll p K H (ts.map V.ref) (rowsD rows) := by
  induction h with
  | nil => exact rsNil
  | cons a _ ih => exact RsAll.cons (rs_tup a.1 a.2 (rsAll_of fun x _ => rs_st x)) ih
def spXRule (K : PySem.W.Frag) : Sp := fun vs H Q _ => ∃ (p : Addr) (n : Nat) (z : Str) (most : Int), vs = [.ref p, .str z, .int most] ∧ Pen H p n ∧ n < 1047000 ∧ lettersL z.cps.toList = true ∧ 1 ≤ most ∧ most ≤ 4 ∧
  ∀ (H' : Hp) (t : Addr) (rows : List (List (Option Int))), But p H H' → Pen H' p (n + 45) → Rs p K H' (.ref t) (.tuple [.str z, .tuple (rowsD rows)]) → rulD (.tuple [.str z, .tuple (rowsD rows)]) = true → 1 ≤ rows.length → (rows.length : Int) ≤ most → (∀ r ∈ rows, RowOk z.length rows.length r) → Q (.ref t) H'
section
variable {P : Program} {w : World} {K : PySem.W.Frag} {mg : Str → Option Value} {base : Heap} {f1 f2 f3 f4 : Addr} {d1 d2 d3 d4 : FuncData} {x2 : Addr} {y2 : FuncData}
theorem ok_xRule (TP : PenTxt K mg f1 f2 f3 f4 d1 d2 d3 d4) (T : RulTxt K mg x2 y2) {k : Nat} : FnOk P w K mg base CX0 (k + 4) x2 y2 ["pen", "letters", "most"] (spXRule K) := by
  have GT : FnOk P w K mg base CX0 (k + 3) f3 d3 ["pen", "many"] spTake := ok_take TP (k := k + 1)
  have GTC : FnOk P w K mg base CX0 (k + 3) f3 d3 ["pen", "many"] spTakeC := ok_takeC TP (k := k + 1)
  have GP : FnOk P w K mg base CX0 (k + 3) f4 d4 ["pen", "some"] (spPickC K) := ok_pickC TP (k := k)
  refine T.FXRule.ok scXRule (fun vs H Q E h => ?_) (fun cdv A outer s H vs Q E hr h => ?_)
  · obtain ⟨p, n, z, most, rfl, _⟩ := h
    rfl
  · obtain ⟨p, n, z, most, rfl, hP, hn, hl, m1, m4, q⟩ := h
    refine ⟨_, (Evl.pss_cut (ps_asg (pe_tup (pa_cons (pe_op op_add pe_int (pe_call GTC hr (by rfl) TP.gTake TP.FTake.kp TP.bTake .nil pass0 (pa_cons (pv 0) (pa_cons (pv 2) pa_nil)))) (pa_cons (pe_lst pa_nil) pa_nil))) (pg_tup rfl (pgs_cons (pg_name (i := 3) scXRule.nd rfl (.inr rfl)) (pgs_cons (pg_name (i := 4) scXRule.nd rfl (.inl rfl)) pgs_nil))))
 (pss_cons (ps_for PassesOwn.never rfl (pi_range1 (by rfl) T.range (pa_cons (pv 3) pa_nil)) (pg_name (i := 5) scXRule.nd rfl (.inl rfl))
 (Evl.pss_cut (ps_setLc (i := 6) (own := [("letter", 7)]) (g := gName 7) (tt := tYes) (by rfl) scXRule.nd rfl rfl (sw_true rfl rfl rfl (by decide +kernel)) (pi_str (pv 1)) (blkOk_by (N := ["pen", "letters", "most", "many", "states", "state", "row", "letter", "after"]) (sc := defScope sXRule) (by decide +kernel)) (fun _ _ _ _ _ => pg_name (i := 7) scXRule.nd rfl (Or.inl rfl)) (fun _ _ _ _ _ => pts_nil) (fun _ _ _ _ _ => (pe_call GP hr (by rfl) TP.gPick TP.FPick.kp TP.bPick .nil pass0 (pa_cons (pv 0) (pa_cons (pe_lst (pa_cons pe_non (pa_cons (pe_call GTC hr (by rfl) TP.gTake TP.FTake.kp TP.bTake .nil pass0 (pa_cons (pv 0) (pa_cons (pv 3) pa_nil))) (pa_cons (pe_call GTC hr (by rfl) TP.gTake TP.FTake.kp TP.bTake .nil pass0 (pa_cons (pv 0) (pa_cons (pv 3) pa_nil))) pa_nil)))) pa_nil)))))
 (Evl.pss_cut (ps_if (pt_cmpR op_notIn_seq pe_bl (pe_lc (own := [("after", 8)]) (g := gName 8) (tt := tYes) (by rfl) scXRule.nd (pi_list (pv 6)) (blkOk_by (N := ["pen", "letters", "most", "many", "states", "state", "row", "letter", "after"]) (sc := defScope sXRule) (by decide +kernel)) (fun _ _ _ _ _ => pg_name (i := 8) scXRule.nd rfl (Or.inl rfl)) (fun _ _ _ _ _ => pts_nil) (fun _ _ _ _ _ => (pe_cmpR op_isN (pv 8) pe_non (nomark _)))) (by rfl)) (pss_one (ps_asg (pe_call GTC hr (by rfl) TP.gTake TP.FTake.kp TP.bTake .nil pass0 (pa_cons (pv 0) (pa_cons (pv 3) pa_nil))) (pg_sub (pv 6) (pe_call GTC hr (by rfl) TP.gTake TP.FTake.kp TP.bTake .nil pass0 (pa_cons (pv 0) (pa_cons (pe_callB call_len_seq (by rfl) T.len PySem.boot_len (pa_cons (pv 6) pa_nil)) pa_nil))) set_list))) pss_nil)
 (pss_one (ps_expr (pe_bm PySem.F.plainAttrs_list PySem.F.slot_list_append PySem.F.type_list_append mt_append (pv 4) (pa_cons (pe_callTy call_tuple_of (by rfl) T.tuple (by decide +kernel) (pa_cons (pv 6) pa_nil)) pa_nil)))))))
 (pss_one (ps_ret (pe_tup (pa_cons (pv 1) (pa_cons (pe_callTy call_tuple_of (by rfl) T.tuple (by decide +kernel) (pa_cons (pv 4) pa_nil)) pa_nil))))))), ?_⟩
    obtain ⟨c, hP⟩ := hP.at
    have z3 : z.cps.size ≤ 3 := ltrD_len (d := .str z) hl
    have sl3 : ∀ {m : Nat}, m ≤ 3 → m < sizeLine := fun h => Nat.lt_of_le_of_lt h (by decide)
    refine ⟨fun σ H' => ∃ (mi : Int) (S : Addr), σ = [some (.ref p), some (.str z), some (.int most), some (.int mi), some (.ref S), none, none, none, none] ∧ 1 ≤ mi ∧ mi ≤ most ∧ But p H H' ∧ PenC H' p c (n + 1) ∧ H' S = some (.lst []) ∧ S ≠ p ∧ S ≠ c ∧ H S = none, ?_, ?_⟩
    · refine ⟨_, rfl, _, rfl, p, c, most, n, rfl, hP, by omega, by omega, log_small (m := 4) (by omega) (by decide), fun H1 k1 b1 hP1 k10 k11 => ⟨_, _, rfl, rfl, (by show 0 ≤ sizeLine; decide), fun S hS => ⟨(by show 2 ≤ sizeLine; decide), fun t ht => ?_⟩⟩⟩
      have x1 := same_upd (o := HO.lst []) hS
      have x2 := same_upd (o := HO.tup [.int (1 + k1), .ref S]) ht
      obtain ⟨c1, _, _, hp1, hc1, _⟩ := hP1.ex
      refine ⟨t, _, rfl, SqT.of upd_same, rfl, _, _, rfl, _, _, rfl, rfl, 1 + k1, S, rfl, by omega, by omega, b1.trans (But.of (x1.trans x2)), hP1.keep (fun o e => (x1.trans x2) _ _ e) (fun o e => (x1.trans x2) _ _ e), x2 _ _ upd_same, (ne_of_none hp1 hS).symm, (ne_of_none hc1 hS).symm, but_none b1 (ne_of_none hp1 hS).symm hS⟩
    rintro σ H1 ⟨mi, S, rfl, i1, i4, b1, hP1, hS, nSp, nSc, S0⟩
    refine ⟨_, rfl, _, rfl, by omega, by omega, ?_⟩
    have lift : ∀ {i : Nat} {v5 v6 : Option V}, True := trivial
    refine for_range (lo := 0) (n := mi.toNat) (fun i σ H' => ∃ v5 v6 ts rows, σ = [some (.ref p), some (.str z), some (.int most), some (.int mi), some (.ref S), v5, v6, none, none] ∧ But p H H' ∧ PenC H' p c (n + 1 + 11 * i) ∧ H' S = some (.lst (ts.map V.ref)) ∧ RowsAt p H' ts rows ∧ rows.length = i ∧ ts.length = i ∧ ∀ r ∈ rows, RowOk z.length mi.toNat r)
      ⟨none, none, [], [], rfl, b1, hP1, hS, .nil, rfl, rfl, fun _ h => nomatch h⟩ ?_ ?_
    · rintro i σ H2 hi ⟨v5, v6, ts, rows, rfl, b2, hP2, hS2, hR, lr, lt, ok⟩
      -- row
      refine ⟨fun σ H' => ∃ (R : Addr) (r : List (Option Int)), σ = [some (.ref p), some (.str z), some (.int most), some (.int mi), some (.ref S), some (.int (0 + (i : Int))), some (.ref R), none, none] ∧ But p H H' ∧ PenC H' p c (n + 1 + 11 * i + 9) ∧ H' S = some (.lst (ts.map V.ref)) ∧ RowsAt p H' ts rows ∧ H' R = some (.lst (r.map stV)) ∧ r.length = z.length ∧ (∀ j, some j ∈ r → 0 ≤ j ∧ j < mi) ∧ R ≠ p ∧ R ≠ S ∧ R ≠ c ∧ H R = none, ?_, ?_⟩
      · refine ⟨_, rfl, z, rfl, fun D nD => ?_⟩
        obtain ⟨_, _, _, hp2, hc2, _⟩ := hP2.ex
        have nDp : D ≠ p := (ne_of_none hp2 nD).symm
        have nDc : D ≠ c := (ne_of_none hc2 nD).symm
        have nDS : D ≠ S := (ne_of_none hS2 nD).symm
        refine lc_it walk_str (fun j H' => ∃ r : List (Option Int), But p H2 H' ∧ PenC H' p c (n + 1 + 11 * i + 3 * j) ∧ H' D = some (.lst (r.map stV)) ∧ r.length = j ∧ (∀ j, some j ∈ r → 0 ≤ j ∧ j < mi)) ⟨[], But.of (same_upd nD), hP2.keep (fun o e => same_upd nD _ _ e) (fun o e => same_upd nD _ _ e), upd_same, rfl, fun _ h => nomatch h⟩ (fun _ _ _ _ => trivial) ?_ ?_
        · rintro j u H' H3 hj ⟨r, bj, hPj, hD, lj, rj⟩ ⟨rfl, cc, hcc, rfl⟩
          refine ⟨rfl, ?_⟩
          refine ⟨_, rfl, _, rfl, _, rfl, p, c, mi, _, rfl, hPj, by omega, by omega, log_small (m := 4) (by omega) (by decide), fun Ha ka ba hPa ka0 ka1 => ?_⟩
          refine ⟨_, rfl, _, rfl, p, c, mi, _, rfl, hPa, by omega, by omega, log_small (m := 4) (by omega) (by decide), fun Hb kb bb hPb kb0 kb1 => ⟨(by show 3 ≤ sizeLine; decide), fun L hL => ?_⟩⟩
          have xL := same_upd (o := HO.lst [V.non, .int ka, .int kb]) hL
          obtain ⟨_, _, _, hpb, hcb, _⟩ := hPb.ex
          refine ⟨p, c, L, _, _, rfl, hPb.keep (fun o e => xL _ _ e) (fun o e => xL _ _ e), by omega, SqL.of upd_same, (ne_of_none hpb hL).symm, (by show 0 < 3; decide), (by show 3 ≤ 1000; decide), fun Hc m v bc hPc hm => ?_⟩
          have bD : But p H3 Hc := (ba.trans bb).trans ((But.of xL).trans bc)
          have hv : ∃ x : Option Int, v = stV x ∧ ∀ j, x = some j → 0 ≤ j ∧ j < mi := by
            match m, hm with
            | 0, hm => exact ⟨none, (Option.some.inj hm).symm, fun _ e => nomatch e⟩
            | 1, hm => exact ⟨some ka, (Option.some.inj hm).symm, fun j e => by cases e; exact ⟨ka0, ka1⟩⟩
            | 2, hm => exact ⟨some kb, (Option.some.inj hm).symm, fun j e => by cases e; exact ⟨kb0, kb1⟩⟩
            | m + 3, hm => exact absurd hm (by simp)
          obtain ⟨x, rfl, hx⟩ := hv
          refine ⟨_, bD _ _ nDp hD, ?_, r ++ [x], ?_, ?_, ?_, ?_, ?_⟩
          · rw [List.length_map, lj]
            exact sl3 (by omega)
          · intro b o nb e
            rw [upd_ne (ne_of_none e nD)]
            exact bD _ _ nb (bj _ _ nb e)
          · have hk : n + 1 + 11 * i + 3 * (j + 1) = n + 1 + 11 * i + 3 * j + 1 + 1 + 1 := by omega
            rw [hk]
            exact hPc.keep (fun o e => by rw [upd_ne nDp.symm]; exact e) (fun o e => by rw [upd_ne nDc.symm]; exact e)
          · rw [upd_same, List.map_append]
            rfl
          · rw [List.length_append, lj]
            rfl
          · intro j hj
            rcases List.mem_append.mp hj with h | h
            · exact rj j h
            · exact hx j (List.mem_singleton.mp h).symm
        · rintro H' ⟨r, bj, hPj, hD, lj, rj⟩
          refine ⟨D, r, rfl, b2.trans bj, hPj.mono (by omega), bj _ _ nSp hS2, hR.go fun t _ nt e => bj _ _ nt e, hD, lj, rj, nDp, nDS, nDc, but_none b2 nDp nD⟩
      rintro σ H3 ⟨R, r, rfl, b3, hP3, hS3, hR3, hr3, lr3, rg, nRp, nRS, nRc, R0⟩
      -- one that lets a letter by
      refine ⟨fun σ H' => ∃ (R : Addr) (r : List (Option Int)), σ = [some (.ref p), some (.str z), some (.int most), some (.int mi), some (.ref S), some (.int (0 + (i : Int))), some (.ref R), none, none] ∧ But p H H' ∧ PenC H' p c (n + 1 + 11 * i + 11) ∧ H' S = some (.lst (ts.map V.ref)) ∧ RowsAt p H' ts rows ∧ H' R = some (.lst (r.map stV)) ∧ RowOk z.length mi.toNat r ∧ R ≠ p ∧ R ≠ S ∧ R ≠ c ∧ H R = none, ?_, ?_⟩
      · refine ⟨_, rfl, R, rfl, ⟨_, SqL.of hr3⟩, fun D nD => ?_⟩
        obtain ⟨_, _, _, hp3, hc3, _⟩ := hP3.ex
        have xD := same_upd (o := HO.lst []) nD
        refine lc_lstO (xs := r.map stV) (fun j H' => Same H3 H' ∧ H' D = some (.lst ((r.take j).map fun x => V.bl (decide (stV x = V.non))))) ⟨xD, upd_same⟩ (fun i H' h => h.1.seq (SqL.of hr3)) ?_ ?_
        · rintro j u H' hu ⟨sm, hD⟩
          rw [List.getElem?_map] at hu
          cases e : r[j]? with
          | none =>
            rw [e] at hu
            cases hu
          | some x =>
            rw [e] at hu
            cases hu
            refine ⟨rfl, ?_⟩
            refine ⟨_, rfl, rfl, _, hD, ?_, same_new sm nD, ?_⟩
            · rw [List.length_map]
              have := List.length_take_le' j r
              exact sl3 (by have : z.length ≤ 3 := z3; omega)
            · rw [upd_same, List.take_succ, e, List.map_append]
              rfl
        · rintro H' ⟨sm, hD⟩
          rw [List.length_map, List.take_length] at hD
          have fl : (r.map fun x => V.bl (decide (stV x = V.non))).all flatV = true := by
            rw [List.all_map, List.all_eq_true]
            exact fun _ _ => rfl
          have hP4 : PenC H' p c (n + 1 + 11 * i + 9) := hP3.keep (fun o e => sm _ _ e) (fun o e => sm _ _ e)
          refine ⟨D, _, rfl, .inl (SqL.of hD), rfl, fl, _, rfl, ite2 (fun u => ?_) (fun u => ?_)⟩
          · have lr4 : 0 < r.length := by rw [lr3]; exact letters_pos hl
            refine ⟨_, rfl, _, rfl, p, c, mi, _, rfl, hP4, by omega, by omega, log_small (m := 4) (by omega) (by decide), fun Ha ka ba hPa ka0 ka1 => ?_⟩
            have hRa : Ha R = some (.lst (r.map stV)) := ba _ _ nRp (sm _ _ hr3)
            refine ⟨_, rfl, _, rfl, _, rfl, R, _, rfl, .inl (SqL.of hRa), p, c, _, _, rfl, hPa, by omega, by rw [List.length_map]; omega, log_small (m := 4) (by rw [List.length_map]; have : z.length ≤ 3 := z3; omega) (by decide), fun Hb kb bb hPb kb0 kb1 => ?_⟩
            rw [List.length_map] at kb1
            have hRb : Hb R = some (.lst (r.map stV)) := bb _ _ nRp hRa
            have b34 : But p H3 Hb := (But.of sm).trans (ba.trans bb)
            have nxt : But p H3 (upd Hb R (.lst ((r.set kb.toNat (some ka)).map stV))) → True := fun _ => trivial
            refine ⟨R, _, kb, kb.toNat, rfl, rfl, hRb, ixN_of kb0 (by rw [List.length_map]; exact kb1), ?_⟩
            have er : (r.map stV).set kb.toNat (.int ka) = (r.set kb.toNat (some ka)).map stV := by rw [List.map_set]; rfl
            rw [er]
            refine ⟨R, r.set kb.toNat (some ka), rfl, fun b o nb e => ?_, ?_, ?_, ?_, upd_same, ⟨?_, ?_, ?_⟩, nRp, nRS, nRc, R0⟩
            · rw [upd_ne (ne_of_none e R0)]
              exact b34 _ _ nb (b3 _ _ nb e)
            · exact hPb.keep (fun o e => by rw [upd_ne nRp.symm]; exact e) (fun o e => by rw [upd_ne nRc.symm]; exact e)
            · rw [upd_ne nRS.symm]
              exact b34 _ _ nSp hS3
            · refine hR3.go fun t _ nt e => ?_
              rw [upd_ne (ne_of e hr3 (by intro z; cases z))]
              exact b34 _ _ nt e
            · rw [List.length_set, lr3]
            · exact ⟨some ka, List.mem_of_getElem? (i := kb.toNat) (by rw [List.getElem?_set_self (by omega)]), by simp⟩
            · intro j hj
              rcases List.mem_or_eq_of_mem_set hj with h | h
              · have := rg j h
                omega
              · cases h
                omega
          · refine ⟨R, r, rfl, b3.trans (But.of sm), hP4.mono (by omega), sm _ _ hS3, hR3.go fun t _ nt e => sm _ _ e, sm _ _ hr3, ⟨lr3, ?_, fun j hj => ?_⟩, nRp, nRS, nRc, R0⟩
            · have u2 : inV (.bl false) (r.map fun x => V.bl (decide (stV x = V.non))) = true := by
                cases e : inV (.bl false) (r.map fun x => V.bl (decide (stV x = V.non))) with
                | true => rfl
                | false => exact absurd (by rw [e]; rfl) u
              unfold inV at u2
              rw [List.any_map, List.any_eq_true] at u2
              obtain ⟨x, hx, hx2⟩ := u2
              refine ⟨x, hx, fun e => ?_⟩
              subst e
              exact absurd hx2 (by decide)
            · have := rg j hj
              omega
      rintro σ H4 ⟨R, r, rfl, b4, hP4, hS4, hR4, hr4, okr, nRp, nRS, nRc, _⟩
      refine ⟨_, rfl, .inl ⟨rfl, _, SqL.of hS4⟩, _, rfl, R, _, rfl, .inl ⟨SqL.of hr4, fun t ht => ?_⟩⟩
      have xt := same_upd (o := HO.tup (r.map stV)) ht
      obtain ⟨_, _, _, hp4, hc4, _⟩ := hP4.ex
      have ntp : t ≠ p := (ne_of_none hp4 ht).symm
      refine ⟨S, _, _, rfl, rfl, xt _ _ hS4, ?_, ?_⟩
      · rw [List.length_map, lt]
        exact sl3 (by omega)
      · refine ⟨_, _, ts ++ [t], rows ++ [r], rfl, ?_, ?_, ?_, ?_, ?_, ?_, ?_⟩
        · intro b o nb e
          rw [upd_ne (ne_of_none e S0)]
          exact xt _ _ (b4 _ _ nb e)
        · exact (hP4.keep (fun o e => by rw [upd_ne nSp.symm]; exact xt _ _ e) (fun o e => by rw [upd_ne nSc.symm]; exact xt _ _ e)).mono (by omega)
        · rw [upd_same, List.map_append]
          rfl
        · refine RowsAt.snoc (hR4.go fun t' _ nt e => ?_) ntp ?_
          · rw [upd_ne (ne_of e hS4 (by intro z; cases z))]
            exact xt _ _ e
          · rw [upd_ne (ne_of_none hS4 ht).symm]
            exact upd_same
        · rw [List.length_append, lr]
          rfl
        · rw [List.length_append, lt]
          rfl
        · intro r' hr'
          rcases List.mem_append.mp hr' with h | h
          · exact ok r' h
          · rw [List.mem_singleton.mp h]
            exact okr
    · rintro σ H2 ⟨v5, v6, ts, rows, rfl, b2, hP2, hS2, hR, lr, lt, ok⟩
      refine ⟨_, rfl, _, rfl, S, _, rfl, .inl ⟨SqL.of hS2, fun t ht => ⟨(by show 2 ≤ sizeLine; decide), fun u hu => ?_⟩⟩⟩
      have xt := same_upd (o := HO.tup (ts.map V.ref)) ht
      have xu := same_upd (o := HO.tup [V.str z, V.ref t]) hu
      have x2 := xt.trans xu
      obtain ⟨_, _, _, hp2, hc2, _⟩ := hP2.ex
      have ntp : t ≠ p := (ne_of_none hp2 ht).symm
      have nup : u ≠ p := (ne_of_none (xt _ _ hp2) hu).symm
      have hz : z.length ≤ sizeLine := Nat.le_trans (show z.length ≤ 3 from z3) (by decide)
      refine q _ u rows (b2.trans (But.of x2)) ((hP2.keep (fun o e => x2 _ _ e) (fun o e => x2 _ _ e)).mono (by omega)).pen ?_ ?_ (by omega) (by omega) (by rw [lr]; exact ok)
      · exact rs_tup nup upd_same (RsAll.cons (rs_str z hz) (RsAll.cons (rs_tup ntp (xu _ _ upd_same) (hR.go fun t' _ _ e => x2 _ _ e).rs) rsNil))
      · exact rulD_rows hl (by omega) (by omega) (by rw [lr]; exact ok)
end
end My
/-! ### dicts whose keys are data, told by what they encode -/
namespace My
open PySem PySem.Spec PyProof.Rows L2
structure EncOk {α : Type} (enc : α → PyData) : Prop where
  inj : ∀ a b, keyN (enc a) = keyN (enc b) → a = b
  tO : ∀ a, tO (enc a) = true
  kd : ∀ a, (keyN (enc a)).depth ≤ 8
  ref : ∀ a, ∃ x r, enc a = .tuple (x :: r)
  alike : ∀ a b, PySem.W.alike (enc a) (enc b) = true
  eqv : ∀ a b, PyData.eqv (enc a) (enc b) = true → a = b
  dp : ∀ a, (enc a).depth ≤ 8
section
variable {α β : Type} [DecidableEq α]
def getA (l : List (α × β)) (t : α) : Option β := (l.find? fun q => decide (q.1 = t)).map (·.2)
def putA (l : List (α × β)) (t : α) (v : β) : List (α × β) := if (getA l t).isSome = true then l.map fun q => if q.1 = t then (q.1, v) else q else l ++ [(t, v)]
def keysA (l : List (α × β)) : List α := l.map (·.1)
theorem getA_cons (q : α × β) (r : List (α × β)) (t : α) : getA (q :: r) t = if q.1 = t then some q.2 else getA r t := by
  unfold getA
  rw [List.find?_cons]
  by_cases e : q.1 = t <;> simp [e]
theorem getA_none {l : List (α × β)} {t : α} : getA l t = none ↔ t ∉ keysA l := by
  induction l with
  | nil => simp [getA, keysA]
  | cons q r ih =>
    rw [getA_cons]
    by_cases e : q.1 = t
    · simp [e, keysA]
    · rw [if_neg e, ih]
      unfold keysA
      simp only [List.map_cons, List.mem_cons, not_or]
      exact ⟨fun h => ⟨fun z => e z.symm, h⟩, fun h => h.2⟩
theorem getA_isSome {l : List (α × β)} {t : α} : (getA l t).isSome = true ↔ t ∈ keysA l := by
  cases h : getA l t with
  | none => simp [getA_none.mp h]
  | some v =>
    simp only [Option.isSome_some, true_iff]
    exact Classical.byContradiction fun z => by rw [getA_none.mpr z] at h; cases h
theorem getA_mem {l : List (α × β)} {t : α} {v : β} (h : getA l t = some v) : (t, v) ∈ l := by
  induction l with
  | nil => cases h
  | cons q r ih =>
    rw [getA_cons] at h
    by_cases e : q.1 = t
    · rw [if_pos e] at h
      cases h
      rw [← e]
      exact .head _
    · rw [if_neg e] at h
      exact .tail _ (ih h)
theorem mem_getA {l : List (α × β)} {t : α} {v : β} (nd : (keysA l).Nodup) (h : (t, v) ∈ l) : getA l t = some v := by
  induction l with
  | nil => cases h
  | cons q r ih =>
    rw [getA_cons]
    have nd2 : q.1 ∉ keysA r ∧ (keysA r).Nodup := List.nodup_cons.mp nd
    rcases List.mem_cons.mp h with e | e
    · rw [← e, if_pos rfl]
    · have : ¬ q.1 = t := fun z => nd2.1 (by rw [z]; exact List.mem_map_of_mem (f := (·.1)) e)
      rw [if_neg this]
      exact ih nd2.2 e
theorem keysA_put (l : List (α × β)) (t : α) (v : β) : keysA (putA l t v) = if (getA l t).isSome then keysA l else keysA l ++ [t] := by
  unfold putA
  split
  · unfold keysA
    rw [List.map_map]
    refine List.map_congr_left fun p _ => ?_
    show (if p.1 = t then (p.1, v) else p).1 = p.1
    split <;> rfl
  · unfold keysA
    rw [List.map_append]
    rfl
theorem putA_nodup {l : List (α × β)} {t : α} {v : β} (nd : (keysA l).Nodup) : (keysA (putA l t v)).Nodup := by
  rw [keysA_put]
  split
  · exact nd
  · rename_i h
    rw [List.nodup_append]
    refine ⟨nd, by simp, fun a ha b hb => ?_⟩
    simp only [List.mem_singleton] at hb
    rintro rfl
    rw [hb] at ha
    exact h (getA_isSome.mpr ha)
theorem getA_map (t u : α) (v : β) : ∀ l : List (α × β), getA (l.map fun q => if q.1 = t then (q.1, v) else q) u = (getA l u).map fun x => if u = t then v else x
  | [] => rfl
  | p :: r => by
    rw [List.map_cons, getA_cons, getA_cons, getA_map t u v r]
    by_cases h : p.1 = t
    · rw [if_pos h]
      by_cases e : p.1 = u
      · simp [e, ← h]
      · simp [e]
    · rw [if_neg h]
      by_cases e : p.1 = u
      · have : ¬ u = t := fun z => h (e.trans z)
        simp [e, this]
      · simp [e]
theorem getA_snoc (t u : α) (v : β) : ∀ l : List (α × β), getA l t = none → getA (l ++ [(t, v)]) u = if u = t then some v else getA l u
  | [], _ => by
    rw [List.nil_append, getA_cons]
    by_cases e : t = u
    · rw [if_pos e, if_pos e.symm]
    · rw [if_neg e, if_neg (fun z => e z.symm)]
  | p :: r, h => by
    rw [getA_cons] at h
    by_cases e : p.1 = t
    · rw [if_pos e] at h
      cases h
    · rw [if_neg e] at h
      rw [List.cons_append, getA_cons, getA_cons, getA_snoc t u v r h]
      by_cases e2 : p.1 = u
      · rw [if_pos e2, if_pos e2, if_neg (fun z => e (e2.trans z))]
      · rw [if_neg e2, if_neg e2]
theorem getA_put (l : List (α × β)) (t u : α) (v : β) : getA (putA l t v) u = if u = t then some v else getA l u := by
  unfold putA
  cases h : getA l t with
  | none => exact getA_snoc t u v l h
  | some x =>
    rw [if_pos (show (some x).isSome = true from rfl), getA_map]
    by_cases e : u = t
    · rw [e, h]; simp
    · simp [e]
theorem putA_len (l : List (α × β)) (t : α) (v : β) : (putA l t v).length ≤ l.length + 1 := by
  unfold putA
  split
  · rw [List.length_map]; omega
  · rw [List.length_append]; exact Nat.le_refl _
theorem putA_map {γ : Type} (f : β → γ) (l : List (α × β)) (t : α) (v : β) : (putA l t v).map (fun q => (q.1, f q.2)) = putA (l.map fun q => (q.1, f q.2)) t (f v) := by
  have : getA (l.map fun q => (q.1, f q.2)) t = (getA l t).map f := by
    induction l with
    | nil => rfl
    | cons q r ih =>
      rw [List.map_cons, getA_cons, getA_cons, ih]
      by_cases e : q.1 = t <;> simp [e]
  unfold putA
  rw [this, Option.isSome_map]
  split
  · rw [List.map_map, List.map_map]
    refine List.map_congr_left fun q _ => ?_
    show (fun q : α × β => (q.1, f q.2)) (if q.1 = t then (q.1, v) else q) = if q.1 = t then (q.1, f v) else (q.1, f q.2)
    split <;> rfl
  · rw [List.map_append]
    rfl
theorem getA_mapv {γ : Type} (f : β → γ) (l : List (α × β)) (t : α) : getA (l.map fun q => (q.1, f q.2)) t = (getA l t).map f := by
  induction l with
  | nil => rfl
  | cons q r ih =>
    rw [List.map_cons, getA_cons, getA_cons, ih]
    by_cases e : q.1 = t <;> simp [e]
end
section
variable {α : Type} [DecidableEq α] {enc : α → PyData} {P : Program} {w : World} {K : PySem.W.Frag} {H H' : Hp} {a b : Addr} {xs : Nx} {l : List (α × V)} {t : α} {v : V}
def KxE (K : PySem.W.Frag) (H : Hp) (enc : α → PyData) (e : NestedKey × Addr × V) (q : α × V) : Prop := e.1 = keyN (enc q.1) ∧ Rp K H (.ref e.2.1) (enc q.1) ∧ e.2.2 = q.2
def Kx (K : PySem.W.Frag) (H : Hp) (enc : α → PyData) (xs : Nx) (l : List (α × V)) : Prop := Paired (KxE K H enc) xs l
omit [DecidableEq α] in
theorem Kx.ts (h : Kx K H enc xs l) (ok : EncOk enc) (s : TStay K H H') : Kx K H' enc xs l := Paired.mapP h fun _ q e => ⟨e.1, rp_ts s e.2.1 (ok.tO q.1), e.2.2⟩
theorem Kx.val (ok : EncOk enc) (h : Kx K H enc xs l) (t : α) : valN xs (keyN (enc t)) = getA l t := by
  unfold Kx at h
  induction h with
  | nil => rfl
  | @cons p q ps qs r _ ih =>
    obtain ⟨e1, _, e3⟩ := r
    rw [getA_cons]
    by_cases e : q.1 = t
    · rw [if_pos e, valN_pos (by rw [e1, e]), e3]
    · rw [if_neg e, valN_neg (fun z => e (ok.inj _ _ (e1.symm.trans z)))]
      exact ih
theorem Kx.map (ok : EncOk enc) (h : Kx K H enc xs l) (t : α) (v : V) : Kx K H enc (xs.map fun e => if e.1 = keyN (enc t) then (e.1, e.2.1, v) else e) (l.map fun q => if q.1 = t then (q.1, v) else q) := by
  unfold Kx at h ⊢
  induction h with
  | nil => exact .nil
  | @cons p q ps qs r _ ih =>
    rw [List.map_cons, List.map_cons]
    refine .cons ?_ ih
    obtain ⟨e1, e2, e3⟩ := r
    by_cases e : q.1 = t
    · rw [if_pos e, if_pos (by rw [e1, e])]
      exact ⟨e1, e2, rfl⟩
    · rw [if_neg e, if_neg (fun z => e (ok.inj _ _ (e1.symm.trans z)))]
      exact ⟨e1, e2, e3⟩
theorem Kx.put (ok : EncOk enc) (h : Kx K H enc xs l) (hb : Rp K H (.ref b) (enc t)) : Kx K H enc (putN xs (keyN (enc t)) b v) (putA l t v) := by
  unfold putN putA
  rw [h.val ok t]
  split
  · exact h.map ok t v
  · exact Paired.snoc h ⟨rfl, hb, rfl⟩
/-- at a stands such a dict -/
def ED (P : Program) (w : World) (K : PySem.W.Frag) (enc : α → PyData) (H : Hp) (a : Addr) (l : List (α × V)) : Prop := ∃ xs, H a = some (NdO P w a xs) ∧ Kx K H enc xs l
/-- .. to be read -/
def EDr (P : Program) (w : World) (K : PySem.W.Frag) (enc : α → PyData) (H : Hp) (a : Addr) (l : List (α × V)) : Prop := ∃ xs, Rd H a (NdO P w a xs) ∧ Kx K H enc xs l
omit [DecidableEq α] in
theorem ED.r (h : ED P w K enc H a l) : EDr P w K enc H a l := by
  obtain ⟨xs, e, k⟩ := h
  exact ⟨xs, .inl e, k⟩
omit [DecidableEq α] in
theorem ED.ts (h : ED P w K enc H a l) (ok : EncOk enc) (s : TStay K H H') (e : ∀ o, H a = some o → H' a = some o) : ED P w K enc H' a l := by
  obtain ⟨xs, h1, h2⟩ := h
  exact ⟨xs, e _ h1, h2.ts ok s⟩
omit [DecidableEq α] in
theorem ED.same (h : ED P w K enc H a l) (ok : EncOk enc) (s : Same H H') : ED P w K enc H' a l := h.ts ok (ts_same s) fun o e => s _ _ e
omit [DecidableEq α] in
theorem EDr.ts (h : EDr P w K enc H a l) (ok : EncOk enc) (s : TStay K H H') (e : ∀ o, H a = some o → H' a = some o) : EDr P w K enc H' a l := by
  obtain ⟨xs, h1, h2⟩ := h
  refine ⟨xs, ?_, h2.ts ok s⟩
  rcases h1 with h1 | ⟨o, h1⟩
  · exact .inl (e _ h1)
  · exact .inr ⟨o, e _ h1⟩
omit [DecidableEq α] in
theorem EDr.same (h : EDr P w K enc H a l) (ok : EncOk enc) (s : Same H H') : EDr P w K enc H' a l := h.ts ok (ts_same s) fun o e => s _ _ e
omit [DecidableEq α] in
theorem ED.mut (h : ED P w K enc H a l) : ∃ φ, H a = some (.ext φ) := by
  obtain ⟨xs, h1, _⟩ := h
  exact ⟨_, h1⟩
end
/-! what the rules ask -/
def NAtR (P : Program) (w : World) (K : PySem.W.Frag) (H : Hp) (x y : V) (a b : Addr) (xs : Nx) (d : PyData) : Prop := x = .ref a ∧ y = .ref b ∧ Rd H a (NdO P w a xs) ∧ (∀ e ∈ xs, ∃ d, keyN d = e.1 ∧ Rp K H (.ref e.2.1) d ∧ tO d = true ∧ e.1.depth ≤ 8) ∧ Rp K H (.ref b) d ∧ tO d = true ∧ (keyN d).depth ≤ 8
def EGet (P : Program) (w : World) (K : PySem.W.Frag) (H : Hp) (x y v : V) : Prop := ∃ a b xs d, NAtR P w K H x y a b xs d ∧ valN xs (keyN d) = some v
def EIn (P : Program) (w : World) (K : PySem.W.Frag) (H : Hp) (x y : V) (r : Bool) : Prop := ∃ a b xs d, NAtR P w K H x y a b xs d ∧ r = (valN xs (keyN d)).isSome
def EPut (P : Program) (w : World) (K : PySem.W.Frag) (H : Hp) (x y v : V) (H' : Hp) : Prop := ∃ a b xs d, NAt P w K H x y a b xs d ∧ xs.length < sizeLine ∧ H' = upd H a (NdO P w a (putN xs (keyN d) b v))
section
variable {α : Type} [DecidableEq α] {enc : α → PyData} {P : Program} {w : World} {K : PySem.W.Frag} {H H' : Hp} {a b : Addr} {xs : Nx} {l : List (α × V)} {t : α} {v : V}
omit [DecidableEq α] in
theorem Kx.ks (ok : EncOk enc) (h : Kx K H enc xs l) : ∀ e ∈ xs, ∃ d, keyN d = e.1 ∧ Rp K H (.ref e.2.1) d ∧ tO d = true ∧ e.1.depth ≤ 8 := by
  unfold Kx at h
  induction h with
  | nil => exact fun _ h => nomatch h
  | @cons p q ps qs r _ ih =>
    intro e he
    rcases List.mem_cons.mp he with rfl | he
    · exact ⟨_, r.1.symm, r.2.1, ok.tO _, by rw [r.1]; exact ok.kd _⟩
    · exact ih e he
theorem EDr.get (ok : EncOk enc) (h : EDr P w K enc H a l) (hb : Rp K H (.ref b) (enc t)) (e : getA l t = some v) : EGet P w K H (.ref a) (.ref b) v := by
  obtain ⟨xs, h1, h2⟩ := h
  exact ⟨a, b, xs, enc t, ⟨rfl, rfl, h1, h2.ks ok, hb, ok.tO t, ok.kd t⟩, by rw [h2.val ok, e]⟩
theorem EDr.in_ (ok : EncOk enc) (h : EDr P w K enc H a l) (hb : Rp K H (.ref b) (enc t)) : EIn P w K H (.ref a) (.ref b) (getA l t).isSome := by
  obtain ⟨xs, h1, h2⟩ := h
  exact ⟨a, b, xs, enc t, ⟨rfl, rfl, h1, h2.ks ok, hb, ok.tO t, ok.kd t⟩, by rw [h2.val ok]⟩
theorem ED.put (ok : EncOk enc) (h : ED P w K enc H a l) (hb : Rp K H (.ref b) (enc t)) (z : l.length < sizeLine) (v : V) : ∃ φ, EPut P w K H (.ref a) (.ref b) v (upd H a (.ext φ)) ∧ ED P w K enc (upd H a (.ext φ)) a (putA l t v) := by
  obtain ⟨xs, h1, h2⟩ := h
  have ln : xs.length = l.length := Paired.length h2
  have ts : TStay K H (upd H a (NdO P w a (putN xs (keyN (enc t)) b v))) := ts_upd h1 (fun _ z => nomatch z) (fun _ _ z => nomatch z)
  refine ⟨NdP P w a (putN xs (keyN (enc t)) b v), ⟨a, b, xs, enc t, ⟨rfl, rfl, ⟨h1, h2.ks ok⟩, hb, ok.tO t, ok.kd t⟩, by omega, rfl⟩, putN xs (keyN (enc t)) b v, upd_same, ?_⟩
  exact (h2.put ok hb).ts ok ts
omit [DecidableEq α] in
theorem ED.nil (h : H a = some (NdO P w a [])) : ED P w K enc H a [] := ⟨[], h, .nil⟩
end
section
variable {X : Cx} {pins : List (Addr × Obj)} {σ : L2.St} {H : Hp} {s : Shared} {a b : Addr} {xs : Nx} {d : PyData} {A : Around} {E : Value → Shared → Prop}
theorem ndr_of (I : Inv X pins σ H s) (h : Rd H a (NdO X.prog X.w a xs)) (ks : ∀ e ∈ xs, ∃ d, keyN d = e.1 ∧ Rp X.K H (.ref e.2.1) d ∧ tO d = true ∧ e.1.depth ≤ 8) : (a == sysModules) = false ∧ ∃ ys, NR xs ys ∧ s.heap.DictOfH (nestedKind X.prog X.w) a ys := by
  obtain ⟨⟨z, ys, r, nd, o, es, ep, h1, h2, h3, h4⟩, _, _⟩ := (show ObjOk X.prog X.w H s.heap a (NdO X.prog X.w a xs) from h.ok I.hok)
  refine ⟨z, ys, r, o, es, ep, h1, h2, h3, h4, fun y hy => ?_, nd⟩
  obtain ⟨x, hx, e1, e2⟩ := r.mem y hy
  obtain ⟨d', k1, k2, k3, k4⟩ := ks x hx
  obtain ⟨as, rd, _⟩ := Rp.reads I d' _ _ k2 (show RelV (.ref x.2.1) (Value.ref x.2.1) from rfl)
  rw [← e1, ← e2]
  exact ⟨k1 ▸ reads_nest rd k3, k4⟩
/-- only what stands there, not what the keys are -/
theorem ndr_raw (I : Inv X pins σ H s) (h : Rd H a (NdO X.prog X.w a xs)) : (a == sysModules) = false ∧ ∃ ys, NR xs ys ∧ ∃ o es ep, s.heap.get? a = some o ∧ o.ExactDict ∧ o.data = .dict es ep ∧ es.toList = ys.map (entryOfKey (nestedKind X.prog X.w)) := by
  obtain ⟨⟨z, ys, r, nd, o, es, ep, h1, h2, h3, h4⟩, _, _⟩ := (show ObjOk X.prog X.w H s.heap a (NdO X.prog X.w a xs) from h.ok I.hok)
  exact ⟨z, ys, r, o, es, ep, h1, h2, h3, h4⟩
end
def tEGet (P : Program) (w : World) (K : PySem.W.Frag) (td ty : TE) : TE := fun σ H Q => td σ H fun x H1 => ty σ H1 fun y H2 => ∃ v, EGet P w K H2 x y v ∧ Q v H2
def tENotIn (P : Program) (w : World) (K : PySem.W.Frag) (ty td : TE) : TE := fun σ H Q => ty σ H fun y H1 => td σ H1 fun x H2 => ∃ r, EIn P w K H2 x y r ∧ Q (.bl (!r)) H2
def tEIn (P : Program) (w : World) (K : PySem.W.Frag) (ty td : TE) : TE := fun σ H Q => ty σ H fun y H1 => td σ H1 fun x H2 => ∃ r, EIn P w K H2 x y r ∧ Q (.bl r) H2
def sEPut (P : Program) (w : World) (K : PySem.W.Frag) (td ty tv : TE) : TS := fun D σ H => tv σ H fun v H1 => td σ H1 fun x H2 => ty σ H2 fun y H3 => ∃ H', EPut P w K H3 x y v H' ∧ D.nx σ H'
section
variable {X : Cx} {o i e value : Expr} {pos pos' : Pos} {td ty tv : TE}
theorem pe_eget (hu : X.A.units + 9 < cLine) (ho : PE X o td) (hi : PE X i ty) (hs : NoSl i) : PE X (.Subscript o i pos) (tEGet X.prog X.w X.K td ty) := by
  refine ⟨fun pins s σ H Q I h => ?_⟩
  refine subD_of PySem.F.slot_dict_getitem.lookup hs (thn (ho.run pins s σ H _ I h) fun u s1 ⟨x, H1, I1, rx, q1⟩ => thn (hi.run pins s1 σ H1 _ I1 q1) fun iv s2 ⟨y, H2, I2, ry, v, ⟨a, b, xs, d, ⟨ex, ey, n, ks, hb, t, l⟩, hv⟩, q2⟩ => ?_)
  subst ex ey
  obtain rfl : u = Value.ref a := rx
  obtain rfl : iv = Value.ref b := ry
  obtain ⟨_, ys, r, dd⟩ := ndr_of I2 n ks
  refine ⟨dd.typeIs, ?_⟩
  obtain ⟨w', hw, rw'⟩ := RelO.some_of (v := v) (o := (atKey ys (keyN d)).map (·.2)) (by rw [← hv]; exact r.val _)
  obtain ⟨p, hp, hp2⟩ := Option.map_eq_some_iff.mp hw
  refine wpAny_getItem_heap (nroom hu) (nk_of I2 hb t l) dd hp ?_
  rw [hp2]
  exact ⟨v, H2, I2.tok _, rw', q2⟩
theorem pc_enotin (hu : X.A.units + 9 < cLine) (hi : PE X i ty) (ho : PE X o td) : PC X .NotIn i o (tENotIn X.prog X.w X.K ty td) := by
  refine ⟨fun pins s σ H Q I h => ?_⟩
  refine thn (hi.run pins s σ H _ I h) fun iv s1 ⟨y, H1, I1, ry, q1⟩ => thn (ho.run pins s1 σ H1 _ I1 q1) fun u s2 ⟨x, H2, I2, rx, r, ⟨a, b, xs, d, ⟨ex, ey, n, ks, hb, t, l⟩, er⟩, q2⟩ => ?_
  subst ex ey er
  obtain rfl : u = Value.ref a := rx
  obtain rfl : iv = Value.ref b := ry
  obtain ⟨z, ys, r, dd⟩ := ndr_of I2 n ks
  refine wpAny_notIn_heap (nroom hu) (nk_of I2 hb t l) z dd ?_
  have q := (r.val (keyN d)).isSome_eq
  rw [Option.isSome_map] at q
  rw [← q]
  exact ⟨.bl _, H2, I2.tok _, rfl, q2⟩
theorem pc_ein (hu : X.A.units + 9 < cLine) (hi : PE X i ty) (ho : PE X o td) : PC X .In i o (tEIn X.prog X.w X.K ty td) := by
  refine ⟨fun pins s σ H Q I h => ?_⟩
  refine thn (hi.run pins s σ H _ I h) fun iv s1 ⟨y, H1, I1, ry, q1⟩ => thn (ho.run pins s1 σ H1 _ I1 q1) fun u s2 ⟨x, H2, I2, rx, r, ⟨a, b, xs, d, ⟨ex, ey, n, ks, hb, t, l⟩, er⟩, q2⟩ => ?_
  subst ex ey er
  obtain rfl : u = Value.ref a := rx
  obtain rfl : iv = Value.ref b := ry
  obtain ⟨z, ys, r, dd⟩ := ndr_of I2 n ks
  refine wpAny_in_heap (nroom hu) (nk_of I2 hb t l) z dd ?_
  have q := (r.val (keyN d)).isSome_eq
  rw [Option.isSome_map] at q
  rw [← q]
  exact ⟨.bl _, H2, I2.tok _, rfl, q2⟩
theorem ps_eput (hu : X.A.units + 9 < cLine) (ho : PE X o td) (hi : PE X i ty) (hv : PE X value tv) (hs : swapsWith value (some (.Subscript o i pos')) pos.line X.env = pure false) :
    PS X (.Assign [.Subscript o i pos'] value pos) (sEPut X.prog X.w X.K td ty tv) := by
  refine ⟨fun pins s σ H D I h => ?_⟩
  refine wpAny_Assign_Subscript (thn (hv.run pins s σ H _ I h) fun r s1 ⟨v, H1, I1, rv, q1⟩ => thn (ho.run pins s1 σ H1 _ I1 q1) fun u s2 ⟨x, H2, I2, rx, q2⟩ => thn (hi.run pins s2 σ H2 _ I2 q2) fun iv s3 ⟨y, H3, I3, ry, H4, ⟨a, b, xs, d, ⟨ex, ey, n, hb, t, l⟩, hz, e4⟩, q3⟩ => ?_) hs
  subst ex ey e4
  obtain rfl : u = Value.ref a := rx
  obtain rfl : iv = Value.ref b := ry
  exact nd_setItem hu I3 n hb t l hz rv fun s4 I4 => ⟨σ, _, I4, q3⟩
end
end My
/-! ### such dicts walked, listed, sorted; lists of data sorted -/
namespace My
open PySem PySem.Spec PyProof.Rows L2
/-- in the order of Python's < -/
def sortE {α : Type} (enc : α → PyData) (ts : List α) : List α := ts.mergeSort (PySem.W.dataLe false enc)
section
variable {α : Type} {enc : α → PyData}
theorem le_total : PySem.W.TotalLe (PySem.W.dataLe false enc) := PySem.W.sortLe_total _ _ _
theorem sortE_perm (ts : List α) : (sortE enc ts).Perm ts := List.mergeSort_perm _ _
theorem sortE_pair (ts : List α) : (sortE enc ts).Pairwise fun a b => PySem.W.dataLe false enc a b = true := PySem.W.sort_pairwise le_total ts
/-- which way two of them stand is told -/
theorem le_anti (ok : EncOk enc) {a b : α} (h1 : PySem.W.dataLe false enc a b = true) (h2 : PySem.W.dataLe false enc b a = true) : a = b := by
  have e1 : PySem.W.dataLt (enc b) (enc a) = false := by simpa [PySem.W.dataLe_eq] using h1
  have e2 : PySem.W.dataLt (enc a) (enc b) = false := by simpa [PySem.W.dataLe_eq] using h2
  have tk : PySem.W.keyToks (enc a) = PySem.W.keyToks (enc b) := PyProof.Rows.lex_total _ _ e2 e1
  refine ok.eqv a b ?_
  cases q : PyData.eqv (enc a) (enc b) with
  | true => rfl
  | false =>
    have h := (PySem.W.toks_eqv (enc a) (enc b) (ok.alike a b)).2 q [] [.inl 0]
    rw [tk, PySem.W.lex_pre, PyProof.Rows.lex_irrefl] at h
    exact absurd h (by simp [PyProof.Rows.lexLt])
theorem sortE_eq (ok : EncOk enc) {l m : List α} (p : l.Perm m) (s : l.Pairwise fun a b => PySem.W.dataLe false enc a b = true) : l = sortE enc m := by
  have s2 := sortE_pair (enc := enc) m
  have p2 : l.Perm (sortE enc m) := p.trans (sortE_perm m).symm
  exact p2.eq_of_pairwise (fun a b _ _ h1 h2 => le_anti ok h1 h2) s s2
theorem sortE_congr (ok : EncOk enc) {l m : List α} (p : l.Perm m) : sortE enc l = sortE enc m := sortE_eq ok ((sortE_perm l).trans p) (sortE_pair l)
end
section
variable {prog : Program} {w : World} {A : Around} {E : Value → Shared → Prop} {s : Shared} {T : String} {r d : Addr} {n : Nat} {P : Nat → Value → Prop} {OK : Heap → Prop} {β : Type} {bs : List β} {enc : β → PyData} {R : Value → β → Prop}
/-- sorted of what can be walked, by data -/
theorem sorted_src {Q : Value → Shared → Prop} (S : PySem.W.KdlSrc prog w T r d n P OK) (hh : A.handled = none) (hok : OK s.heap) (hn : n ≤ sizeLine) (hbl : bs.length = n)
    (he : ∀ acc : List Value, acc.length = n → (∀ j v, acc[j]? = some v → P j v) → PySem.W.EachIs R acc bs)
    (er : ∀ h' : Heap, (∀ b o, s.heap.get? b = some o → h'.get? b = some o) → ∀ v b, R v b → b ∈ bs → ∃ as, Reads h' v (enc b) as)
    (hal : PySem.W.AllAlike (bs.map enc)) (hk : PySem.W.Sortable (bs.map enc)) (hu : ∀ b, b ∈ bs → A.units + 2 + (enc b).depth < cLine)
    (h : ∀ (h1 h' : Heap) (tk : Nat) (out : List Value), (∀ b o, s.heap.get? b = some o → h1.get? b = some o) → (∀ b o, h1.get? b = some o → h'.get? b = some o) → (∃ e, h'.get? h1.objs.size = some (PyProof.Rows.seqObj "list" out.toArray e)) → PySem.W.EachIs R out (bs.mergeSort (PySem.W.dataLe false enc)) → Q (.ref h1.objs.size) { s with heap := h', toks := tk }) :
    wpAny (model prog w) A (call (.builtin "sorted") [.ref r]) Q E s := by
  refine Calls.call_function_entry PyProof.Rows.kind_sorted PyProof.Rows.plain_sorted PyProof.Rows.entry_sorted (PyProof.Rows.args_sorted1 _) ?_
  unfold Builtin.«sorted»
  refine wpAny_bind (m := checkCount "sorted" 1 1 _) (wpAny_pure ?_)
  refine wpAny_bind (PySem.W.kdu_collect (A := A.in1) S hh hok hn fun h' tk acc hk' hacc => ?_)
  have hal2 : acc.toList.length = n := by rw [Array.length_toList]; exact hacc.1
  have hE := he acc.toList hal2 fun j v e => hacc.2 j v (by rw [← Array.getElem?_toList]; exact e)
  refine wpAny_bind (wpAny_newList ?_ (by rw [hal2]; exact hn))
  have hoL : (h'.push (PyProof.Rows.seqObj "list" acc.toList.toArray 0)).get? h'.objs.size = some (PyProof.Rows.seqObj "list" acc.toList.toArray 0) := Heap.get?_push_size _ rfl
  show wpAny _ _ _ _ _ { s with heap := h'.push (PyProof.Rows.seqObj "list" acc.toList.toArray 0), toks := tk }
  have kp : ∀ b o, s.heap.get? b = some o → (PySem.W.sortingHeap (h'.push (PyProof.Rows.seqObj "list" acc.toList.toArray 0)) h'.objs.size acc.toList).get? b = some o := fun b o e => by
    have e2 := hk' b o e
    exact PySem.W.sortingHeap_old (Nat.ne_of_lt (Heap.lt_size e2)) (Heap.get?_push_of_some _ e2)
  have er' : PySem.W.EachIs (fun v b => ∃ as, Reads (PySem.W.sortingHeap (h'.push (PyProof.Rows.seqObj "list" acc.toList.toArray 0)) h'.objs.size acc.toList) v (enc b) as) acc.toList bs := (PySem.W.each_mem hE).mono fun v b q => er _ kp v b q.1 q.2
  have sa : PySem.W.SortsAt prog w A.in1.in1 { s with heap := PySem.W.sortingHeap (h'.push (PyProof.Rows.seqObj "list" acc.toList.toArray 0)) h'.objs.size acc.toList, toks := tk } (PySem.W.dataKind (PySem.W.sortingHeap (h'.push (PyProof.Rows.seqObj "list" acc.toList.toArray 0)) h'.objs.size acc.toList) (bs.map enc)) acc.toList :=
    PySem.W.SortsAt.data (s := { s with heap := PySem.W.sortingHeap (h'.push (PyProof.Rows.seqObj "list" acc.toList.toArray 0)) h'.objs.size acc.toList, toks := tk }) (PySem.W.each_map (R := fun v d => ∃ as, Reads (PySem.W.sortingHeap (h'.push (PyProof.Rows.seqObj "list" acc.toList.toArray 0)) h'.objs.size acc.toList) v d as) enc er') hal hk (fun d hd => by
      obtain ⟨b, hb, rfl⟩ := List.mem_map.mp hd
      exact hu b hb)
  refine wpAny_bind (wpAny_holding (wpAny_call_entry PyProof.Rows.slot_list_sort ⟨_, hoL, rfl⟩ PyProof.Rows.entry_list_sort
    (PySem.W.list_sort_vals (s := { s with heap := h'.push (PyProof.Rows.seqObj "list" acc.toList.toArray 0), toks := tk }) (κ := PySem.W.dataKind (PySem.W.sortingHeap (h'.push (PyProof.Rows.seqObj "list" acc.toList.toArray 0)) h'.objs.size acc.toList) (bs.map enc)) hoL sa (by rw [hal2]; exact hn) ⟨_, rfl, ?_⟩) (PyProof.Rows.args_list_sort _)))
  obtain ⟨e', he'⟩ := PyProof.Rows.sortedHeap_at (vs := acc.toList) (out := (PySem.W.sortVals (PySem.W.dataKind (PySem.W.sortingHeap (h'.push (PyProof.Rows.seqObj "list" acc.toList.toArray 0)) h'.objs.size acc.toList) (bs.map enc)) false acc.toList acc.toList).toArray) hoL
  refine wpAny_pure ⟨_, rfl, h h' _ tk _ hk' (fun b o e2 => ?_) ⟨e', he'⟩ (PySem.W.sortVals_data false hE er' hal)⟩
  have hb : b < h'.objs.size := Heap.lt_size e2
  rw [PyProof.Rows.sortedHeap_old (Nat.ne_of_lt hb) (by rw [PyProof.Rows.size_push']; exact Nat.lt_succ_of_lt hb)]
  exact Heap.get?_push_of_some _ e2
end
/-! as rules -/
theorem each_vals {β : Type} {f : β → V} : ∀ {l : List β} {us : List Value}, Vals (l.map f) us → PySem.W.EachIs (fun u b => RelV (f b) u) us l
  | [], _, h => by
    cases h
    exact .nil
  | b :: l, _, h => by
    cases h with
    | cons h1 h2 => exact .cons h1 (each_vals h2)
theorem vals_each {β : Type} {f : β → V} : ∀ {l : List β} {us : List Value}, PySem.W.EachIs (fun u b => RelV (f b) u) us l → Vals (l.map f) us
  | _, _, .nil => .nil
  | _, _, .cons h t => .cons h (vals_each t)
theorem zip_all {K : PySem.W.Frag} {H : Hp} {α : Type} {enc : α → PyData} : ∀ {vs : List V} {ts : List α}, RpAll K H vs (ts.map enc) → (vs.zip ts).map (·.1) = vs ∧ (vs.zip ts).map (·.2) = ts ∧ ∀ z ∈ vs.zip ts, Rp K H z.1 (enc z.2)
  | [], [], _ => ⟨rfl, rfl, fun _ h => nomatch h⟩
  | v :: vs, t :: ts, .cons h1 h2 => by
    obtain ⟨e1, e2, e3⟩ := zip_all (vs := vs) (ts := ts) h2
    refine ⟨?_, ?_, fun z hz => ?_⟩
    · rw [List.zip_cons_cons, List.map_cons, e1]
    · rw [List.zip_cons_cons, List.map_cons, e2]
    · rw [List.zip_cons_cons] at hz
      rcases List.mem_cons.mp hz with rfl | hz
      · exact h1
      · exact e3 z hz
theorem rpAll_map {K : PySem.W.Frag} {H : Hp} {β : Type} {f : β → V} {g : β → PyData} : ∀ {l : List β}, (∀ b ∈ l, Rp K H (f b) (g b)) → RpAll K H (l.map f) (l.map g)
  | [], _ => .nil
  | b :: l, h => .cons (h b (.head _)) (rpAll_map fun c hc => h c (.tail _ hc))
/-- sorted(xs), xs a list of data -/
def rSortE (K : PySem.W.Frag) : List V → Hp → VK → Prop := fun xs H Q => ∃ (a : Addr) (α : Type) (enc : α → PyData) (vs : List V) (ts : List α), xs = [.ref a] ∧ SqL K H a vs ∧ RpAll K H vs (ts.map enc) ∧ EncOk enc ∧
  ∀ (p : Addr) (vs' : List V), H p = none → RpAll K H vs' ((sortE enc ts).map enc) → Q (.ref p) (upd H p (.lst vs'))
section
variable {X : Cx}
theorem cr_sortE (hu : X.A.units + 16 < cLine) : CallR X (.builtin "sorted") (rSortE X.K) := by
  intro pins s σ H vs us Q I r h
  obtain ⟨a, α, enc, vs, ts, rfl, hs, hr, ok, q⟩ := h
  obtain ⟨its, rv, hl, hz⟩ := I.list hs
  obtain ⟨u, rfl, ru⟩ := vals1 r
  obtain rfl : u = Value.ref a := ru
  obtain ⟨e1, e2, e3⟩ := zip_all hr
  have rv2 : Vals ((vs.zip ts).map (·.1)) its := by rw [e1]; exact rv
  have lz : (vs.zip ts).length = its.length := by
    have := rv2.length
    rwa [List.length_map] at this
  have hE := each_vals rv2
  refine PySem.W.sorted_data (R := fun u (z : V × α) => RelV z.1 u) (enc := fun z : V × α => enc z.2) hl.isList hE ((PySem.W.each_mem hE).mono fun u z q => ?_) (PySem.W.AllAlike.of fun z z' => ok.alike _ _) (PySem.W.Sortable.tuples fun z => ok.ref _) (by rw [lz, ← rv.length]; exact hz) (fun z _ => ?_) fun out hlen ho => ?_
  · obtain ⟨as, rd, _⟩ := Rp.reads I (enc z.2) z.1 u (e3 z q.2) q.1
    exact ⟨as, rd⟩
  · have := ok.dp z.2
    show X.A.units + 2 + (enc z.2).depth < cLine
    omega
  · obtain ⟨e, he⟩ := PyProof.Rows.sortedAll_at s.heap its out.toArray
    have ov := vals_each ho
    have perm : ((vs.zip ts).mergeSort (PySem.W.dataLe false fun z : V × α => enc z.2)).Perm (vs.zip ts) := List.mergeSort_perm _ _
    have em : ((vs.zip ts).mergeSort (PySem.W.dataLe false fun z : V × α => enc z.2)).map (·.2) = sortE enc ts := by
      have := PySem.W.sort_maps (r := PySem.W.dataLe false fun z : V × α => enc z.2) (s := PySem.W.dataLe false enc) (fun z : V × α => z.2) (l := vs.zip ts) (fun a _ b _ => rfl)
      rw [e2] at this
      exact this
    refine ⟨.ref (s.heap.objs.size + 1), upd H (s.heap.objs.size + 1) (.lst (((vs.zip ts).mergeSort (PySem.W.dataLe false fun z : V × α => enc z.2)).map (·.1))), I.laid (t' := s.toks) (fun b o e => PyProof.Rows.sortedAll_old e) (Nat.le_succ _) ⟨?_, out, e, ov, he⟩, rfl, q _ _ (I.hok.fresh (Nat.le_succ _)) ?_⟩
    · rw [List.length_map, perm.length_eq, lz, ← rv.length]
      exact hz
    · rw [← em, List.map_map]
      exact rpAll_map fun z hz => e3 z (perm.mem_iff.mp hz)
end
/-! the keys of such a dict -/
theorem Kx.all {α : Type} {K : PySem.W.Frag} {H : Hp} {enc : α → PyData} {xs : Nx} {l : List (α × V)} (h : Kx K H enc xs l) : RpAll K H (xs.map fun e => V.ref e.2.1) ((keysA l).map enc) := by
  unfold Kx at h
  unfold keysA
  induction h with
  | nil => exact .nil
  | cons r _ ih => exact .cons r.2.1 ih
theorem Kx.at {α : Type} {K : PySem.W.Frag} {H : Hp} {enc : α → PyData} {xs : Nx} {l : List (α × V)} (h : Kx K H enc xs l) {i : Nat} {e : NestedKey × Addr × V} (he : xs[i]? = some e) : ∃ q, l[i]? = some q ∧ Rp K H (.ref e.2.1) (enc q.1) := by
  obtain ⟨q, h1, h2⟩ := LiI.paired_get h he
  exact ⟨q, h1, h2.2.1⟩
theorem NR.keys {xs : Nx} {ys : List (NestedKey × Addr × Value)} (r : NR xs ys) : ys.map (fun y => y.2.1) = xs.map fun e => e.2.1 := by
  unfold NR at r
  induction r with
  | nil => rfl
  | cons h _ ih => rw [List.map_cons, List.map_cons, ih, h.2.1]
theorem raw_at {P : Program} {w : World} {xs : Nx} {ys : List (NestedKey × Addr × Value)} {es : Array DictEntry} (r : NR xs ys) (h : es.toList = ys.map (entryOfKey (nestedKind P w))) : es.size = xs.length ∧ ∀ (i : Nat) (e : NestedKey × Addr × V), xs[i]? = some e → ∃ en, es[i]? = some en ∧ en.key = .ref e.2.1 := by
  have l1 : es.size = ys.length := size_of_entries h
  have l2 : xs.length = ys.length := Paired.length r
  refine ⟨by omega, fun i e he => ?_⟩
  obtain ⟨y, h1, _, h2, _⟩ := LiI.paired_get r he
  have q := entry_at h i
  rw [h1] at q
  exact ⟨_, q, by rw [h2]; rfl⟩
theorem raw_all {P : Program} {w : World} {xs : Nx} {ys : List (NestedKey × Addr × Value)} {es : Array DictEntry} (r : NR xs ys) (h : es.toList = ys.map (entryOfKey (nestedKind P w))) {us : List Value} (l : us.length = es.size) (hv : ∀ (j : Nat) (v : Value), us[j]? = some v → ∃ en : DictEntry, es[j]? = some en ∧ v = en.key) : us = xs.map fun e => Value.ref e.2.1 := by
  obtain ⟨z, at_⟩ := raw_at r h
  refine List.ext_getElem? fun j => ?_
  rw [List.getElem?_map]
  cases e : xs[j]? with
  | none =>
    have : xs.length ≤ j := List.getElem?_eq_none_iff.mp e
    rw [List.getElem?_eq_none (by omega)]
    rfl
  | some x =>
    have hj : j < xs.length := (List.getElem?_eq_some_iff.mp e).1
    obtain ⟨en, h1, h2⟩ := at_ j x e
    obtain ⟨en', h3, h4⟩ := hv j _ (List.getElem?_eq_getElem (by omega : j < us.length))
    rw [h1] at h3
    cases h3
    rw [List.getElem?_eq_getElem (by omega : j < us.length), h4, h2]
    rfl
def rSortN (P : Program) (w : World) (K : PySem.W.Frag) : List V → Hp → VK → Prop := fun xs H Q => ∃ (a : Addr) (α : Type) (enc : α → PyData) (l : List (α × V)), xs = [.ref a] ∧ EDr P w K enc H a l ∧ l.length ≤ sizeLine ∧ EncOk enc ∧
  ∀ (p : Addr) (vs' : List V), H p = none → RpAll K H vs' ((sortE enc (keysA l)).map enc) → Q (.ref p) (upd H p (.lst vs'))
def rListN (P : Program) (w : World) (K : PySem.W.Frag) : List V → Hp → VK → Prop := fun xs H Q => ∃ (a : Addr) (α : Type) (enc : α → PyData) (l : List (α × V)), xs = [.ref a] ∧ EDr P w K enc H a l ∧ l.length ≤ sizeLine ∧
  ∀ (p : Addr) (vs' : List V), H p = none → RpAll K H vs' ((keysA l).map enc) → Q (.ref p) (upd H p (.lst vs'))
def rLenN (P : Program) (w : World) (K : PySem.W.Frag) : List V → Hp → VK → Prop := fun xs H Q => ∃ (a : Addr) (α : Type) (enc : α → PyData) (l : List (α × V)), xs = [.ref a] ∧ EDr P w K enc H a l ∧ EncOk enc ∧ l.length ≤ sizeLine ∧ Q (.int (l.length : Nat)) H
def rTruN (P : Program) (w : World) (K : PySem.W.Frag) : V → Hp → (Bool → Hp → Prop) → Prop := fun x H Q => ∃ (a : Addr) (α : Type) (enc : α → PyData) (l : List (α × V)), x = .ref a ∧ EDr P w K enc H a l ∧ EncOk enc ∧ l.length ≤ sizeLine ∧ Q (!l.isEmpty) H
section
variable {X : Cx}
theorem cr_sortN (hc : X.calm = true) (hu : X.A.units + 16 < cLine) : CallR X (.builtin "sorted") (rSortN X.prog X.w X.K) := by
  intro pins s σ H vs us Q I r h
  obtain ⟨a, α, enc, l, rfl, ⟨xs, hd, kx⟩, hz, ok, q⟩ := h
  obtain ⟨u, rfl, ru⟩ := vals1 r
  obtain rfl : u = Value.ref a := ru
  obtain ⟨z, ys, nr, o, es, ep, h1, h2, h3, h4⟩ := ndr_raw I hd
  obtain ⟨sz, _⟩ := raw_at nr h4
  have lx : xs.length = l.length := Paired.length kx
  have all := kx.all
  obtain ⟨e1, e2, e3⟩ := zip_all all
  have lz : ((xs.map fun e => V.ref e.2.1).zip (keysA l)).length = es.size := by
    rw [List.length_zip, List.length_map, sz]
    unfold keysA
    rw [List.length_map]
    omega
  refine sorted_src (bs := (xs.map fun e => V.ref e.2.1).zip (keysA l)) (R := fun u z => RelV z.1 u) (enc := fun z => enc z.2) (kdl_raw z h2 h3) (I.ok.hd hc) h1 (by omega) lz (fun acc ha hv => ?_) (fun h' kp u z rv hz => ?_) (PySem.W.AllAlike.of fun z z' => ok.alike _ _) (PySem.W.Sortable.tuples fun z => ok.ref _) (fun z _ => ?_) fun h1 h' tk out kp kp2 ⟨e, he⟩ ho => ?_
  · obtain rfl := raw_all nr h4 ha hv
    refine each_vals (f := fun z : V × α => z.1) ?_
    rw [show List.map (fun z : V × α => z.1) ((xs.map fun e => V.ref e.2.1).zip (keysA l)) = xs.map fun e => V.ref e.2.1 from e1]
    have : ∀ xs : Nx, Vals (xs.map fun e => V.ref e.2.1) (xs.map fun e => Value.ref e.2.1) := fun xs => by
      induction xs with
      | nil => exact .nil
      | cons x r ih => exact .cons rfl ih
    exact this xs
  · have I2 : Inv X pins σ H { s with heap := h' } := I.kept (t' := s.toks) kp
    obtain ⟨as, rd, _⟩ := Rp.reads I2 (enc z.2) z.1 u (e3 z hz) rv
    exact ⟨as, rd⟩
  · have := ok.dp z.2
    show X.A.units + 2 + (enc z.2).depth < cLine
    omega
  · have I1 : Inv X pins σ H { s with heap := h1, toks := tk } := I.kept (t' := tk) kp
    have ov := vals_each ho
    have perm : (((xs.map fun e => V.ref e.2.1).zip (keysA l)).mergeSort (PySem.W.dataLe false fun z : V × α => enc z.2)).Perm ((xs.map fun e => V.ref e.2.1).zip (keysA l)) := List.mergeSort_perm _ _
    have em : (((xs.map fun e => V.ref e.2.1).zip (keysA l)).mergeSort (PySem.W.dataLe false fun z : V × α => enc z.2)).map (·.2) = sortE enc (keysA l) := by
      have := PySem.W.sort_maps (r := PySem.W.dataLe false fun z : V × α => enc z.2) (s := PySem.W.dataLe false enc) (fun z : V × α => z.2) (l := (xs.map fun e => V.ref e.2.1).zip (keysA l)) (fun a _ b _ => rfl)
      rw [e2] at this
      exact this
    refine ⟨.ref h1.objs.size, upd H h1.objs.size (.lst ((((xs.map fun e => V.ref e.2.1).zip (keysA l)).mergeSort (PySem.W.dataLe false fun z : V × α => enc z.2)).map (·.1))), I1.laid (t' := tk) kp2 (Nat.le_refl _) ⟨?_, out, e, ov, he⟩, rfl, q _ _ (I1.hok.fresh (Nat.le_refl _)) ?_⟩
    · rw [List.length_map, perm.length_eq, lz]
      omega
    · rw [← em, List.map_map]
      exact rpAll_map fun z hz => e3 z (perm.mem_iff.mp hz)
theorem cr_listN (hc : X.calm = true) : CallR X (.type "list") (rListN X.prog X.w X.K) := by
  intro pins s σ H vs us Q I r h
  obtain ⟨a, α, enc, l, rfl, ⟨xs, hd, kx⟩, hz, q⟩ := h
  obtain ⟨u, rfl, ru⟩ := vals1 r
  obtain rfl : u = Value.ref a := ru
  obtain ⟨z, ys, nr, o, es, ep, h1, h2, h3, h4⟩ := ndr_raw I hd
  obtain ⟨sz, _⟩ := raw_at nr h4
  have lx : xs.length = l.length := Paired.length kx
  refine PySem.W.kdl_call (kdl_raw z h2 h3) (I.ok.hd hc) h1 (by omega) fun h' tk acc c' hk hD hacc => ?_
  have e := raw_all nr h4 (us := acc.toList) (by rw [Array.length_toList]; exact hacc.1) fun j v e => hacc.2 j v (by rw [← Array.getElem?_toList]; exact e)
  have hv : Vals (xs.map fun e => V.ref e.2.1) acc.toList := by
    rw [e]
    have : ∀ xs : Nx, Vals (xs.map fun e => V.ref e.2.1) (xs.map fun e => Value.ref e.2.1) := fun xs => by
      induction xs with
      | nil => exact .nil
      | cons x r ih => exact .cons rfl ih
    exact this xs
  exact ⟨.ref s.heap.objs.size, upd H s.heap.objs.size (.lst (xs.map fun e => V.ref e.2.1)), I.laid (t' := tk) hk (Nat.le_refl _)
    (show ObjOk X.prog X.w _ _ _ (.lst (xs.map fun e => V.ref e.2.1)) from ⟨by rw [List.length_map]; omega, acc.toList, c', hv, by rw [Array.toArray_toList]; exact hD⟩), rfl, q _ _ (I.hok.fresh (Nat.le_refl _)) kx.all⟩
theorem cr_lenN : CallR X (.builtin "len") (rLenN X.prog X.w X.K) := by
  intro pins s σ H vs us Q I r h
  obtain ⟨a, α, enc, l, rfl, ⟨xs, hd, kx⟩, ok, hz, q⟩ := h
  obtain ⟨u, rfl, ru⟩ := vals1 r
  obtain rfl : u = Value.ref a := ru
  obtain ⟨z, ys, nr, dd⟩ := ndr_of I hd (kx.ks ok)
  have lx : xs.length = l.length := Paired.length kx
  have ly : xs.length = ys.length := Paired.length nr
  refine call_len_dictH z dd (by rw [sizeLine_eq] at hz; omega) ?_
  rw [show ys.length = l.length by omega]
  exact ⟨.int (l.length : Nat), H, I.tok _, ⟨_, rfl⟩, q⟩
theorem truthy_dictH {prog : Program} {w : World} {K : Type} [DecidableEq K] {knd : HeapKind prog w K} {A : Around} {E : Value → Shared → Prop} {s : Shared} {d : Addr} {xs : List (K × Addr × Value)} {Q : Bool → Shared → Prop} (hd : (d == sysModules) = false) (hm : s.heap.DictOfH knd d xs) (hfit : (xs.length : Int) < 2 ^ 63)
    (h : Q (!xs.isEmpty) { s with toks := s.toks + 1 + 1 }) : wpAny (model prog w) A (truthy (.ref d)) Q E s := by
  have hne : ((xs.length : Int) != 0) = !xs.isEmpty := by cases xs <;> simp <;> omega
  have key : wpAny (model prog w) A (runValue (.builtin "len" ⟨[.ref d], []⟩)) (fun r s' => r = .int xs.length (s.toks + 1) ∧ Q (!xs.isEmpty) s') E s := by
    refine wpAny_runValue (codeAny_builtin entry_len ?_)
    rw [Around.under_plainId plain_len _]
    exact wpAny_mono (wpAny_len_body_dictH (Q := fun r s' => r = .int xs.length (s.toks + 1) ∧ Q (!xs.isEmpty) s') hd hm hfit ⟨rfl, h⟩)
      (fun fin s' h' => by obtain ⟨r, rfl, hq⟩ := h'; exact hq) fun _ _ e => e
  unfold truthy
  first
    | refine wpAny_bind (wpAny_callSpecial?_none (name := Str.ofString "__bool__") hm.typeIs noBool_dict ?_)
    | refine wpAny_bind (wpAny_pure (wpAny_bind (wpAny_callSpecial?_none (name := Str.ofString "__bool__") hm.typeIs noBool_dict ?_)))
  first
    | refine wpAny_bind (wpAny_specialOf (name := Str.ofString "__len__") hm.typeIs F.slot_dict_len.lookup ?_)
    | refine wpAny_bind (wpAny_pure (wpAny_bind (wpAny_specialOf (name := Str.ofString "__len__") hm.typeIs F.slot_dict_len.lookup ?_)))
  first
    | exact wpAny_bind (wpAny_mono key (fun r s' h' => by obtain ⟨rfl, hq⟩ := h'; exact wpAny_pure (hne ▸ hq)) fun _ _ e => e)
    | exact wpAny_bind (wpAny_pure (wpAny_bind (wpAny_mono key (fun r s' h' => by obtain ⟨rfl, hq⟩ := h'; exact wpAny_pure (hne ▸ hq)) fun _ _ e => e)))
theorem tru_dictN : TruR X (rTruN X.prog X.w X.K) := by
  intro pins s σ H x v Q I rx h
  obtain ⟨a, α, enc, l, rfl, ⟨xs, hd, kx⟩, ok, hz, q⟩ := h
  obtain rfl : v = Value.ref a := rx
  obtain ⟨z, ys, nr, dd⟩ := ndr_of I hd (kx.ks ok)
  have lx : xs.length = l.length := Paired.length kx
  have ly : xs.length = ys.length := Paired.length nr
  refine truthy_dictH z dd (by rw [sizeLine_eq] at hz; omega) ?_
  have e : ys.isEmpty = l.isEmpty := by
    have h : ys.length = l.length := by omega
    rw [Bool.eq_iff_iff, List.isEmpty_iff_length_eq_zero, List.isEmpty_iff_length_eq_zero, h]
  rw [e]
  exact ⟨H, I.tok _, q⟩
/-- {} -/
def tENew (P : Program) (w : World) : TE := fun _ H Q => ∀ p, H p = none → Q (.ref p) (upd H p (NdO P w p []))
theorem pe_enew {pos : Pos} : PE X (.Dict [] [] pos) (tENew X.prog X.w) := by
  refine ⟨fun pins s σ H Q I q => wpAny_Dict_empty ?_⟩
  have zs : (s.heap.objs.size == sysModules) = false := beq_eq_false_iff_ne.mpr (Ne.symm (Nat.ne_of_lt I.big))
  have I1 := I.laid (a := s.heap.objs.size) (o := NdO X.prog X.w s.heap.objs.size []) (h' := s.heap.push { cls := .type "dict", data := .dict #[] }) (t' := s.toks) (fun _ _ q => Heap.get?_push_of_some _ q) (Nat.le_refl _)
    (ndO_ok ⟨zs, [], .nil, List.nodup_nil, _, #[], 0, Heap.get?_push_size _ rfl, ⟨rfl, rfl, rfl⟩, rfl, rfl⟩)
  exact ⟨.ref s.heap.objs.size, _, I1, rfl, q _ (I.hok.fresh (Nat.le_refl _))⟩
end
/-! for k in d -/
def Itn (P : Program) (w : World) (d : Addr) (o : Obj) (xs : Nx) : It :=
  ⟨fun i H => H d = some (.frz o (NdO P w d xs)) ∧ i < xs.length, fun i H x H' => H' = H ∧ ∃ e, xs[i]? = some e ∧ x = .ref e.2.1, fun i H => H d = some (.frz o (NdO P w d xs)) ∧ xs.length ≤ i⟩
theorem frzN {X : Cx} {pins : List (Addr × Obj)} {σ : L2.St} {H : Hp} {s : Shared} {d : Addr} {o : Obj} {xs : Nx} (I : Inv X pins σ H s) (h : H d = some (.frz o (NdO X.prog X.w d xs))) :
    (d == sysModules) = false ∧ s.heap.get? d = some o ∧ o.ExactDict ∧ ∃ (es : Array DictEntry) (ep : Nat), o.data = .dict es ep ∧ es.size = xs.length ∧ ∀ (i : Nat) (e : NestedKey × Addr × V), xs[i]? = some e → ∃ en, es[i]? = some en ∧ en.key = .ref e.2.1 := by
  obtain ⟨hd, ⟨z, ys, nr, nd, o', es, ep, h1, h2, h3, h4⟩, _, _⟩ := I.hok d _ h
  rw [hd] at h1
  cases h1
  obtain ⟨sz, at_⟩ := raw_at nr h4
  exact ⟨z, hd, h2, es, ep, h3, sz, at_⟩
theorem turn_nkeys {P : Program} {w : World} {K : PySem.W.Frag} {tg : Expr} {d : Addr} {o : Obj} {es : Array DictEntry} {ep : Nat} {xs : Nx} (it : Addr) (hod : o.data = .dict es ep) : Turn P w K tg (Itn P w d o xs) [it] it (fun i h => h.IsKeyIter it d i xs.length ep) where
  mem := by simp
  obj := fun i h st b hb => by
    have e : b = it := by simpa using hb
    subst e
    obtain ⟨oi, e, c, dd⟩ := st
    exact ⟨oi, e, fun v z => by rw [dd] at z; cases z⟩
  keep := fun i h h' st k => st.at fun oi e => k it (by simp) oi e
  item := by
    intro X hP hw hK hc i pins s σ H E I hf st hg
    subst hP hw hK
    obtain ⟨hd, hi⟩ := hg
    obtain ⟨f0, f1, f2, f3, f4, f5⟩ := hf it (by simp)
    obtain ⟨hs, hgd, hx, es', ep', hdt, hsz, ent⟩ := frzN I hd
    obtain ⟨rfl, rfl⟩ := dict_ep hod hdt
    obtain ⟨x, hxi⟩ : ∃ p, xs[i]? = some p := ⟨xs[i], List.getElem?_eq_getElem hi⟩
    obtain ⟨en, hen, hkey⟩ := ent i x hxi
    refine next_key_item st hgd hdt hsz hen fun h' st' sb => ?_
    have I1 : Inv X pins σ H { s with heap := h' } := I.turned (t' := s.toks) (fun b ob hb e => (sb.2 b hb).trans e) f0 f1 f3 f4 f5
    obtain ⟨oi, e, c, dd⟩ := id st'
    exact ⟨en.key, rfl, go_of (s := { s with heap := h' }) e c dd (by decide) ⟨.ref x.2.1, H, I1, hkey, ⟨rfl, x, hxi, rfl⟩, st', fun b hb => (hf b hb).1⟩⟩
  done := by
    intro X hP hw hK hc i pins s σ H E I hf st hg
    subst hP hw hK
    obtain ⟨hd, hi⟩ := hg
    obtain ⟨f0, f1, f2, f3, f4, f5⟩ := hf it (by simp)
    obtain ⟨hs, hgd, hx, es', ep', hdt, hsz, ent⟩ := frzN I hd
    obtain ⟨rfl, rfl⟩ := dict_ep hod hdt
    exact next_key_end (I.ok.hd hc) st hgd hdt hsz hi fun h' eb => ⟨rfl, I.turned (t' := s.toks) (fun b ob hb e => eb b ob hb e) f0 f1 f3 f4 f5⟩
  self := fun A i s Q E st h => wpAny_pyIter_keyiter st h
def iNKeys (P : Program) (w : World) (td : TE) : TI := fun σ H R => td σ H fun x H1 => ∃ d o xs, x = .ref d ∧ H1 d = some (.frz o (NdO P w d xs)) ∧ R (Itn P w d o xs) H1
theorem pi_nkeys {X : Cx} {tg e : Expr} {td : TE} (he : PE X e td) : PI X tg e (iNKeys X.prog X.w td) := by
  refine ⟨fun pins s σ H R I h => ?_⟩
  refine thn (he.run pins s σ H _ I h) fun u s1 ⟨x, H1, I1, rx, d, o, xs, ex, hd, q⟩ => ?_
  subst ex
  obtain rfl : u = Value.ref d := rx
  obtain ⟨hs, hgd, hx, es, ep, hdt, hsz, ent⟩ := frzN I1 hd
  refine iter_keys hs hgd hx hdt (pi_one (tk := s1.toks) I1 _ (turn_nkeys _ hdt) ⟨_, Heap.get?_push_size _ rfl, rfl, ?_⟩ q)
  rw [hsz] <;> rfl
theorem walk_nkeys {P : Program} {w : World} {d : Addr} {o : Obj} {xs : Nx} : Walk (Itn P w d o xs) xs.length (fun H => H d = some (.frz o (NdO P w d xs))) (fun i H x H' => H' = H ∧ ∃ e, xs[i]? = some e ∧ x = .ref e.2.1) :=
  ⟨fun _ _ hi q => ⟨q, hi⟩, fun _ q => ⟨q, Nat.le_refl _⟩, fun _ _ _ _ _ _ y => y⟩
end My
/-! ### standings -/
namespace My
open PySem PySem.Spec PyProof.Rows L2 PySem.Builtin.Str
structure Sg where
  p : Int
  s : Int
  L : List (Int × Int)
  deriving DecidableEq
def eSg (t : Sg) : PyData := .tuple [.int t.p, .int t.s, .tuple (t.L.map eP)]
theorem keyNs_eP : ∀ l : List (Int × Int), keyNs (l.map eP) = l.map fun q => NestedKey.tup [.num q.1, .num q.2]
  | [] => by rw [List.map_nil, keyNs, List.map_nil]
  | q :: l => by
    rw [List.map_cons, keyNs, keyNs_eP l, List.map_cons]
    rfl
theorem keyN_sg (t : Sg) : keyN (eSg t) = .tup [.num t.p, .num t.s, .tup (t.L.map fun q => .tup [.num q.1, .num q.2])] := by
  show keyN (.tuple _) = _
  simp only [eSg, keyN, keyNs, keyNs_eP]
theorem map_pair_inj : ∀ {l m : List (Int × Int)}, (l.map fun q => NestedKey.tup [.num q.1, .num q.2]) = (m.map fun q => NestedKey.tup [.num q.1, .num q.2]) → l = m
  | [], [], _ => rfl
  | [], _ :: _, h => by simp at h
  | _ :: _, [], h => by simp at h
  | a :: l, b :: m, h => by
    rw [List.map_cons, List.map_cons] at h
    injection h with h1 h2
    injection h1 with h1
    injection h1 with h3 h4
    injection h4 with h4 _
    injection h3 with h3
    injection h4 with h4
    rw [map_pair_inj h2, Prod.ext h3 h4]
theorem depth_pairs : ∀ l : List (Int × Int), NestedKey.depthAll (l.map fun q => NestedKey.tup [.num q.1, .num q.2]) ≤ 1
  | [] => by simp [NestedKey.depthAll]
  | q :: l => by
    rw [List.map_cons, NestedKey.depthAll]
    have := depth_pairs l
    simp [NestedKey.depth, NestedKey.depthAll]
    omega
theorem alike_pairs : ∀ l m : List (Int × Int), PySem.W.alikeAll (l.map eP) (m.map eP) = true
  | [], _ => by simp [PySem.W.alikeAll]
  | _ :: _, [] => by simp [PySem.W.alikeAll]
  | a :: l, b :: m => by
    rw [List.map_cons, List.map_cons, PySem.W.alikeAll, alike_pairs l m]
    simp [eP, PySem.W.alike, PySem.W.alikeAll]
theorem eqv_pairs : ∀ l m : List (Int × Int), PyData.eqvAll (l.map eP) (m.map eP) = true → l = m
  | [], [], _ => rfl
  | [], _ :: _, h => by simp [PyData.eqvAll] at h
  | _ :: _, [], h => by simp [PyData.eqvAll] at h
  | a :: l, b :: m, h => by
    rw [List.map_cons, List.map_cons, PyData.eqvAll, Bool.and_eq_true, eqv_eP, decide_eq_true_eq] at h
    rw [h.1, eqv_pairs l m h.2]
theorem depthD_pairs : ∀ l : List (Int × Int), PyData.depthAll (l.map eP) ≤ 1
  | l => (lay_eP l).2.1
theorem enc_sg : EncOk eSg := by
  refine ⟨fun a b h => ?_, fun a => ?_, fun a => ?_, fun a => ⟨_, _, rfl⟩, fun a b => ?_, fun a b h => ?_, fun a => ?_⟩
  · rw [keyN_sg, keyN_sg] at h
    injection h with h
    injection h with h1 h
    injection h with h2 h
    injection h with h3 _
    injection h1 with h1
    injection h2 with h2
    injection h3 with h3
    obtain ⟨p, s, L⟩ := a
    obtain ⟨p', s', L'⟩ := b
    simp only at h1 h2 h3
    rw [h1, h2, map_pair_inj h3]
  · simp only [eSg, tO, tOs, Bool.true_and, Bool.and_true]
    exact tOs_map tO_eP a.L
  · rw [keyN_sg]
    have := depth_pairs a.L
    simp [NestedKey.depth, NestedKey.depthAll]
    omega
  · simp only [eSg, PySem.W.alike, PySem.W.alikeAll, Bool.true_and, Bool.and_true]
    exact alike_pairs a.L b.L
  · simp only [eSg, PyData.eqv, PyData.eqvAll, Bool.and_eq_true, decide_eq_true_eq, Bool.and_true] at h
    obtain ⟨h1, h2, h3⟩ := h
    obtain ⟨p, s, L⟩ := a
    obtain ⟨p', s', L'⟩ := b
    simp only at h1 h2 h3
    rw [eqv_pairs _ _ h3]
    simp_all
  · simp only [eSg, PyData.depth, PyData.depthAll]
    have := depthD_pairs a.L
    omega
/-! dicts with all values changed -/
def mapD (f : Int → Int) (D : Dk) : Dk := D.map fun kv => (kv.1, f kv.2)
theorem getI_mapD (f : Int → Int) (k : Int) : ∀ D : Dk, getI (mapD f D) k = (getI D k).map f
  | [] => rfl
  | p :: r => by
    show getI ((p.1, f p.2) :: mapD f r) k = _
    rw [getI_cons, getI_cons, getI_mapD f k r]
    by_cases e : p.1 = k <;> simp [e]
theorem keys_mapD (f : Int → Int) (D : Dk) : keysI (mapD f D) = keysI D := by
  unfold keysI mapD
  rw [List.map_map]
  rfl
theorem putI_mapD (f : Int → Int) (D : Dk) (k v : Int) : putI (mapD f D) k (f v) = mapD f (putI D k v) := by
  unfold putI
  rw [getI_any, getI_any, getI_mapD, Option.isSome_map]
  split
  · unfold mapD
    rw [List.map_map, List.map_map]
    refine List.map_congr_left fun p _ => ?_
    show (if p.1 = k then (p.1, f v) else (p.1, f p.2)) = (fun kv : Int × Int => (kv.1, f kv.2)) (if p.1 = k then (p.1, v) else p)
    split <;> rfl
  · unfold mapD
    rw [List.map_append]
    rfl
theorem len_mapD (f : Int → Int) (D : Dk) : (mapD f D).length = D.length := List.length_map _
/-! one step on -/
structure Ct where
  M : Mc
  N : Mc
  R : List (List (Option Int))
def Ct.over (C : Ct) : Int := max 0 (maxL (paysL C.N) - minL (paysL C.M))
def Ct.below (C : Ct) : Int := max 0 (maxL (paysL C.M) - minL (paysL C.N))
def placeOn (R : List (List (Option Int))) (at_ : Nat) (p : Int) : Option Int := (R.getD p.toNat []).getD at_ none
def nearG (C : Ct) (at_ : Nat) (t : Sg) : Dk := gainOf (chP C.N at_) t.L
def aheadOf (b pay : Int) (G : Dk) : List (Int × Int) := (sortI (keysI G)).map fun e => (e, b * (pay - (getI G e).getD 0))
def vainB (b below lead : Int) : Bool := decide (below * b ≤ -lead * (b - 1))
def keepB (b over lead : Int) : Bool := decide (lead * (b - 1) ≤ over * b)
def goOn (C : Ct) (at_ : Nat) (t : Sg) (p' : Int) (q : Int × Int) : Option Sg :=
  if ((aheadOf C.M.b q.1 (nearG C at_ t)).any fun e => vainB C.M.b C.below e.2) = true then none
  else some ⟨p', q.2, (aheadOf C.M.b q.1 (nearG C at_ t)).filter fun e => keepB C.M.b C.over e.2⟩
def succOf (C : Ct) (at_ : Nat) (t : Sg) : List Sg := match placeOn C.R at_ t.p with
  | none => []
  | some p' => (chP C.M at_ t.s).filterMap (goOn C at_ t p')
def FIRSTg : Sg := ⟨0, 0, [(0, 0)]⟩
/-- what keeps the contest right -/
structure Cok (C : Ct) : Prop where
  m : Mok C.M
  n : Mok C.N
  bb : C.N.b = C.M.b
  zz : C.N.z = C.M.z
  r1 : 1 ≤ C.R.length
  r4 : C.R.length ≤ 4
  row : ∀ r ∈ C.R, RowOk C.M.z.length C.R.length r
/-- a standing of the contest -/
structure Sok (C : Ct) (t : Sg) : Prop where
  p0 : 0 ≤ t.p
  p1 : t.p ≤ (C.R.length : Int) - 1
  s0 : 0 ≤ t.s
  s1 : t.s ≤ (C.M.C.length : Int) - 1
  kin : Kin C.N.C.length t.L
  asc : t.L.Pairwise fun a b => a.1 < b.1
  bd : Bd 200 t.L
  few : t.L.length ≤ 60
theorem sok_first {C : Ct} (h : Cok C) : Sok C FIRSTg := by
  have h1 := h.r1
  have h2 := h.m.c1
  have h3 := h.n.c1
  refine ⟨Int.le_refl _, by show (0 : Int) ≤ _; omega, Int.le_refl _, by show (0 : Int) ≤ _; omega, ⟨by simp [FIRSTg, keysI], fun k hk => ?_⟩, by simp [FIRSTg], fun kv hkv => ?_, (by show 1 ≤ 60; decide)⟩
  · have : k = 0 := by simpa [FIRSTg, keysI] using hk
    omega
  · obtain rfl : kv = (0, 0) := by simpa [FIRSTg] using hkv
    decide +kernel
theorem near_kin {C : Ct} (h : Cok C) {at_ : Nat} {t : Sg} : Kin C.N.C.length (nearG C at_ t) := gain_kin h.n
theorem few_on2 {M : Mc} (h : Mok M) {at_ : Nat} {f : Int → Int → Int} {D : Dk} {n : Nat} (hd : D.length ≤ n) (hn : 4 ≤ n) : (bestOn (chP M at_) f D []).length ≤ n := by
  rcases h.few with c4 | one
  · have := kin_len (n := M.C.length) (d := bestOn (chP M at_) f D []) (kin_on (kin_nil _) fun kv _ p hp => ⟨(ch_rg h hp).2.2.1, (ch_rg h hp).2.2.2⟩)
    omega
  · have := on_len (P := chP M at_) (f := f) (fun s => by
      cases e : chP M at_ s with
      | nil => exact Nat.zero_le _
      | cons p r =>
        obtain ⟨cs, hcs, ps, hps, _, e2⟩ := ch_mem h (at_ := at_) (s := s) (p := p) (by rw [e]; exact .head _)
        rw [← e, e2, one cs hcs ps hps]
        exact Nat.le_refl _) D []
    rw [List.length_nil] at this
    omega
theorem near_few {C : Ct} (h : Cok C) {at_ : Nat} {t : Sg} (ht : t.L.length ≤ 60) : (nearG C at_ t).length ≤ 60 := few_on2 h.n ht (by decide)
theorem ahead_len (b pay : Int) (G : Dk) : (aheadOf b pay G).length = G.length := by
  unfold aheadOf
  rw [List.length_map, (sort_perm _).length_eq]
  unfold keysI
  exact List.length_map _
theorem ahead_keys (b pay : Int) (G : Dk) : (aheadOf b pay G).map (·.1) = sortI (keysI G) := by
  unfold aheadOf
  rw [List.map_map]
  exact List.map_id _
theorem ahead_asc {b pay : Int} {G : Dk} (nd : (keysI G).Nodup) : (aheadOf b pay G).Pairwise fun x y => x.1 < y.1 := by
  unfold aheadOf
  rw [List.pairwise_map]
  have n2 : (sortI (keysI G)).Nodup := (sort_perm _).nodup_iff.mpr nd
  exact (List.Pairwise.and (sort_sorted (keysI G)) n2).imp fun h => by
    have h1 := h.1
    have h2 := h.2
    show _ < _
    omega
theorem mul_bound {b k : Int} (b2 : 2 ≤ b) (h : 0 ≤ k) : k ≤ k * (b - 1) := by
  have := Int.mul_le_mul_of_nonneg_left (show (1 : Int) ≤ b - 1 by omega) h
  omega
theorem over_rg {C : Ct} (h : Cok C) : 0 ≤ C.over ∧ C.over ≤ 2 * wideN ∧ 0 ≤ C.below ∧ C.below ≤ 2 * wideN := by
  have a1 := pays_rg h.m _ (maxL_mem (pays_ne h.m))
  have a2 := pays_rg h.m _ (minL_mem (pays_ne h.m))
  have a3 := pays_rg h.n _ (maxL_mem (pays_ne h.n))
  have a4 := pays_rg h.n _ (minL_mem (pays_ne h.n))
  have w := wide_two.2
  unfold Ct.over Ct.below
  omega
/-- what a lead that is kept can be -/
theorem kept_rg {b over below k : Int} (b2 : 2 ≤ b) (b9 : b ≤ 9) (o0 : 0 ≤ over) (l0 : 0 ≤ below) (hv : vainB b below k = false) (hk : keepB b over k = true) : -(9 * below) ≤ k ∧ k ≤ 9 * over := by
  unfold vainB at hv
  unfold keepB at hk
  have h1 := of_decide_eq_false hv
  have h2 := of_decide_eq_true hk
  have a1 : over * b ≤ over * 9 := Int.mul_le_mul_of_nonneg_left b9 o0
  have a2 : below * b ≤ below * 9 := Int.mul_le_mul_of_nonneg_left b9 l0
  rcases Int.le_total 0 k with p | p
  · have := mul_bound b2 p
    omega
  · have := mul_bound b2 (show 0 ≤ -k by omega)
    omega
theorem go_sok {C : Ct} (h : Cok C) {at_ : Nat} {t u : Sg} {p' : Int} {q : Int × Int} (ht : t.L.length ≤ 60) (hp : 0 ≤ p' ∧ p' ≤ (C.R.length : Int) - 1) (hq : q ∈ chP C.M at_ t.s) (e : goOn C at_ t p' q = some u) : Sok C u := by
  unfold goOn at e
  split at e
  · cases e
  · rename_i nv
    cases e
    have nk := near_kin h (at_ := at_) (t := t)
    have qr := ch_rg h.m hq
    have asc := ahead_asc (b := C.M.b) (pay := q.1) nk.nd
    have mem : ∀ e ∈ aheadOf C.M.b q.1 (nearG C at_ t), e.1 ∈ keysI (nearG C at_ t) := fun e he => by
      have : e.1 ∈ (aheadOf C.M.b q.1 (nearG C at_ t)).map (·.1) := List.mem_map_of_mem he
      rw [ahead_keys] at this
      exact (sort_perm _).mem_iff.mp this
    refine ⟨hp.1, hp.2, qr.2.2.1, qr.2.2.2, ⟨?_, fun k hk => ?_⟩, asc.filter _, fun kv hkv => ?_, ?_⟩
    · unfold keysI
      rw [List.Nodup, List.pairwise_map]
      exact (asc.filter _).imp fun h => Int.ne_of_lt h
    · obtain ⟨e, he, rfl⟩ := List.mem_map.mp hk
      exact nk.rg _ (mem e (List.mem_filter.mp he).1)
    · obtain ⟨h1, h2⟩ := List.mem_filter.mp hkv
      have hv : vainB C.M.b C.below kv.2 = false := by
        rcases SrtO.bcase (vainB C.M.b C.below kv.2) with z | z
        · exact absurd (List.any_eq_true.mpr ⟨kv, h1, z⟩) nv
        · exact z
      have o := over_rg h
      have k := kept_rg h.m.b2 h.m.b9 o.1 o.2.2.1 hv h2
      have w : 18 * wideN < 2 ^ 199 := by decide +kernel
      have w2 : ((2 : Int) ^ 199).natAbs < 2 ^ 200 := by decide +kernel
      show kv.2.natAbs < 2 ^ 200
      omega
    · have l1 := List.length_filter_le (fun e : Int × Int => keepB C.M.b C.over e.2) (aheadOf C.M.b q.1 (nearG C at_ t))
      rw [ahead_len] at l1
      exact Nat.le_trans l1 (near_few h ht)
theorem place_rg {C : Ct} (h : Cok C) {at_ : Nat} {p p' : Int} (e : placeOn C.R at_ p = some p') : 0 ≤ p' ∧ p' ≤ (C.R.length : Int) - 1 := by
  unfold placeOn at e
  rw [List.getD_eq_getElem?_getD (l := C.R)] at e
  cases e1 : C.R[p.toNat]? with
  | none => rw [e1] at e; simp at e
  | some r =>
    rw [e1, Option.getD_some, List.getD_eq_getElem?_getD] at e
    cases e2 : r[at_]? with
    | none => rw [e2] at e; cases e
    | some x =>
      rw [e2] at e
      obtain rfl : x = some p' := e
      have := (h.row r (List.mem_of_getElem? e1)).range p' (List.mem_of_getElem? e2)
      omega
theorem succ_sok {C : Ct} (h : Cok C) {at_ : Nat} {t u : Sg} (ht : t.L.length ≤ 60) (hu : u ∈ succOf C at_ t) : Sok C u := by
  unfold succOf at hu
  split at hu
  · cases hu
  · rename_i p' e
    obtain ⟨q, hq, e2⟩ := List.mem_filterMap.mp hu
    exact go_sok h ht (place_rg h e) hq e2
end My
/-! ### the successors -/
namespace My
open PySem PySem.Spec PyProof.Rows L2 PySem.Builtin.Str
abbrev sSucc : Stmt := topS 50
abbrev sHasWon : Stmt := topS 52
theorem scSucc : FnScope ["contest", "standing", "at", "base", "_", "places", "ones", "others", "over", "below", "place", "state", "leads", "after", "nearest", "rival", "lead", "loss", "to", "found", "pay", "later", "ahead", "end", "pair"] ["contest", "standing", "at"] (defScope sSucc) := ⟨rfl, rfl, rfl, by decide +kernel, rfl, by decide +kernel, by decide +kernel⟩
theorem scHasWon : FnScope ["level", "standing"] ["level"] (defScope sHasWon) := ⟨rfl, rfl, rfl, by decide +kernel, rfl, by decide +kernel, by decide +kernel⟩
abbrev sIsWon : Stmt := topS 51
theorem scIsWon : FnScope ["standing"] ["standing"] (defScope sIsWon) := ⟨rfl, rfl, rfl, by decide +kernel, rfl, by decide +kernel, by decide +kernel⟩
structure SuTxt (K : PySem.W.Frag) (mg : Str → Option Value) (g1 g2 g3 : Addr) (e1 e2 e3 : FuncData) : Prop where
  sorted : mg "sorted" = none
  any : mg "any" = none
  tuple : mg "tuple" = none
  FSucc : Fun K "successors" "successors" sSucc g1 e1
  bSucc : Binds K e1 ["contest", "standing", "at"] []
  gSucc : mg "successors" = some (.ref g1)
  FIsWon : Fun K "is_won" "is_won" sIsWon g2 e2
  bIsWon : Binds K e2 ["standing"] []
  gIsWon : mg "is_won" = some (.ref g2)
  FHasWon : Fun K "has_won" "has_won" sHasWon g3 e3
  bHasWon : Binds K e3 ["level"] []
  gHasWon : mg "has_won" = some (.ref g3)
def eCt (C : Ct) : PyData := .tuple [.int C.M.b, .str C.M.z, .tuple (rowsD C.R), .tuple (C.M.C.map eS), .tuple (C.N.C.map eS), .int C.over, .int C.below]
theorem stV_of {K : PySem.W.Frag} {H : Hp} {v : V} {o : Option Int} (h : Rp K H v (stD o)) : v = stV o := by
  cases o with
  | none =>
    have h2 : Rp K H v .none := h
    cases h2
    rfl
  | some i => exact Rp.isInt (show Rp K H v (.int i) from h)
theorem ct_top {K : PySem.W.Frag} {H : Hp} {x : V} {C : Ct} (hx : Rp K H x (eCt C)) : ∃ a rt rs c1 us c2 ws, x = .ref a ∧ SqT K H a [.int C.M.b, .str C.M.z, .ref rt, .ref c1, .ref c2, .int C.over, .int C.below] ∧ SqT K H rt rs ∧ RpAll K H rs (rowsD C.R) ∧ SqT K H c1 us ∧ RpAll K H us (C.M.C.map eS) ∧ SqT K H c2 ws ∧ RpAll K H ws (C.N.C.map eS) := by
  obtain ⟨a, ys, rfl, hS, hA⟩ := Rp.isTup hx
  cases hA with
  | cons h0 hA => cases hA with
    | cons h1 hA => cases hA with
      | cons h2 hA => cases hA with
        | cons h3 hA => cases hA with
          | cons h4 hA => cases hA with
            | cons h5 hA => cases hA with
              | cons h6 hA =>
                cases hA
                obtain ⟨rt, rs, rfl, r1, r2⟩ := Rp.isTup h2
                obtain ⟨c1, us, rfl, r3, r4⟩ := Rp.isTup h3
                obtain ⟨c2, ws, rfl, r5, r6⟩ := Rp.isTup h4
                cases h0.isInt
                cases h5.isInt
                cases h6.isInt
                obtain ⟨_, rfl, e2, _⟩ := h1.isStr rfl
                cases e2
                exact ⟨a, rt, rs, c1, us, c2, ws, rfl, hS, r1, r2, r3, r4, r5, r6⟩
theorem sg_top {K : PySem.W.Frag} {H : Hp} {y : V} {t : Sg} (hy : Rp K H y (eSg t)) : ∃ a l vs, y = .ref a ∧ SqT K H a [.int t.p, .int t.s, .ref l] ∧ SqT K H l vs ∧ RpAll K H vs (t.L.map eP) := by
  obtain ⟨a, ys, rfl, hS, hA⟩ := Rp.isTup hy
  obtain ⟨u, w, v, p, s, q, rfl, e, h1, h2, h3⟩ := hA.three rfl
  cases e
  cases h1.isInt
  cases h2.isInt
  obtain ⟨l, vs, rfl, r1, r2⟩ := Rp.isTup h3
  exact ⟨a, l, vs, rfl, hS, r1, r2⟩
theorem row_at {K : PySem.W.Frag} {H : Hp} {rs : List V} {R : List (List (Option Int))} {n at_ : Nat} {p : Int} (hA : RpAll K H rs (rowsD R)) (hr : ∀ r ∈ R, r.length = n) (p0 : 0 ≤ p) (p1 : p ≤ (R.length : Int) - 1) (ha : at_ < n) :
    ∃ ra ys, atI rs p = some (.ref ra) ∧ SqT K H ra ys ∧ atI ys (at_ : Int) = some (stV (placeOn R at_ p)) := by
  have hp : p.toNat < R.length := by omega
  obtain ⟨u, hu, r1⟩ := rpAll_get (f := fun r : List (Option Int) => PyData.tuple (r.map stD)) hA (List.getElem?_eq_getElem hp)
  obtain ⟨ra, ys, rfl, hS, hA2⟩ := r1.isTup
  have ha2 : at_ < R[p.toNat].length := by rw [hr _ (List.getElem_mem hp)]; exact ha
  obtain ⟨u2, hu2, r2⟩ := rpAll_get hA2 (List.getElem?_eq_getElem ha2)
  have es : ((p.toNat : Nat) : Int) = p := by omega
  have e2 : placeOn R at_ p = R[p.toNat][at_] := by
    unfold placeOn
    rw [List.getD_eq_getElem?_getD (l := R), List.getElem?_eq_getElem hp, Option.getD_some, List.getD_eq_getElem?_getD, List.getElem?_eq_getElem ha2]
    rfl
  refine ⟨ra, ys, es ▸ atI_nat hu, hS, ?_⟩
  rw [e2, ← stV_of r2]
  exact atI_nat hu2
def neg1 (i : Int) : Int := -i
def spSucc (K : PySem.W.Frag) : Sp := fun vs H Q _ => ∃ (x y : V) (C : Ct) (t : Sg) (at_ : Nat), vs = [x, y, .int (at_ : Nat)] ∧ Rp K H x (eCt C) ∧ Cok C ∧ Rp K H y (eSg t) ∧ Sok C t ∧ at_ < C.M.z.length ∧
  ∀ H' l us, Same H H' → H l = none → H' l = some (.lst us) → RpAll K H' us ((succOf C at_ t).map eSg) → Q (.ref l) H'
theorem upd_id2 {H : Hp} {g : Addr} {o : HO} (h : H g = some o) : upd H g o = H := upd_id h
/-- if k not in d or u - v < d[k]: d[k] = u - v, what stands in d being negated -/
theorem lo_if {iT iD iA iB : Nat} {D : Ends} {σ : L2.St} {H : Hp} {g : Addr} {L : Dk} {k u v : Int} (e1 : σ[iT]? = some (some (.int k))) (e2 : σ[iD]? = some (some (.ref g))) (e3 : σ[iA]? = some (some (.int u))) (e4 : σ[iB]? = some (some (.int v))) (hg : H g = some (.dK (kd (mapD neg1 L)))) (hl : L.length < sizeLine)
    (h : D.nx σ (upd H g (.dK (kd (mapD neg1 (upMax L k (v - u))))))) :
    tIfS (tOr (tB (tDNotIn (tVar iT) (tVar iD))) (tTest (tOp (rI0 fun i j => V.bl (decide (i < j))) (tOp (rI0 fun i j => V.int (i - j)) (tVar iA) (tVar iB)) (tDGet (tVar iD) (tVar iT))))) (sDPut (tVar iD) (tVar iT) (tOp (rI0 fun i j => V.int (i - j)) (tVar iA) (tVar iB))) tNext D σ H := by
  have e5 : u - v = neg1 (v - u) := by unfold neg1; omega
  have put : upMax L k (v - u) = putI L k (v - u) → sDPut (tVar iD) (tVar iT) (tOp (rI0 fun i j => V.int (i - j)) (tVar iA) (tVar iB)) D σ H := fun e => by
    refine ⟨_, e3, _, e4, _, _, rfl, rfl, _, e2, _, e1, g, _, rfl, DPut.k (k := Sum.inl k) hg (by rw [kd_len, len_mapD]; exact hl), ?_⟩
    rw [kd_put, e5, putI_mapD, ← e]
    exact h
  refine ⟨_, e1, _, e2, g, _, rfl, kd_get (.inl hg), _, rfl, ?_⟩
  rw [getI_mapD]
  cases e : getI L k with
  | none => exact iteT (iteT (put (by unfold upMax; rw [e])))
  | some w =>
    refine iteF ⟨_, e3, _, e4, _, _, rfl, rfl, _, e2, _, e1, g, .int (neg1 w), rfl, ?_, _, _, rfl, rfl, _, rfl, ?_⟩
    · have := kd_get (d := mapD neg1 L) (k := k) (.inl hg)
      rw [getI_mapD, e] at this
      exact this
    · by_cases l : w < v - u
      · rw [decide_eq_true (show u - v < neg1 w by unfold neg1; omega)]
        exact iteT (put (by unfold upMax; rw [e]; exact if_pos l))
      · rw [decide_eq_false (show ¬ u - v < neg1 w by unfold neg1; omega)]
        have : upMax L k (v - u) = L := by unfold upMax; rw [e]; exact if_neg l
        rw [this, upd_id hg] at h
        exact iteF h
section
variable {P : Program} {w : World} {K : PySem.W.Frag} {mg : Str → Option Value} {base : Heap} {g1 g2 g3 : Addr} {e1 e2 e3 : FuncData}
theorem ok_succ (T : SuTxt K mg g1 g2 g3 e1 e2 e3) {k : Nat} : FnOk P w K mg base CX0 (k + 1) g1 e1 ["contest", "standing", "at"] (spSucc K) := by
  refine T.FSucc.ok scSucc (fun vs H Q E h => ?_) (fun cdv A outer s H vs Q E hr h => ?_)
  · obtain ⟨x, y, C, t, at_, rfl, _⟩ := h
    rfl
  · obtain ⟨x, y, C, t, at_, rfl, hx, hC, hy, ht, hat, q⟩ := h
    refine ⟨_, (Evl.pss_cut (ps_asg (pv 0) (pg_tup rfl (pgs_cons (pg_name (i := 3) scSucc.nd rfl (.inr rfl)) (pgs_cons (pg_name (i := 4) scSucc.nd rfl (.inl rfl)) (pgs_cons (pg_name (i := 5) scSucc.nd rfl (.inl rfl)) (pgs_cons (pg_name (i := 6) scSucc.nd rfl (.inl rfl)) (pgs_cons (pg_name (i := 7) scSucc.nd rfl (.inl rfl)) (pgs_cons (pg_name (i := 8) scSucc.nd rfl (.inr rfl)) (pgs_cons (pg_name (i := 9) scSucc.nd rfl (.inr rfl)) pgs_nil)))))))))
 (Evl.pss_cut (ps_asg (pv 1) (pg_tup rfl (pgs_cons (pg_name (i := 10) scSucc.nd rfl (.inl rfl)) (pgs_cons (pg_name (i := 11) scSucc.nd rfl (.inl rfl)) (pgs_cons (pg_name (i := 12) scSucc.nd rfl (.inl rfl)) pgs_nil)))))
 (Evl.pss_cut (ps_set (i := 13) scSucc.nd rfl (.inl rfl) (pe_ix ix_tup (pe_ix ix_tup (pv 5) (pv 10) (fun _ _ => rfl)) (pv 2) (fun _ _ => rfl)))
 (Evl.pss_cut (ps_if (pt_cmpR op_isN (pv 13) pe_non (nomark _)) (pss_one (ps_ret (pe_lst pa_nil))) pss_nil)
 (Evl.pss_cut (ps_set (i := 14) scSucc.nd rfl (.inr rfl) pe_dnewK)
 (Evl.pss_cut (ps_for PassesOwn.never rfl (pi_tup (pv 12)) (pg_tup rfl (pgs_cons (pg_name (i := 15) scSucc.nd rfl (.inl rfl)) (pgs_cons (pg_name (i := 16) scSucc.nd rfl (.inl rfl)) pgs_nil)))
 (pss_one (ps_for PassesOwn.never rfl (pi_tup (pe_ix ix_tup (pe_ix ix_tup (pv 7) (pv 15) (fun _ _ => rfl)) (pv 2) (fun _ _ => rfl))) (pg_tup rfl (pgs_cons (pg_name (i := 17) scSucc.nd rfl (.inl rfl)) (pgs_cons (pg_name (i := 18) scSucc.nd rfl (.inl rfl)) pgs_nil)))
 (pss_one (ps_if (PW.pt (pw_or (pt_cmp (pc_dnotin (hu_of hr) (pv 18) (pv 14))) (pw_or1 (pt_cmpR op_lt (pe_op op_sub (pv 16) (pv 17)) (pe_dget (hu_of hr) (pv 14) (pv 18) (fun _ _ => rfl)) (nomark _))))) (pss_one (ps_dput (hu_of hr) (pv 14) (pv 18) (pe_op op_sub (pv 16) (pv 17)) rfl)) pss_nil)))))
 (Evl.pss_cut (ps_set (i := 19) scSucc.nd rfl (.inl rfl) (pe_lst pa_nil))
 (Evl.pss_cut (ps_for PassesOwn.never rfl (pi_tup (pe_ix ix_tup (pe_ix ix_tup (pv 6) (pv 11) (fun _ _ => rfl)) (pv 2) (fun _ _ => rfl))) (pg_tup rfl (pgs_cons (pg_name (i := 20) scSucc.nd rfl (.inr rfl)) (pgs_cons (pg_name (i := 21) scSucc.nd rfl (.inl rfl)) pgs_nil)))
 (Evl.pss_cut (ps_setLc (i := 22) (own := [("end", 23)]) (g := gName 23) (tt := tYes) (by rfl) scSucc.nd rfl rfl (sw_true rfl rfl rfl (by decide +kernel)) (pi_list (pe_callB (call_sortedDI rfl) (by rfl) T.sorted (by decide +kernel) (pa_cons (pv 14) pa_nil))) (blkOk_by (N := ["contest", "standing", "at", "base", "_", "places", "ones", "others", "over", "below", "place", "state", "leads", "after", "nearest", "rival", "lead", "loss", "to", "found", "pay", "later", "ahead", "end", "pair"]) (sc := defScope sSucc) (by decide +kernel)) (fun _ _ _ _ _ => pg_name (i := 23) scSucc.nd rfl (Or.inl rfl)) (fun _ _ _ _ _ => pts_nil) (fun _ _ _ _ _ => (pe_tup (pa_cons (pv 23) (pa_cons (pe_op op_mulW (pv 3) (pe_op op_add (pe_dget (hu_of hr) (pv 14) (pv 23) (fun _ _ => rfl)) (pv 20))) pa_nil)))))
 (pss_one (ps_if (pt_not (pt_val (pe_callB (cr_any rfl) (by rfl) T.any (by decide +kernel) (pa_cons (pe_lc (own := [("pair", 24)]) (g := gName 24) (tt := tYes) (by rfl) scSucc.nd (pi_list (pv 22)) (blkOk_by (N := ["contest", "standing", "at", "base", "_", "places", "ones", "others", "over", "below", "place", "state", "leads", "after", "nearest", "rival", "lead", "loss", "to", "found", "pay", "later", "ahead", "end", "pair"]) (sc := defScope sSucc) (by decide +kernel)) (fun _ _ _ _ _ => pg_name (i := 24) scSucc.nd rfl (Or.inl rfl)) (fun _ _ _ _ _ => pts_nil) (fun _ _ _ _ _ => (pe_cmpR op_ge (pe_op op_mulW (pe_un un_neg (pe_ix (ixT (K := K) rfl) (pv 24) pe_int (fun _ _ => rfl))) (pe_op op_sub (pv 3) pe_int)) (pe_op op_mulW (pv 9) (pv 3)) (nomark _)))) pa_nil)))) (pss_one (ps_expr (pe_bm PySem.F.plainAttrs_list PySem.F.slot_list_append PySem.F.type_list_append mt_append (pv 19) (pa_cons (pe_tup (pa_cons (pv 13) (pa_cons (pv 21) (pa_cons (pe_callTy call_tuple_of (by rfl) T.tuple (by decide +kernel) (pa_cons (pe_lc (own := [("pair", 24)]) (g := gName 24) (by rfl) scSucc.nd (pi_list (pv 22)) (blkOk_by (N := ["contest", "standing", "at", "base", "_", "places", "ones", "others", "over", "below", "place", "state", "leads", "after", "nearest", "rival", "lead", "loss", "to", "found", "pay", "later", "ahead", "end", "pair"]) (sc := defScope sSucc) (by decide +kernel)) (fun _ _ _ _ _ => pg_name (i := 24) scSucc.nd rfl (Or.inl rfl)) (fun _ _ _ _ _ => (pts_one (pt_cmpR op_le (pe_op op_mulW (pe_ix (ixT (K := K) rfl) (pv 24) pe_int (fun _ _ => rfl)) (pe_op op_sub (pv 3) pe_int)) (pe_op op_mulW (pv 8) (pv 3)) (nomark _)))) (fun _ _ _ _ _ => (pv 24))) pa_nil)) pa_nil)))) pa_nil)))) pss_nil))))
 (pss_one (ps_ret (pv 19))))))))))), ?_⟩
    obtain ⟨a, rt, rs, c1, us, c2, ws, rfl, hS, hS1, hA1, hS2, hA2, hS3, hA3⟩ := ct_top hx
    obtain ⟨sa, la, vs, rfl, hS4, hS5, hA5⟩ := sg_top hy
    refine ⟨fun σ H1 => σ = [some (.ref a), some (.ref sa), some (.int (at_ : Nat)), some (.int C.M.b), some (.str C.M.z), some (.ref rt), some (.ref c1), some (.ref c2), some (.int C.over), some (.int C.below)] ++ List.replicate 15 none ∧ H1 = H, ?_, ?_⟩
    · exact ⟨_, rfl, a, _, rfl, hS, rfl, _, _, rfl, _, _, rfl, _, _, rfl, _, _, rfl, _, _, rfl, _, _, rfl, _, _, rfl, rfl, rfl, rfl⟩
    rintro σ H1 ⟨rfl, rfl⟩
    refine ⟨fun σ H2 => σ = [some (.ref a), some (.ref sa), some (.int (at_ : Nat)), some (.int C.M.b), some (.str C.M.z), some (.ref rt), some (.ref c1), some (.ref c2), some (.int C.over), some (.int C.below), some (.int t.p), some (.int t.s), some (.ref la)] ++ List.replicate 12 none ∧ H2 = H1, ?_, ?_⟩
    · exact ⟨_, rfl, sa, _, rfl, hS4, rfl, _, _, rfl, _, _, rfl, _, _, rfl, rfl, rfl, rfl⟩
    rintro σ H2 ⟨rfl, rfl⟩
    obtain ⟨ra, ys, hp1, hSr, hp2⟩ := row_at hA1 (fun r hr => (hC.row r hr).len) ht.p0 ht.p1 hat
    refine ⟨fun σ H3 => σ = [some (.ref a), some (.ref sa), some (.int (at_ : Nat)), some (.int C.M.b), some (.str C.M.z), some (.ref rt), some (.ref c1), some (.ref c2), some (.int C.over), some (.int C.below), some (.int t.p), some (.int t.s), some (.ref la), some (stV (placeOn C.R at_ t.p))] ++ List.replicate 11 none ∧ H3 = H2, ?_, ?_⟩
    · exact ⟨_, rfl, _, rfl, rt, _, _, _, rfl, rfl, hS1, hp1, _, rfl, ra, _, _, _, rfl, rfl, hSr, hp2, rfl, rfl⟩
    rintro σ H3 ⟨rfl, rfl⟩
    refine ⟨fun σ H4 => (∃ p', placeOn C.R at_ t.p = some p' ∧ σ = [some (.ref a), some (.ref sa), some (.int (at_ : Nat)), some (.int C.M.b), some (.str C.M.z), some (.ref rt), some (.ref c1), some (.ref c2), some (.int C.over), some (.int C.below), some (.int t.p), some (.int t.s), some (.ref la), some (.int p')] ++ List.replicate 11 none) ∧ H4 = H3, ?_, ?_⟩
    · cases hpl : placeOn C.R at_ t.p with
      | none =>
        refine ⟨_, rfl, rfl, _, rfl, iteT ⟨by show 0 ≤ sizeLine; decide, fun l hl => q _ l [] (same_upd hl) hl upd_same ?_⟩⟩
        unfold succOf
        rw [hpl]
        exact .nil
      | some p' => exact ⟨_, rfl, rfl, _, rfl, iteF ⟨⟨p', rfl, rfl⟩, rfl⟩⟩
    rintro σ H4 ⟨⟨p', hpl, rfl⟩, rfl⟩
    have pr := place_rg hC hpl
    refine ⟨fun σ H5 => ∃ g, σ = [some (.ref a), some (.ref sa), some (.int (at_ : Nat)), some (.int C.M.b), some (.str C.M.z), some (.ref rt), some (.ref c1), some (.ref c2), some (.int C.over), some (.int C.below), some (.int t.p), some (.int t.s), some (.ref la), some (.int p'), some (.ref g)] ++ List.replicate 10 none ∧ H4 g = none ∧ H5 = upd H4 g (.dK []), ?_, ?_⟩
    · exact fun g ng => ⟨g, rfl, ng, rfl⟩
    rintro σ H5 ⟨g, rfl, ng, rfl⟩
    have kg := near_kin hC (at_ := at_) (t := t)
    refine ⟨fun σ H6 => ∃ l15 l16 l17 l18, σ = [some (.ref a), some (.ref sa), some (.int (at_ : Nat)), some (.int C.M.b), some (.str C.M.z), some (.ref rt), some (.ref c1), some (.ref c2), some (.int C.over), some (.int C.below), some (.int t.p), some (.int t.s), some (.ref la), some (.int p'), some (.ref g), l15, l16, l17, l18] ++ List.replicate 6 none ∧ Same H4 H6 ∧ H6 g = some (.dK (kd (mapD neg1 (nearG C at_ t)))), ?_, ?_⟩
    · refine ⟨_, rfl, la, rfl, ⟨vs, same_tup (same_upd ng) hS5⟩, ?_⟩
      refine for_tup (xs := vs) (fun i σ H6 => ∃ l15 l16 l17 l18, σ = [some (.ref a), some (.ref sa), some (.int (at_ : Nat)), some (.int C.M.b), some (.str C.M.z), some (.ref rt), some (.ref c1), some (.ref c2), some (.int C.over), some (.int C.below), some (.int t.p), some (.int t.s), some (.ref la), some (.int p'), some (.ref g), l15, l16, l17, l18] ++ List.replicate 6 none ∧ Same H4 H6 ∧ H6 g = some (.dK (kd (mapD neg1 (bestOn (chP C.N at_) (fun v p => p - v) (t.L.take i) []))))) ⟨none, none, none, none, rfl, same_upd ng, upd_same⟩ (fun i σ H6 _ ⟨_, _, _, _, _, s6, _⟩ => same_tup s6 hS5) ?_ ?_
      · rintro i y σ H6 hy ⟨l15, l16, l17, l18, rfl, s6, hg6⟩
        obtain ⟨e, he, rp⟩ := rpAll_back hA5 hy
        obtain ⟨ea, rfl, hSe⟩ := rp.pair
        have memL : e ∈ t.L := List.mem_of_getElem? he
        have rgs := ht.kin.rg e.1 (List.mem_map_of_mem (f := (·.1)) memL)
        have hatN : at_ < C.N.z.length := by rw [hC.zz]; exact hat
        obtain ⟨ra2, ys2, ca, zs, hx1, hSx, hy1, hSy, hAz⟩ := ch_at hC.n hA3 rgs.1 rgs.2 hatN
        have tt := ts_same (K := K) s6
        refine ⟨ea, _, rfl, tt _ _ hSe, rfl, _, _, rfl, _, _, rfl, rfl, ?_⟩
        refine ⟨_, rfl, _, rfl, c2, ws, e.1, _, rfl, rfl, tt _ _ hS3, hx1, _, rfl, ra2, ys2, _, _, rfl, rfl, tt _ _ hSx, hy1, ca, rfl, ⟨zs, tt _ _ hSy⟩, ?_⟩
        refine for_tup (xs := zs) (fun m σ H7 => ∃ l17 l18, σ = [some (.ref a), some (.ref sa), some (.int (at_ : Nat)), some (.int C.M.b), some (.str C.M.z), some (.ref rt), some (.ref c1), some (.ref c2), some (.int C.over), some (.int C.below), some (.int t.p), some (.int t.s), some (.ref la), some (.int p'), some (.ref g), some (.int e.1), some (.int e.2), l17, l18] ++ List.replicate 6 none ∧ Same H4 H7 ∧ H7 g = some (.dK (kd (mapD neg1 (bestIn (fun v p => p - v) e.2 ((chP C.N at_ e.1).take m) (bestOn (chP C.N at_) (fun v p => p - v) (t.L.take i) [])))))) ⟨l17, l18, rfl, s6, hg6⟩ (fun m σ H7 _ ⟨_, _, _, s7, _⟩ => same_tup s7 hSy) ?_ ?_
        · rintro m y σ H7 hy ⟨l17, l18, rfl, s7, hg7⟩
          obtain ⟨q1, hq1, rp1⟩ := rpAll_back hAz hy
          obtain ⟨qa, rfl, hSq⟩ := rp1.pair
          refine ⟨qa, _, rfl, same_tup s7 hSq, rfl, _, _, rfl, _, _, rfl, rfl, ?_⟩
          have kin : Kin C.N.C.length (bestIn (fun v p => p - v) e.2 ((chP C.N at_ e.1).take m) (bestOn (chP C.N at_) (fun v p => p - v) (t.L.take i) [])) :=
            kin_in (kin_on (kin_nil _) fun kv _ q hq => ⟨(ch_rg hC.n hq).2.2.1, (ch_rg hC.n hq).2.2.2⟩) fun q hq => ⟨(ch_rg hC.n (List.mem_of_mem_take hq)).2.2.1, (ch_rg hC.n (List.mem_of_mem_take hq)).2.2.2⟩
          have kl := kin_size kin hC.n.c3
          rw [kd_len] at kl
          refine lo_if (iT := 18) (iD := 14) (iA := 16) (iB := 17) rfl rfl rfl rfl hg7 kl ?_
          refine ⟨_, _, rfl, same_put s7 ng, ?_⟩
          rw [upd_same, in_take hq1]
        · rintro σ H7 ⟨l17, l18, rfl, s7, hg7⟩
          refine ⟨_, _, _, _, rfl, s7, ?_⟩
          rw [hg7, show zs.length = (chP C.N at_ e.1).length from by rw [hAz.len, List.length_map], List.take_length, on_take he]
      · rintro σ H6 ⟨l15, l16, l17, l18, rfl, s6, hg6⟩
        refine ⟨l15, l16, l17, l18, rfl, s6, ?_⟩
        rw [hg6, show vs.length = t.L.length from by rw [hA5.len, List.length_map], List.take_length]
        rfl
    rintro σ H6 ⟨l15, l16, l17, l18, rfl, s6, hg6⟩
    have gfew := near_few hC (at_ := at_) ht.few
    refine ⟨fun σ H7 => ∃ r, σ = [some (.ref a), some (.ref sa), some (.int (at_ : Nat)), some (.int C.M.b), some (.str C.M.z), some (.ref rt), some (.ref c1), some (.ref c2), some (.int C.over), some (.int C.below), some (.int t.p), some (.int t.s), some (.ref la), some (.int p'), some (.ref g), l15, l16, l17, l18, some (.ref r)] ++ List.replicate 5 none ∧ H6 r = none ∧ H7 = upd H6 r (.lst []), ?_, ?_⟩
    · exact ⟨by show 0 ≤ sizeLine; decide, fun r nr => ⟨r, rfl, nr, rfl⟩⟩
    rintro σ H7 ⟨r, rfl, nr, rfl⟩
    have r0 : H4 r = none := s6.free nr
    obtain ⟨ra2, ys2, ca, zs, hx1, hSx, hy1, hSy, hAz⟩ := ch_at hC.m hA2 ht.s0 ht.s1 hat
    refine ⟨fun σ H8 => (∃ l20 l21 l22 l23 l24, σ = [some (.ref a), some (.ref sa), some (.int (at_ : Nat)), some (.int C.M.b), some (.str C.M.z), some (.ref rt), some (.ref c1), some (.ref c2), some (.int C.over), some (.int C.below), some (.int t.p), some (.int t.s), some (.ref la), some (.int p'), some (.ref g), l15, l16, l17, l18, some (.ref r), l20, l21, l22, l23, l24]) ∧ ∃ us', Same H6 H8 ∧ H8 r = some (.lst us') ∧ RpAll K H8 us' ((succOf C at_ t).map eSg), ?_, ?_⟩
    · refine ⟨_, rfl, _, rfl, c1, us, t.s, _, rfl, rfl, same_tup (s6.trans (same_upd nr)) hS2, hx1, _, rfl, ra2, ys2, _, _, rfl, rfl, same_tup (s6.trans (same_upd nr)) hSx, hy1, ca, rfl, ⟨zs, same_tup (s6.trans (same_upd nr)) hSy⟩, ?_⟩
      refine for_tup (xs := zs) (fun j σ H8 => (∃ l20 l21 l22 l23 l24, σ = [some (.ref a), some (.ref sa), some (.int (at_ : Nat)), some (.int C.M.b), some (.str C.M.z), some (.ref rt), some (.ref c1), some (.ref c2), some (.int C.over), some (.int C.below), some (.int t.p), some (.int t.s), some (.ref la), some (.int p'), some (.ref g), l15, l16, l17, l18, some (.ref r), l20, l21, l22, l23, l24]) ∧ ∃ us', Same H6 H8 ∧ H8 r = some (.lst us') ∧ RpAll K H8 us' ((((chP C.M at_ t.s).take j).filterMap (goOn C at_ t p')).map eSg)) ⟨⟨none, none, none, none, none, rfl⟩, [], same_upd nr, upd_same, .nil⟩ (fun j σ H8 _ ⟨_, _, s8, _⟩ => same_tup (s6.trans s8) hSy) ?_ ?_
      · rintro j y σ H8 hy ⟨⟨l20, l21, l22, l23, l24, rfl⟩, us', s8, hr8, hU⟩
        obtain ⟨q1, hq1, rp1⟩ := rpAll_back hAz hy
        obtain ⟨qa, rfl, hSq⟩ := rp1.pair
        have memq : q1 ∈ chP C.M at_ t.s := List.mem_of_getElem? hq1
        refine ⟨qa, _, rfl, same_tup (s6.trans s8) hSq, rfl, _, _, rfl, _, _, rfl, rfl, ?_⟩
        have hg8 := s8 _ _ hg6
        -- ahead
        refine ⟨fun σ H9 => (∃ d us2 l23, σ = [some (.ref a), some (.ref sa), some (.int (at_ : Nat)), some (.int C.M.b), some (.str C.M.z), some (.ref rt), some (.ref c1), some (.ref c2), some (.int C.over), some (.int C.below), some (.int t.p), some (.int t.s), some (.ref la), some (.int p'), some (.ref g), l15, l16, l17, l18, some (.ref r), some (.int q1.1), some (.int q1.2), some (.ref d), l23, l24] ∧ Same H8 H9 ∧ H9 d = some (.lst us2) ∧ RpAll K H9 us2 ((aheadOf C.M.b q1.1 (nearG C at_ t)).map eP)), ?_, ?_⟩
        · refine ⟨_, rfl, g, _, keysI (nearG C at_ t), rfl, .inl hg8, ?_, ?_, fun ys p perm srt np => ?_⟩
          · rw [kd_keys, keys_mapD]
          · unfold keysI
            rw [List.length_map]
            omega
          obtain rfl := sort_eq perm srt
          refine ⟨p, rfl, ⟨_, SqL.of upd_same⟩, fun D nD => ?_⟩
          have sp := same_upd (o := HO.lst ((sortI (keysI (nearG C at_ t))).map V.int)) np
          have sD := sp.trans (same_upd (o := HO.lst []) nD)
          have nD8 : H8 D = none := sp.free nD
          refine lc_lstO (xs := (sortI (keysI (nearG C at_ t))).map V.int) (fun i H' => Same H8 H' ∧ H' p = some (.lst ((sortI (keysI (nearG C at_ t))).map V.int)) ∧ ∃ us2, H' D = some (.lst us2) ∧ RpAll K H' us2 (((aheadOf C.M.b q1.1 (nearG C at_ t)).take i).map eP)) ⟨sD, same_upd nD _ _ upd_same, [], upd_same, .nil⟩ (fun i H' h => SqL.of h.2.1) ?_ ?_
          · rintro i u H' hu ⟨s9, hp9, us2, hD9, hU9⟩
            obtain ⟨to, hto, rfl⟩ : ∃ to, (sortI (keysI (nearG C at_ t)))[i]? = some to ∧ u = .int to := by
              rw [List.getElem?_map] at hu
              obtain ⟨to, h1, h2⟩ := Option.map_eq_some_iff.mp hu
              exact ⟨to, h1, h2.symm⟩
            have kto : to ∈ keysI (nearG C at_ t) := (sort_perm _).mem_iff.mp (List.mem_of_getElem? hto)
            obtain ⟨v, hv⟩ := Option.isSome_iff_exists.mp (getI_mem.mpr kto)
            have bv := gain_bd hC.n ht.bd hv
            have qr := ch_rg hC.m memq
            have b2 := hC.m.b2
            have b9 := hC.m.b9
            have w2 := wide_two
            have p3 : ((2 : Int) ^ 100).natAbs = 2 ^ 100 := by decide +kernel
            have p4 : (2 : Nat) ^ 201 + 2 ^ 100 < 2 ^ 202 := by decide +kernel
            have bd1 : (-v + q1.1).natAbs < 2 ^ 202 := by omega
            have bb : C.M.b.natAbs < 2 ^ 4 := by omega
            have hea : (aheadOf C.M.b q1.1 (nearG C at_ t))[i]? = some (to, C.M.b * (-v + q1.1)) := by
              unfold aheadOf
              rw [List.getElem?_map, hto, Option.map_some, hv, Option.getD_some, show q1.1 - v = -v + q1.1 by omega]
            refine ⟨rfl, ?_⟩
            refine ⟨_, rfl, _, rfl, _, rfl, _, rfl, g, .int (-v), rfl, ?_, _, rfl, _, _, rfl, rfl, _, _, rfl, rfl, ?_, (by show 2 ≤ sizeLine; decide), fun T2 nT => ?_⟩
            · have := kd_get (d := mapD neg1 (nearG C at_ t)) (k := to) (.inl (s9 _ _ hg8))
              rw [getI_mapD, hv] at this
              exact this
            · exact wide_mul (a := 4) (b := 202) bb bd1 (by decide) (by decide) (by decide)
            have sT := same_upd (o := HO.tup [V.int to, V.int (C.M.b * (-v + q1.1))]) nT
            have Dp : D ≠ p := fun z => by rw [z, upd_same] at nD; cases nD
            have hDT := sT _ _ hD9
            refine ⟨us2, hDT, ?_, same_new (s9.trans sT) nD8, by rw [upd_ne Dp.symm]; exact sT _ _ hp9, us2 ++ [.ref T2], upd_same, ?_⟩
            · have l1 := hU9.len
              rw [List.length_map] at l1
              have l2 := List.length_take_le' i (aheadOf C.M.b q1.1 (nearG C at_ t))
              rw [ahead_len] at l2
              exact Nat.lt_of_le_of_lt (show _ ≤ 60 by omega) (by decide)
            · have bt : TStay K (upd H' T2 (HO.tup [V.int to, V.int (C.M.b * (-v + q1.1))])) (upd (upd H' T2 (HO.tup [V.int to, V.int (C.M.b * (-v + q1.1))])) D (HO.lst (us2 ++ [V.ref T2]))) := ts_lst hDT
              rw [List.take_succ, hea]
              show RpAll K _ _ (List.map eP (_ ++ [_]))
              rw [map_snoc]
              exact rp_snoc (goP ((ts_same sT).trans bt) hU9) (.tup (bt _ _ (SqT.of upd_same)) (.cons (.int _) (.cons (.int _) .nil)))
          · rintro H' ⟨s9, hp9, us2, hD9, hU9⟩
            refine ⟨D, us2, _, rfl, s9, hD9, ?_⟩
            have : ((sortI (keysI (nearG C at_ t))).map V.int).length = (aheadOf C.M.b q1.1 (nearG C at_ t)).length := by
              unfold aheadOf
              rw [List.length_map, List.length_map]
            rw [this, List.take_length] at hU9
            exact hU9
        rintro σ H9 ⟨d, us2, l23, rfl, s9, hd9, hU9⟩
        have hC2 := over_rg hC
        have b2 := hC.m.b2
        have b9 := hC.m.b9
        have w2 := wide_two
        have p3 : ((2 : Int) ^ 100).natAbs = 2 ^ 100 := by decide +kernel
        have p6 : (2 : Nat) ^ 100 * 2 < 2 ^ 102 := by decide +kernel
        have bb : C.M.b.natAbs < 2 ^ 4 := by omega
        have bnd : ∀ e ∈ aheadOf C.M.b q1.1 (nearG C at_ t), e.2.natAbs < 2 ^ 206 := fun e he => by
          unfold aheadOf at he
          obtain ⟨to, hto, rfl⟩ := List.mem_map.mp he
          have kto : to ∈ keysI (nearG C at_ t) := (sort_perm _).mem_iff.mp hto
          obtain ⟨v, hv⟩ := Option.isSome_iff_exists.mp (getI_mem.mpr kto)
          have bv := gain_bd hC.n ht.bd hv
          have qr := ch_rg hC.m memq
          have p4 : (2 : Nat) ^ 201 + 2 ^ 100 < 2 ^ 202 := by decide +kernel
          rw [hv, Option.getD_some]
          exact wide_lt (a := 4) (b := 202) bb (show (q1.1 - v).natAbs < 2 ^ 202 by omega)
        have lah : (aheadOf C.M.b q1.1 (nearG C at_ t)).length ≤ 60 := by rw [ahead_len]; exact gfew
        refine ⟨_, rfl, d, rfl, ⟨us2, SqL.of hd9⟩, fun D nD => ?_⟩
        refine lc_lstO (xs := us2) (fun i H' => Same H9 H' ∧ H' D = some (.lst ((((aheadOf C.M.b q1.1 (nearG C at_ t)).take i).map fun e => vainB C.M.b C.below e.2).map V.bl))) ⟨same_upd nD, upd_same⟩ (fun i H' h => SqL.of (h.1 _ _ hd9)) ?_ ?_
        · rintro i u H' hu ⟨s10, hD⟩
          obtain ⟨e, he, rp2⟩ := rpAll_back hU9 hu
          obtain ⟨ea, rfl, hSe⟩ := rp2.pair
          have be := bnd e (List.mem_of_getElem? he)
          refine ⟨rfl, ?_⟩
          refine ⟨_, rfl, ea, _, 1, _, rfl, rfl, same_tup s10 hSe, rfl, _, rfl, _, rfl, _, _, rfl, rfl, _, _, rfl, rfl, ?_, _, rfl, _, rfl, _, _, rfl, rfl, ?_, _, _, rfl, rfl, _, hD, ?_, same_new s10 nD, ?_⟩
          · exact wide_mul (a := 206) (b := 4) (by omega) (by omega) (by decide) (by decide) (by decide)
          · exact wide_mul (a := 102) (b := 4) (by omega) bb (by decide) (by decide) (by decide)
          · rw [List.length_map, List.length_map]
            have := List.length_take_le' i (aheadOf C.M.b q1.1 (nearG C at_ t))
            exact Nat.lt_of_le_of_lt (show _ ≤ 60 by omega) (by decide)
          · rw [upd_same, List.take_succ, he]
            simp [vainB]
        · rintro H' ⟨s10, hD⟩
          have lu : us2.length = (aheadOf C.M.b q1.1 (nearG C at_ t)).length := by rw [hU9.len, List.length_map]
          rw [lu, List.take_length] at hD
          refine ⟨D, _, rfl, SqL.of hD, ?_⟩
          have hr9 := s10 _ _ (s9 _ _ hr8)
          have lus : us'.length ≤ 3 := by
            have l1 := hU.len
            rw [List.length_map] at l1
            have l2 := List.length_filterMap_le (goOn C at_ t p') ((chP C.M at_ t.s).take j)
            have l3 := List.length_take_le' j (chP C.M at_ t.s)
            obtain ⟨cs, hcs, ps, hps, _, e2⟩ := ch_mem hC.m memq
            have l4 := (hC.m.ch cs hcs ps hps).2
            rw [e2] at l1 l2 l3
            omega
          have r9 : ∀ {H2 : Hp}, Same H' H2 → RpAll K H2 us' ((((chP C.M at_ t.s).take j).filterMap (goOn C at_ t p')).map eSg) := fun {H2} s2 => rpAll_ts (ts_same ((s9.trans s10).trans s2)) hU (tOs_map enc_sg.tO _)
          have step : ((chP C.M at_ t.s).take (j + 1)).filterMap (goOn C at_ t p') = ((chP C.M at_ t.s).take j).filterMap (goOn C at_ t p') ++ (goOn C at_ t p' q1).toList := by
            rw [List.take_succ, hq1, List.filterMap_append]
            cases hh : goOn C at_ t p' q1 <;> simp [hh]
          have anyE : (((aheadOf C.M.b q1.1 (nearG C at_ t)).map fun e => vainB C.M.b C.below e.2).any id) = (aheadOf C.M.b q1.1 (nearG C at_ t)).any fun e => vainB C.M.b C.below e.2 := by
            rw [List.any_map]
            rfl
          refine ⟨_, rfl, ?_⟩
          rw [anyE]
          cases hva : (aheadOf C.M.b q1.1 (nearG C at_ t)).any fun e => vainB C.M.b C.below e.2 with
          | true =>
            refine iteF ⟨⟨_, _, _, _, _, rfl⟩, us', (s8.trans s9).trans s10, hr9, ?_⟩
            have gn : goOn C at_ t p' q1 = none := by
              unfold goOn
              rw [hva]
              rfl
            rw [step, gn, Option.toList_none, List.append_nil]
            exact r9 (Same.refl _)
          | false =>
            refine iteT ⟨_, rfl, .inl ⟨rfl, _, SqL.of hr9⟩, _, rfl, _, rfl, ?_⟩
            refine ⟨_, rfl, d, rfl, ⟨us2, SqL.of (s10 _ _ hd9)⟩, fun D2 nD2 => ?_⟩
            refine lc_lstO (xs := us2) (fun i H2 => Same H' H2 ∧ ∃ us3, H2 D2 = some (.lst us3) ∧ RpAll K H2 us3 ((((aheadOf C.M.b q1.1 (nearG C at_ t)).take i).filter fun e => keepB C.M.b C.over e.2).map eP)) ⟨same_upd nD2, [], upd_same, .nil⟩ (fun i H2 h => SqL.of (h.1 _ _ (s10 _ _ hd9))) ?_ ?_
            · rintro i u H2 hu ⟨s11, us3, hD2, hU3⟩
              obtain ⟨e, he, rp2⟩ := rpAll_back hU9 hu
              obtain ⟨ea, rfl, hSe⟩ := rp2.pair
              have be := bnd e (List.mem_of_getElem? he)
              have stepF : ((aheadOf C.M.b q1.1 (nearG C at_ t)).take (i + 1)).filter (fun e => keepB C.M.b C.over e.2) = ((aheadOf C.M.b q1.1 (nearG C at_ t)).take i).filter (fun e => keepB C.M.b C.over e.2) ++ (if keepB C.M.b C.over e.2 = true then [e] else []) := by
                rw [List.take_succ, he, List.filter_append]
                congr 1
                show List.filter (fun e => keepB C.M.b C.over e.2) [e] = _
                rw [List.filter_cons]
                rfl
              refine ⟨rfl, ?_⟩
              refine ⟨_, rfl, ea, _, 1, _, rfl, rfl, same_tup (s10.trans s11) hSe, rfl, _, rfl, _, _, rfl, rfl, _, _, rfl, rfl, ?_, _, rfl, _, rfl, _, _, rfl, rfl, ?_, _, _, rfl, rfl, _, rfl, ?_⟩
              · exact wide_mul (a := 206) (b := 4) (by omega) (by omega) (by decide) (by decide) (by decide)
              · exact wide_mul (a := 102) (b := 4) (by omega) bb (by decide) (by decide) (by decide)
              show if keepB C.M.b C.over e.2 = true then _ else _
              cases hk : keepB C.M.b C.over e.2 with
              | true =>
                refine iteT ⟨_, rfl, us3, hD2, ?_, same_new s11 nD2, us3 ++ [.ref ea], upd_same, ?_⟩
                · have l1 := hU3.len
                  rw [List.length_map] at l1
                  have l2 := List.length_filter_le (fun e : Int × Int => keepB C.M.b C.over e.2) ((aheadOf C.M.b q1.1 (nearG C at_ t)).take i)
                  have l3 := List.length_take_le' i (aheadOf C.M.b q1.1 (nearG C at_ t))
                  exact Nat.lt_of_le_of_lt (show _ ≤ 60 by omega) (by decide)
                · have bt : TStay K H2 (upd H2 D2 (HO.lst (us3 ++ [V.ref ea]))) := ts_lst hD2
                  rw [stepF, if_pos hk, map_snoc]
                  exact rp_snoc (goP bt hU3) (rp_ts ((ts_same (s10.trans s11)).trans bt) rp2 (tO_eP _))
              | false =>
                refine iteF ⟨s11, us3, hD2, ?_⟩
                rw [stepF, if_neg (by rw [hk]; decide), List.append_nil]
                exact hU3
            · rintro H2 ⟨s11, us3, hD2, hU3⟩
              rw [lu, List.take_length] at hU3
              refine ⟨D2, us3, rfl, .inl ⟨SqL.of hD2, fun t3 ht3 => ⟨(by show 3 ≤ sizeLine; decide), fun t4 ht4 => ?_⟩⟩⟩
              have x3 := same_upd (o := HO.tup us3) ht3
              have x4 := same_upd (o := HO.tup [V.int p', V.int q1.2, V.ref t3]) ht4
              have x34 := (s11.trans x3).trans x4
              have hr4 := x34 _ _ hr9
              refine ⟨r, _, _, rfl, rfl, hr4, Nat.lt_of_le_of_lt lus (by decide), ?_⟩
              refine ⟨⟨_, _, _, _, _, rfl⟩, us' ++ [.ref t4], ?_, upd_same, ?_⟩
              · exact same_new (((s8.trans s9).trans s10).trans x34) nr
              · have bt : TStay K (upd (upd H2 t3 (HO.tup us3)) t4 (HO.tup [V.int p', V.int q1.2, V.ref t3])) (upd (upd (upd H2 t3 (HO.tup us3)) t4 (HO.tup [V.int p', V.int q1.2, V.ref t3])) r (HO.lst (us' ++ [V.ref t4]))) := ts_lst hr4
                have gs : goOn C at_ t p' q1 = some ⟨p', q1.2, (aheadOf C.M.b q1.1 (nearG C at_ t)).filter fun e => keepB C.M.b C.over e.2⟩ := by
                  unfold goOn
                  rw [hva]
                  rfl
                rw [step, gs, Option.toList_some, map_snoc]
                refine rp_snoc (rpAll_ts bt (r9 x34) (tOs_map enc_sg.tO _)) (.tup (bt _ _ (SqT.of upd_same)) (.cons (.int _) (.cons (.int _) (.cons (.tup (bt _ _ (SqT.of (x4 _ _ upd_same))) (goP (((ts_same x3).trans (ts_same x4)).trans bt) hU3)) .nil))))
      · rintro σ H8 ⟨⟨l20, l21, l22, l23, l24, rfl⟩, us', s8, hr8, hU⟩
        refine ⟨⟨_, _, _, _, _, rfl⟩, us', s8, hr8, ?_⟩
        rw [show zs.length = (chP C.M at_ t.s).length from by rw [hAz.len, List.length_map], List.take_length] at hU
        unfold succOf
        rw [hpl]
        exact hU
    rintro σ H8 ⟨⟨l20, l21, l22, l23, l24, rfl⟩, us', s8, hr8, hU⟩
    exact ⟨_, rfl, q H8 r us' (s6.trans s8) r0 hr8 hU⟩
end
end My
/-! ### enumerate(z), z a text -/
namespace My
open PySem PySem.Spec PyProof.Rows L2
theorem draws_text {prog : Program} {w : World} {A : Around} (hh : A.handled = none) (it : Addr) (x : Str) (t : Tok) :
    Draws prog w A it [it] x.cps.size (fun i v => ∃ c u, x.cps[i]? = some c ∧ v = .str ⟨#[c]⟩ u) (fun i h => h.IsStrIter it (strIterType x) x t i) := by
  unfold strIterType
  cases x.cps.all (· < 128) with
  | true => exact Draws.strAscii hh it x t
  | false => exact Draws.strWide hh it x t
/-- a text, each sign in a new pair -/
def ItSe (z : Str) : It :=
  ⟨fun i _ => i < z.cps.size, fun i H v H' => ∃ T c, v = .ref T ∧ H T = none ∧ H' = upd H T (.tup [.int (i : Nat), .str ⟨#[c]⟩]) ∧ z.cps[i]? = some c, fun i _ => z.cps.size ≤ i⟩
theorem turn_enumS {P : Program} {w : World} {K : PySem.W.Frag} {elts : List Expr} {kk : Nat} {tpos : Pos} (z : Str) (t0 : Tok) (e it : Addr) :
    Turn P w K (.Tuple elts kk tpos) (ItSe z) [e, it] e (fun i h => (∃ old, IsEnum h e it ((i : Nat) : Int) old) ∧ (h.IsStrIter it (strIterType z) z t0 i ∧ i ≤ z.cps.size) ∧ e ≠ it) where
  mem := by simp
  obj := fun i h st b hb => by
    obtain ⟨⟨old, he⟩, ⟨⟨o, ho, hc, hd⟩, _⟩, _⟩ := st
    rcases (show b = e ∨ b = it by simpa using hb) with y | y <;> rw [y]
    · exact ⟨_, he, fun v q => nomatch q⟩
    · exact ⟨o, ho, fun v q => by rw [hd] at q; cases q⟩
  keep := fun i h h' st k => by
    obtain ⟨⟨old, he⟩, ⟨⟨o, ho, r⟩, l⟩, n⟩ := st
    exact ⟨⟨old, k e (by simp) _ he⟩, ⟨⟨o, k it (by simp) o ho, r⟩, l⟩, n⟩
  item := by
    intro X hP hw hK hc i pins s σ H E I hf st hg
    subst hP hw hK
    obtain ⟨⟨old, he⟩, ⟨hit, _⟩, ne⟩ := st
    have lt1 := Heap.lt_size he
    have lt2 : it < s.heap.objs.size := by
      obtain ⟨_, q, _⟩ := hit
      exact Heap.lt_size q
    have hg2 : i < z.cps.size := hg
    refine wpAny_pyNext_enum_itemD (draws_text (A := X.A.in1) (I.ok.hd hc) it z t0) he hit hg2 ne (by simp [ne]) fun y h' tk hy ho hst hT hsz hk => ?_
    obtain ⟨c, u, hcz, rfl⟩ := hy
    refine ⟨_, rfl, wpAny_letOwnedTupleGo_enum (s := { s with heap := h', toks := tk + 1 }) ho fun h'' he' sb => ?_⟩
    have hT2 : h''.get? s.heap.objs.size = some { cls := .type "tuple", data := .seq #[.int i tk, .str ⟨#[c]⟩ u] } := (sb.2 _ (Nat.ne_of_gt lt1)).trans hT
    have new : ObjOk X.prog X.w (upd H s.heap.objs.size (.tup [.int (i : Nat), .str ⟨#[c]⟩])) h'' s.heap.objs.size (.tup [.int (i : Nat), .str ⟨#[c]⟩]) :=
      ⟨(by show 2 ≤ sizeLine; decide), [.int i tk, .str ⟨#[c]⟩ u], .cons ⟨_, rfl⟩ (.cons ⟨_, rfl⟩ .nil), ⟨_, hT2, rfl, _, rfl⟩⟩
    have J : Inv X pins σ (upd H s.heap.objs.size (.tup [.int (i : Nat), .str ⟨#[c]⟩])) { s with heap := h'', toks := tk + 1 } :=
      I.turnedNew (t' := tk + 1) (ch := [e, it]) (fun b ob hb q => (sb.2 b (fun y => hb (by simp [y]))).trans (hk b ob (fun y => hb (by simp [y])) (fun y => hb (by simp [y])) q)) hf (Nat.le_refl _) new
    obtain ⟨o2, ho2, r2⟩ := hst
    refine ⟨.ref s.heap.objs.size, _, J, rfl, ⟨_, c, rfl, I.hok.fresh (Nat.le_refl _), rfl, hcz⟩, ⟨⟨.str ⟨#[c]⟩ u, ?_⟩, ⟨⟨o2, (sb.2 it ne.symm).trans ho2, r2⟩, hg2⟩, ne⟩, fun b hb => ?_⟩
    · rw [show ((i + 1 : Nat) : Int) = (i : Int) + 1 by omega]
      exact he'
    · have below : b < s.heap.objs.size := by
        rcases (show b = e ∨ b = it by simpa using hb) with y | y <;> rw [y]
        · exact lt1
        · exact lt2
      rw [upd_ne (Nat.ne_of_lt below)]
      exact (hf b hb).1
  done := by
    intro X hP hw hK hc i pins s σ H E I hf st hg
    subst hP hw hK
    obtain ⟨⟨old, he⟩, ⟨hit, l⟩, ne⟩ := st
    obtain ⟨f0, f1, f2, f3, f4, f5⟩ := hf it (by simp)
    have ei : i = z.cps.size := Nat.le_antisymm l hg
    subst ei
    exact wpAny_pyNext_enum_endD (draws_text (A := X.A.in1) (I.ok.hd hc) it z t0) he hit fun h' eb => ⟨rfl, I.turned (t' := s.toks) (fun b o hb q => eb b o hb q) f0 f1 f3 f4 f5⟩
  self := fun A i s Q E st h => by
    obtain ⟨⟨_, he⟩, _⟩ := st
    exact wpAny_pyIter_enum he h
def iEnumS (ta : TA) : TI := fun σ H R => ta σ H fun vs H1 => ∃ z, vs = [.str z] ∧ R (ItSe z) H1
theorem pi_enumS {X : Cx} {e : Expr} {ta : TA} {p pos tpos : Pos} {elts : List Expr} {kk : Nat} (hg : Gl X "enumerate") (hm : X.mg "enumerate" = none) (ha : PA X [e] ta) (hs : starEach [e] X.env = [(false, eval e X.env)] := by rfl) :
    PI X (.Tuple elts kk tpos) (.Call (.Name "enumerate" p) [e] [] pos) (iEnumS ta) := by
  refine ⟨fun pins s σ H R I h => ?_⟩
  refine Call_ (ld_blt I hg hm boot_enumerate (PyProof.Rows.callWith_type1 (thn (ha.run pos pins s σ H _ I h) fun us s1 y => ?_) hs rfl))
  obtain ⟨vs, H1, J, r1, z, ex, q⟩ := y
  subst ex
  cases r1 with
  | cons r rr =>
    cases rr
    obtain ⟨t, rfl⟩ := r
    refine call_enumerate_str fun h1 he hi hz hk => wpAny_pyIter_enum he ?_
    have J2 : Inv X pins σ H1 { s1 with heap := h1 } := J.kept (t' := s1.toks) hk
    refine ⟨s1.heap.objs.size + 1, [s1.heap.objs.size + 1, s1.heap.objs.size], _, _, H1, rfl, J2, turn_enumS z t (s1.heap.objs.size + 1) s1.heap.objs.size, ⟨⟨.none, he⟩, ⟨hi, Nat.zero_le _⟩, Nat.succ_ne_self _⟩, fun b hb => ?_, q⟩
    have above : s1.heap.objs.size ≤ b := by
      rcases (show b = s1.heap.objs.size + 1 ∨ b = s1.heap.objs.size by simpa using hb) with y | y <;> rw [y]
      · exact Nat.le_add_right _ _
      · exact Nat.le_refl _
    exact J.fpOk above (J.hok.fresh above)
theorem walk_enumS {z : Str} : Walk (ItSe z) z.cps.size (fun _ => True) (fun i H v H' => ∃ T c, v = .ref T ∧ H T = none ∧ H' = upd H T (.tup [.int (i : Nat), .str ⟨#[c]⟩]) ∧ z.cps[i]? = some c) :=
  ⟨fun _ _ hi _ => hi, fun _ _ => Nat.le_refl _, fun _ _ _ _ _ _ y => y⟩
end My
/-! ### words for standings, level by level -/
namespace My
open PySem PySem.Spec PyProof.Rows L2 PySem.Builtin.Str
def wlt (a b : Str) : Bool := decide (a.cps.toList < b.cps.toList)
theorem wlt_irrefl (a : Str) : wlt a a = false := decide_eq_false (List.lt_irrefl _)
theorem wlt_trans {a b c : Str} (h1 : wlt a b = true) (h2 : wlt b c = true) : wlt a c = true := decide_eq_true (List.lt_trans (of_decide_eq_true h1) (of_decide_eq_true h2))
theorem wlt_tri {a b : Str} (h1 : wlt a b = false) (h2 : wlt b a = false) : a = b := by
  have e1 := of_decide_eq_false h1
  have e2 := of_decide_eq_false h2
  have : a.cps.toList = b.cps.toList := List.le_antisymm (List.not_lt.mp e2) (List.not_lt.mp e1)
  obtain ⟨⟨x⟩⟩ := a
  obtain ⟨⟨y⟩⟩ := b
  simp only at this
  rw [this]
theorem wlt_le {a b c : Str} (h1 : wlt b a = false) (h2 : wlt c b = false) : wlt c a = false := by
  rcases SrtO.bcase (wlt c a) with q | q
  · rcases SrtO.bcase (wlt a b) with p | p
    · rw [wlt_trans q p] at h2
      cases h2
    · rw [wlt_tri h1 p] at h2
      rw [h2] at q
      cases q
  · exact q
abbrev Lv := List (Sg × Str)
/-- a word for a standing: the lesser one is kept -/
def upWd (D : Lv) (t : Sg) (w : Str) : Lv := match getA D t with
  | none => putA D t w
  | some v => if wlt w v = true then putA D t w else D
def stepW (ok : Sg → Bool) (D : Lv) (p : Sg × Str) : Lv := if ok p.1 = true then upWd D p.1 p.2 else D
def foldW (ok : Sg → Bool) (ps D : Lv) : Lv := ps.foldl (stepW ok) D
theorem upWd_get (D : Lv) (t u : Sg) (w : Str) : getA (upWd D t w) u = if u = t then some (match getA D t with | none => w | some v => if wlt w v = true then w else v) else getA D u := by
  unfold upWd
  cases h : getA D t with
  | none => exact getA_put D t u w
  | some v =>
    show getA (if wlt w v = true then putA D t w else D) u = if u = t then some (if wlt w v = true then w else v) else getA D u
    split
    · exact getA_put D t u w
    · by_cases e : u = t
      · rw [e, h, if_pos rfl]
      · rw [if_neg e]
theorem upWd_nodup {D : Lv} {t : Sg} {w : Str} (nd : (keysA D).Nodup) : (keysA (upWd D t w)).Nodup := by
  unfold upWd
  split
  · exact putA_nodup nd
  · split
    · exact putA_nodup nd
    · exact nd
theorem upWd_len (D : Lv) (t : Sg) (w : Str) : (upWd D t w).length ≤ D.length + 1 := by
  unfold upWd
  split
  · exact putA_len D t w
  · split
    · exact putA_len D t w
    · exact Nat.le_succ _
theorem stepW_nodup {ok : Sg → Bool} {D : Lv} {p : Sg × Str} (nd : (keysA D).Nodup) : (keysA (stepW ok D p)).Nodup := by
  unfold stepW
  split
  · exact upWd_nodup nd
  · exact nd
theorem foldW_nodup {ok : Sg → Bool} : ∀ {ps D : Lv}, (keysA D).Nodup → (keysA (foldW ok ps D)).Nodup
  | [], _, h => h
  | p :: ps, D, h => foldW_nodup (ps := ps) (D := stepW ok D p) (stepW_nodup h)
theorem foldW_len {ok : Sg → Bool} : ∀ {ps D : Lv}, (foldW ok ps D).length ≤ D.length + ps.length
  | [], _ => Nat.le_refl _
  | p :: ps, D => by
    have h1 := foldW_len (ok := ok) (ps := ps) (D := stepW ok D p)
    have h2 : (stepW ok D p).length ≤ D.length + 1 := by
      unfold stepW
      split
      · exact upWd_len ..
      · exact Nat.le_succ _
    show (foldW ok ps (stepW ok D p)).length ≤ _
    rw [List.length_cons]
    omega
/-- what is offered to a standing -/
def Off (ok : Sg → Bool) (ps D : Lv) (t : Sg) (w : Str) : Prop := getA D t = some w ∨ (ok t = true ∧ (t, w) ∈ ps)
theorem off_step {ok : Sg → Bool} {p : Sg × Str} {ps D : Lv} {t : Sg} {w : Str} (h : Off ok ps (stepW ok D p) t w) : Off ok (p :: ps) D t w := by
  rcases h with h | ⟨h1, h2⟩
  · unfold stepW at h
    split at h
    · rename_i o
      rw [upWd_get] at h
      split at h
      · rename_i e
        subst e
        cases g : getA D p.1 with
        | none =>
          rw [g] at h
          cases h
          exact .inr ⟨o, .head _⟩
        | some v =>
          rw [g] at h
          have h3 : (if wlt p.2 v = true then p.2 else v) = w := Option.some.inj h
          split at h3
          · subst h3
            exact .inr ⟨o, .head _⟩
          · rw [h3] at g
            exact .inl g
      · exact .inl h
    · exact .inl h
  · exact .inr ⟨h1, .tail _ h2⟩
theorem off_least {ok : Sg → Bool} {p : Sg × Str} {ps D : Lv} {t : Sg} {w : Str} (h : Off ok (p :: ps) D t w) : ∃ w', Off ok ps (stepW ok D p) t w' ∧ wlt w w' = false := by
  rcases h with h | ⟨h1, h2⟩
  · by_cases c : t = p.1 ∧ ok p.1 = true ∧ wlt p.2 w = true
    · obtain ⟨rfl, o, l⟩ := c
      refine ⟨p.2, .inl ?_, ?_⟩
      · unfold stepW
        rw [if_pos o, upWd_get, if_pos rfl, h]
        show some (if wlt p.2 w = true then p.2 else w) = _
        rw [if_pos l]
      · rcases SrtO.bcase (wlt w p.2) with q | q
        · have := wlt_trans l q
          rw [wlt_irrefl] at this
          cases this
        · exact q
    · refine ⟨w, .inl ?_, wlt_irrefl w⟩
      unfold stepW
      split
      · rename_i o
        rw [upWd_get]
        by_cases e : t = p.1
        · subst e
          rw [if_pos rfl, h]
          show some (if wlt p.2 w = true then p.2 else w) = _
          rw [if_neg (fun l => c ⟨rfl, o, l⟩)]
        · rw [if_neg e, h]
      · exact h
  · rcases List.mem_cons.mp h2 with e | h2
    · refine ⟨match getA D t with | none => w | some v => if wlt w v = true then w else v, .inl ?_, ?_⟩
      · have e1 : p.1 = t := by rw [← e]
        have e2 : p.2 = w := by rw [← e]
        unfold stepW
        rw [e1, if_pos h1, upWd_get, if_pos rfl, e2]
      · cases g : getA D t with
        | none => exact wlt_irrefl w
        | some v =>
          simp only
          split
          · exact wlt_irrefl w
          · rename_i c
            exact eq_false_of_ne_true c
    · exact ⟨w, .inr ⟨h1, h2⟩, wlt_irrefl w⟩
theorem foldW_off {ok : Sg → Bool} : ∀ {ps D : Lv} {t : Sg} {v : Str}, getA (foldW ok ps D) t = some v → Off ok ps D t v ∧ ∀ w, Off ok ps D t w → wlt w v = false
  | [], D, t, v, h => by
    refine ⟨.inl h, fun w hw => ?_⟩
    rcases hw with hw | ⟨_, hw⟩
    · rw [show getA D t = some v from h] at hw
      cases hw
      exact wlt_irrefl v
    · cases hw
  | p :: ps, D, t, v, h => by
    obtain ⟨h1, h2⟩ := foldW_off (ps := ps) (D := stepW ok D p) h
    refine ⟨off_step h1, fun w hw => ?_⟩
    obtain ⟨w', o, l⟩ := off_least hw
    exact wlt_le (h2 w' o) l
theorem foldW_some {ok : Sg → Bool} : ∀ {ps D : Lv} {t : Sg} {w : Str}, Off ok ps D t w → ∃ v, getA (foldW ok ps D) t = some v
  | [], _, _, w, h => by
    rcases h with h | ⟨_, h⟩
    · exact ⟨w, h⟩
    · cases h
  | p :: ps, D, t, w, h => by
    obtain ⟨w', o, _⟩ := off_least h
    exact foldW_some (ps := ps) (D := stepW ok D p) o
/-- only what is offered matters -/
theorem foldW_ext {ok ok' : Sg → Bool} {ps ps' : Lv} {t : Sg} (h : ∀ w, (ok t = true ∧ (t, w) ∈ ps) ↔ (ok' t = true ∧ (t, w) ∈ ps')) : getA (foldW ok ps []) t = getA (foldW ok' ps' []) t := by
  have o : ∀ w, Off ok ps [] t w ↔ Off ok' ps' [] t w := fun w => by
    unfold Off
    rw [h w]
  cases e : getA (foldW ok ps []) t with
  | none =>
    cases e2 : getA (foldW ok' ps' []) t with
    | none => rfl
    | some v =>
      obtain ⟨h1, _⟩ := foldW_off e2
      obtain ⟨u, hu⟩ := foldW_some ((o v).mpr h1)
      rw [e] at hu
      cases hu
  | some v =>
    obtain ⟨h1, h2⟩ := foldW_off e
    obtain ⟨u, hu⟩ := foldW_some ((o v).mp h1)
    obtain ⟨h3, h4⟩ := foldW_off hu
    rw [hu, wlt_tri (h2 u ((o u).mpr h3)) (h4 v ((o v).mp h1))]
/-! the moves -/
def ltrS (z : Str) (i : Nat) : Str := ⟨#[z.cps.getD i 0]⟩
def stepsOf (C : Ct) (q : Sg × Str) (at_ : Nat) : Lv := (succOf C at_ q.1).map fun t => (t, q.2 ++ ltrS C.M.z at_)
def movesFrom (C : Ct) (q : Sg × Str) : Lv := (List.range C.M.z.length).flatMap (stepsOf C q)
def movesOf (C : Ct) (lv : Lv) : Lv := lv.flatMap (movesFrom C)
def levelOn (C : Ct) (ok : Sg → Bool) (lv : Lv) : Lv := foldW ok (movesOf C lv) []
theorem foldW_app {ok : Sg → Bool} {a b D : Lv} : foldW ok (a ++ b) D = foldW ok b (foldW ok a D) := List.foldl_append
theorem mem_moves {C : Ct} {lv : Lv} {t : Sg} {w : Str} : (t, w) ∈ movesOf C lv ↔ ∃ q ∈ lv, ∃ i, i < C.M.z.length ∧ t ∈ succOf C i q.1 ∧ w = q.2 ++ ltrS C.M.z i := by
  constructor
  · intro h
    obtain ⟨q, hq, h⟩ := List.mem_flatMap.mp h
    obtain ⟨i, hi, h⟩ := List.mem_flatMap.mp h
    obtain ⟨u, hu, e⟩ := List.mem_map.mp h
    cases e
    exact ⟨q, hq, i, List.mem_range.mp hi, hu, rfl⟩
  · rintro ⟨q, hq, i, hi, hu, rfl⟩
    exact List.mem_flatMap.mpr ⟨q, hq, List.mem_flatMap.mpr ⟨i, List.mem_range.mpr hi, List.mem_map.mpr ⟨t, hu, rfl⟩⟩⟩
theorem succ_len {C : Ct} (h : Cok C) {at_ : Nat} {t : Sg} : (succOf C at_ t).length ≤ 3 := by
  unfold succOf
  split
  · exact Nat.zero_le _
  · refine Nat.le_trans (List.length_filterMap_le _ _) ?_
    cases e : chP C.M at_ t.s with
    | nil => exact Nat.zero_le _
    | cons p r =>
      obtain ⟨cs, hcs, ps, hps, _, e2⟩ := ch_mem h.m (at_ := at_) (s := t.s) (p := p) (by rw [e]; exact .head _)
      rw [← e, e2]
      exact (h.m.ch cs hcs ps hps).2
theorem moves_len {C : Ct} (h : Cok C) (lv : Lv) : (movesOf C lv).length ≤ 9 * lv.length := by
  refine flat_len lv fun q _ => ?_
  have h3 := (ltr_pos h.m.ltr).2
  have := flat_len (g := stepsOf C q) (n := 3) (List.range C.M.z.length) fun i _ => by
    unfold stepsOf
    rw [List.length_map]
    exact succ_len h
  rw [List.length_range] at this
  show (List.flatMap _ _).length ≤ 9
  omega
theorem level_len {C : Ct} (h : Cok C) {ok : Sg → Bool} (lv : Lv) : (levelOn C ok lv).length ≤ 9 * lv.length := by
  have h1 := foldW_len (ok := ok) (ps := movesOf C lv) (D := [])
  have h2 := moves_len h lv
  rw [List.length_nil] at h1
  unfold levelOn
  omega
theorem level_mem {C : Ct} {ok : Sg → Bool} {lv : Lv} {p : Sg × Str} (h : p ∈ levelOn C ok lv) : ok p.1 = true ∧ p ∈ movesOf C lv := by
  have := mem_getA (foldW_nodup (ok := ok) (ps := movesOf C lv) (D := []) (by simp [keysA])) (t := p.1) (v := p.2) h
  rcases (foldW_off this).1 with e | e
  · cases e
  · exact e
theorem level_has {C : Ct} {ok : Sg → Bool} {lv : Lv} {t : Sg} : t ∈ keysA (levelOn C ok lv) ↔ ok t = true ∧ ∃ w, (t, w) ∈ movesOf C lv := by
  constructor
  · intro h
    obtain ⟨p, hp, rfl⟩ := List.mem_map.mp h
    obtain ⟨h1, h2⟩ := level_mem hp
    exact ⟨h1, p.2, h2⟩
  · rintro ⟨h1, w, h2⟩
    obtain ⟨v, hv⟩ := foldW_some (ok := ok) (ps := movesOf C lv) (D := []) (.inr ⟨h1, h2⟩)
    exact getA_isSome.mp (by unfold levelOn; rw [hv]; rfl)
theorem app_len (a b : Str) : (a ++ b).length = a.length + b.length := by
  show (a.cps ++ b.cps).size = _
  rw [Array.size_append]
  rfl
theorem level_ok {C : Ct} (h : Cok C) {ok : Sg → Bool} {lv : Lv} {n : Nat} (hl : ∀ q ∈ lv, Sok C q.1 ∧ q.2.length = n) : ∀ q ∈ levelOn C ok lv, Sok C q.1 ∧ q.2.length = n + 1 := fun q hq => by
  obtain ⟨_, h2⟩ := level_mem hq
  obtain ⟨q', hq', i, hi, hu, e⟩ := mem_moves.mp (show (q.1, q.2) ∈ movesOf C lv from h2)
  obtain ⟨k1, k2⟩ := hl q' hq'
  refine ⟨succ_sok h k1.few hu, ?_⟩
  rw [e, app_len, k2]
  rfl
end My
/-! ### is_won, has_won, level_after -/
namespace My
open PySem PySem.Spec PyProof.Rows L2 PySem.Builtin.Str
abbrev sLevelAfter : Stmt := topS 49
theorem scLevelAfter : FnScope ["contest", "level", "seen", "later", "standing", "at", "letter", "word", "successor"] ["contest", "level", "seen"] (defScope sLevelAfter) := ⟨rfl, rfl, rfl, by decide +kernel, rfl, by decide +kernel, by decide +kernel⟩

structure LvTxt (K : PySem.W.Frag) (mg : Str → Option Value) (g1 g2 g3 g4 : Addr) (e1 e2 e3 e4 : FuncData) : Prop where
  su : SuTxt K mg g1 g2 g3 e1 e2 e3
  enumerate : mg "enumerate" = none
  FLevelAfter : Fun K "level_after" "level_after" sLevelAfter g4 e4
  bLevelAfter : Binds K e4 ["contest", "level", "seen"] []
  gLevelAfter : mg "level_after" = some (.ref g4)
theorem tO_stD (o : Option Int) : tO (stD o) = true := by
  cases o <;> rfl
theorem tOs_rowsD (R : List (List (Option Int))) : tOs (rowsD R) = true := by
  unfold rowsD
  refine tOs_map (fun r => ?_) R
  rw [tO]
  exact tOs_map tO_stD r
theorem tO_eCt (C : Ct) : tO (eCt C) = true := by
  simp only [eCt, tO, tOs, Bool.true_and, Bool.and_true]
  rw [tOs_map tO_eS, tOs_map tO_eS, tOs_rowsD]
  rfl
def wonG (t : Sg) : Bool := decide (t.L = [])
def spIsWon (K : PySem.W.Frag) : Sp := fun vs H Q _ => ∃ (y : V) (t : Sg), vs = [y] ∧ Rp K H y (eSg t) ∧ ∀ H', Same H H' → Q (.bl (wonG t)) H'
/-- a dict from standings to words -/
def vW (lv : Lv) : List (Sg × V) := lv.map fun q => (q.1, V.str q.2)
def vT (ts : List Sg) : List (Sg × V) := ts.map fun t => (t, V.bl true)
def spHasWon (P : Program) (w : World) (K : PySem.W.Frag) : Sp := fun vs H Q _ => ∃ (d : Addr) (l : List (Sg × V)), vs = [.ref d] ∧ ED P w K eSg H d l ∧ l.length < sizeLine ∧ ∀ H', Same H H' → Q (.bl ((keysA l).any wonG)) H'
theorem shaped_L (L : List (Int × Int)) : SeqAt.shaped (.tuple (L.map eP)) = true := by
  have l := lay_eP L
  have l2 := l.2.1
  simp [SeqAt.shaped, PyData.canLay0, PyData.depth, l.1]
  omega
theorem eqv_nil (L : List (Int × Int)) : PyData.eqv (.tuple (L.map eP)) (.tuple []) = decide (L = []) := by
  cases L with
  | nil => rfl
  | cons a l => simp [PyData.eqv, PyData.eqvAll]
section
variable {P : Program} {w : World} {K : PySem.W.Frag} {mg : Str → Option Value} {base : Heap} {g1 g2 g3 g4 : Addr} {e1 e2 e3 e4 : FuncData}
theorem ok_isWon (T : SuTxt K mg g1 g2 g3 e1 e2 e3) {k : Nat} : FnOk P w K mg base CX0 (k + 1) g2 e2 ["standing"] (spIsWon K) := by
  refine T.FIsWon.ok scIsWon (fun vs H Q E h => ?_) (fun cdv A outer s H vs Q E hr h => ?_)
  · obtain ⟨y, t, rfl, _⟩ := h
    rfl
  · obtain ⟨y, t, rfl, hy, q⟩ := h
    have hu : (A.deeper (envOfC "is_won" (defScope sIsWon) s.heap.objs.size g2 cdv)).units + 64 < cLine := by have := hr.un; omega
    refine ⟨_, (pss_one (ps_ret (pe_cmpR (op_eqD hu) (pe_ix ix_tup (pv 0) pe_int (fun _ _ => rfl)) (pe_tup pa_nil) (nomark _)))), ?_⟩
    obtain ⟨sa, la, vs, rfl, hS4, hS5, hA5⟩ := sg_top hy
    refine ⟨_, rfl, sa, _, 2, _, rfl, rfl, hS4, rfl, by show 0 ≤ sizeLine; decide, fun n hn => ?_⟩
    have sn := same_upd (o := HO.tup []) hn
    refine ⟨_, _, (Rp.tup (same_tup sn hS5) (rpAll_ts (ts_same sn) hA5 (tOs_map tO_eP _))).dp ?_, (Rp.tup (SqT.of upd_same) .nil).dp (by simp [PyData.hasDict, PyData.hasDictAll]), shaped_L t.L, rfl, ?_⟩
    · rw [PyData.hasDict]
      exact (lay_eP t.L).2.2
    · rw [eqv_nil]
      exact q _ sn
theorem ok_hasWon (T : SuTxt K mg g1 g2 g3 e1 e2 e3) {k : Nat} : FnOk P w K mg base CX0 (k + 2) g3 e3 ["level"] (spHasWon P w K) := by
  have GI : FnOk P w K mg base CX0 (k + 1) g2 e2 ["standing"] (spIsWon K) := ok_isWon T
  refine T.FHasWon.ok scHasWon (fun vs H Q E h => ?_) (fun cdv A outer s H vs Q E hr h => ?_)
  · obtain ⟨d, l, rfl, _⟩ := h
    rfl
  · obtain ⟨d, l, rfl, hd, hz, q⟩ := h
    refine ⟨_, (pss_one (ps_ret (pe_callB (cr_any rfl) (by rfl) T.any (by decide +kernel) (pa_cons (pe_lock (pe_lc (own := [("standing", 1)]) (g := gName 1) (tt := tYes) (by rfl) scHasWon.nd (pi_nkeys (pv 0)) (blkOk_by (N := ["level", "standing"]) (sc := defScope sHasWon) (by decide +kernel)) (fun _ _ _ _ _ => pg_name (i := 1) scHasWon.nd rfl (Or.inl rfl)) (fun _ _ _ _ _ => pts_nil) (fun _ _ _ _ _ => (pe_call GI hr (by rfl) T.gIsWon T.FIsWon.kp T.bIsWon .nil pass0 (pa_cons (pv 1) pa_nil))))) pa_nil)))), ?_⟩
    obtain ⟨xs, hx, kx⟩ := hd
    have lx : xs.length = l.length := Paired.length kx
    refine ⟨d, _, hx, trivial, fun od => ?_⟩
    refine ⟨_, rfl, d, od, xs, rfl, upd_same, fun D nD => ?_⟩
    have nd : d ≠ D := ne_of_none (o := .frz od (NdO P w d xs)) upd_same nD
    have nD0 : H D = none := by rw [upd_ne nd.symm] at nD; exact nD
    have tb : TStay K H (upd H d (.frz od (NdO P w d xs))) := ts_upd hx (fun _ z => nomatch z) (fun _ _ z => nomatch z)
    refine lc_it walk_nkeys (fun i H' => Same (upd H d (.frz od (NdO P w d xs))) H' ∧ H' D = some (.lst ((((keysA l).take i).map wonG).map V.bl))) ⟨same_upd nD, upd_same⟩ (fun i H' _ h => h.1 _ _ upd_same) ?_ ?_
    · rintro i u H' H2 hi ⟨s1, hD⟩ ⟨rfl, e, he, rfl⟩
      obtain ⟨p, hp, rp⟩ := kx.at he
      have hk : (keysA l)[i]? = some p.1 := by
        unfold keysA
        rw [List.getElem?_map, hp]
        rfl
      refine ⟨rfl, ?_⟩
      refine ⟨_, rfl, _, p.1, rfl, rp_ts (tb.trans (ts_same s1)) rp (enc_sg.tO _), fun H3 s3 => ⟨_, s3 _ _ hD, ?_, same_new (s1.trans s3) nD, ?_⟩⟩
      · rw [List.length_map, List.length_map]
        have := List.length_take_le' i (keysA l)
        have l2 : (keysA l).length = l.length := List.length_map _
        omega
      · rw [upd_same, List.take_succ, hk]
        simp
    · rintro H' ⟨s1, hD⟩
      have l2 : xs.length = (keysA l).length := by rw [lx]; exact (List.length_map _).symm
      rw [l2, List.take_length] at hD
      have back : Same H (upd H' d (NdO P w d xs)) := fun b o e => by
        by_cases z : b = d
        · rw [z, upd_same, ← hx, ← z, e]
        · rw [upd_ne z]
          exact s1 b o (by rw [upd_ne z]; exact e)
      refine ⟨s1 _ _ upd_same, D, _, rfl, SqL.of (by rw [upd_ne nd.symm]; exact hD), ?_⟩
      rw [List.any_map]
      exact q _ back
end
end My
/-! ### level_after -/
namespace My
open PySem PySem.Spec PyProof.Rows L2 PySem.Builtin.Str
def okS (seen : List Sg) (t : Sg) : Bool := decide (t ∉ seen)
def spLevelAfter (P : Program) (w : World) (K : PySem.W.Frag) : Sp := fun vs H Q _ => ∃ (x : V) (C : Ct) (d sd : Addr) (lv : Lv) (seen : List Sg) (n : Nat), vs = [x, .ref d, .ref sd] ∧ Rp K H x (eCt C) ∧ Cok C ∧ ED P w K eSg H d (vW lv) ∧ ED P w K eSg H sd (vT seen) ∧ d ≠ sd ∧ (keysA lv).Nodup ∧ (∀ q ∈ lv, Sok C q.1 ∧ q.2.length = n) ∧ n ≤ 100000 ∧ lv.length ≤ 100000 ∧
  ∀ H' r, Same H H' → H r = none → ED P w K eSg H' r (vW (levelOn C (okS seen) lv)) → Q (.ref r) H'
theorem vW_get (lv : Lv) (t : Sg) : getA (vW lv) t = (getA lv t).map V.str := getA_mapv V.str lv t
theorem vW_put (lv : Lv) (t : Sg) (w : Str) : putA (vW lv) t (.str w) = vW (putA lv t w) := (putA_map V.str lv t w).symm
theorem vW_len (lv : Lv) : (vW lv).length = lv.length := List.length_map _
theorem vW_keys (lv : Lv) : keysA (vW lv) = keysA lv := by
  unfold keysA vW
  rw [List.map_map]
  rfl
theorem vT_get (ts : List Sg) (t : Sg) : (getA (vT ts) t).isSome = decide (t ∈ ts) := by
  rw [Bool.eq_iff_iff, getA_isSome, decide_eq_true_eq]
  unfold keysA vT
  rw [List.map_map]
  simp
/-- if t not in seen and (t not in later or word < later[t]): later[t] = word -/
theorem step_if {P : Program} {w : World} {K : PySem.W.Frag} {iT iS iL iW : Nat} {D : Ends} {σ : L2.St} {H : Hp} {b sd g : Addr} {t : Sg} {wd : Str} {lv : Lv} {seen : List Sg}
    (e1 : σ[iT]? = some (some (.ref b))) (e2 : σ[iS]? = some (some (.ref sd))) (e3 : σ[iL]? = some (some (.ref g))) (e4 : σ[iW]? = some (some (.str wd)))
    (hb : Rp K H (.ref b) (eSg t)) (hs : EDr P w K eSg H sd (vT seen)) (hg : ED P w K eSg H g (vW lv)) (hl : lv.length < sizeLine)
    (h : ∀ H', (H' = H ∨ ∃ φ, H' = upd H g (.ext φ)) → ED P w K eSg H' g (vW (stepW (okS seen) lv (t, wd))) → D.nx σ H') :
    tIfS (tAnd (tB (tENotIn P w K (tVar iT) (tVar iS))) (tOr (tB (tENotIn P w K (tVar iT) (tVar iL))) (tTest (tOp (fun x y H Q => ∃ i j, x = V.str i ∧ y = V.str j ∧ Q (.bl (decide (i.cps.toList < j.cps.toList))) H) (tVar iW) (tEGet P w K (tVar iL) (tVar iT)))))) (sEPut P w K (tVar iL) (tVar iT) (tVar iW)) tNext D σ H := by
  have put : upWd lv t wd = putA lv t wd → okS seen t = true → sEPut P w K (tVar iL) (tVar iT) (tVar iW) D σ H := fun e o => by
    obtain ⟨φ, h1, h2⟩ := hg.put enc_sg hb (by rw [vW_len]; exact hl) (.str wd)
    refine ⟨_, e4, _, e3, _, e1, _, h1, h _ (.inr ⟨φ, rfl⟩) ?_⟩
    rw [vW_put] at h2
    unfold stepW
    rw [if_pos o, e]
    exact h2
  have stay : stepW (okS seen) lv (t, wd) = lv → D.nx σ H := fun e => h H (.inl rfl) (by rw [e]; exact hg)
  have i1 := hs.in_ enc_sg hb
  rw [vT_get] at i1
  refine ⟨_, e1, _, e2, _, i1, _, rfl, ?_⟩
  by_cases o : t ∈ seen
  · rw [decide_eq_true o]
    exact iteF (iteF (stay (by unfold stepW okS; rw [decide_eq_false (fun z => z o)]; rfl)))
  rw [decide_eq_false o]
  have ok : okS seen t = true := decide_eq_true o
  have i2 := hg.r.in_ enc_sg hb
  rw [vW_get, Option.isSome_map] at i2
  refine iteT ⟨_, e1, _, e3, _, i2, _, rfl, ?_⟩
  cases hv : getA lv t with
  | none => exact iteT (iteT (put (by unfold upWd; rw [hv]) ok))
  | some v =>
    refine iteF ⟨_, e4, _, e3, _, e1, .str v, hg.r.get enc_sg hb (by rw [vW_get, hv]; rfl), _, _, rfl, rfl, _, rfl, ?_⟩
    show if wlt wd v = true then _ else _
    cases l : wlt wd v with
    | true => exact iteT (put (by unfold upWd; rw [hv]; exact if_pos l) ok)
    | false =>
      refine iteF (stay ?_)
      unfold stepW
      rw [if_pos ok]
      unfold upWd
      rw [hv]
      exact if_neg (by rw [l]; decide)
theorem moves_take {C : Ct} {lv : Lv} {i : Nat} {q : Sg × Str} (h : lv[i]? = some q) : movesOf C (lv.take (i + 1)) = movesOf C (lv.take i) ++ movesFrom C q := by
  unfold movesOf
  rw [List.take_succ, h, List.flatMap_append]
  simp
theorem from_take {C : Ct} {q : Sg × Str} {j : Nat} (h : j < C.M.z.length) : ((List.range C.M.z.length).take (j + 1)).flatMap (stepsOf C q) = ((List.range C.M.z.length).take j).flatMap (stepsOf C q) ++ stepsOf C q j := by
  rw [List.take_succ, List.getElem?_range h, List.flatMap_append]
  simp
section
variable {P : Program} {w : World} {K : PySem.W.Frag} {mg : Str → Option Value} {base : Heap} {g1 g2 g3 g4 : Addr} {e1 e2 e3 e4 : FuncData}
theorem ok_levelAfter (T : LvTxt K mg g1 g2 g3 g4 e1 e2 e3 e4) {k : Nat} : FnOk P w K mg base CX0 (k + 2) g4 e4 ["contest", "level", "seen"] (spLevelAfter P w K) := by
  have GS : FnOk P w K mg base CX0 (k + 1) g1 e1 ["contest", "standing", "at"] (spSucc K) := ok_succ T.su
  refine T.FLevelAfter.ok scLevelAfter (fun vs H Q E h => ?_) (fun cdv A outer s H vs Q E hr h => ?_)
  · obtain ⟨x, C, d, sd, lv, seen, n, rfl, _⟩ := h
    rfl
  · obtain ⟨x, C, d, sd, lv, seen, n, rfl, hx, hC, hd, hsd, dne, nd, hl, hn, hlv, q⟩ := h
    have hu9 : (A.deeper (envOfC "level_after" (defScope sLevelAfter) s.heap.objs.size g4 cdv)).units + 9 < cLine := by have := hr.un; omega
    refine ⟨_, (Evl.pss_cut (ps_set (i := 3) scLevelAfter.nd rfl (.inl rfl) pe_enew)
 (Evl.pss_cut (ps_lock (ps_for PassesOwn.never rfl (pi_nkeys (pv 1)) (pg_name (i := 4) scLevelAfter.nd rfl (.inl rfl))
 (pss_one (ps_for PassesOwn.never rfl (pi_enumS (by rfl) T.enumerate (pa_cons (pe_ix ix_tup (pv 0) pe_int (fun _ _ => rfl)) pa_nil)) (pg_tup rfl (pgs_cons (pg_name (i := 5) scLevelAfter.nd rfl (.inl rfl)) (pgs_cons (pg_name (i := 6) scLevelAfter.nd rfl (.inl rfl)) pgs_nil)))
 (Evl.pss_cut (ps_set (i := 7) scLevelAfter.nd rfl (.inl rfl) (pe_op op_add_str (pe_eget hu9 (pv 1) (pv 4) (fun _ _ => rfl)) (pv 6)))
 (pss_one (ps_for PassesOwn.never rfl (pi_list (pe_call GS hr (by rfl) T.su.gSucc T.su.FSucc.kp T.su.bSucc .nil pass0 (pa_cons (pv 0) (pa_cons (pv 4) (pa_cons (pv 5) pa_nil))))) (pg_name (i := 8) scLevelAfter.nd rfl (.inl rfl))
 (pss_one (ps_if (PW.pt (pw_and (pt_cmp (pc_enotin hu9 (pv 8) (pv 2))) (pw_and1 (PW.pt (pw_or (pt_cmp (pc_enotin hu9 (pv 8) (pv 3))) (pw_or1 (pt_cmpR op_lt_str (pv 7) (pe_eget hu9 (pv 3) (pv 8) (fun _ _ => rfl)) (nomark _)))))))) (pss_one (ps_eput hu9 (pv 3) (pv 8) (pv 7) rfl)) pss_nil)))))))))
 (pss_one (ps_ret (pv 3))))), ?_⟩
    obtain ⟨a, rt, rs, c1, us, c2, ws, rfl, hS, hS1, hA1, hS2, hA2, hS3, hA3⟩ := ct_top hx
    obtain ⟨xd, hxd, kx⟩ := hd
    obtain ⟨xs2, hxs, kx2⟩ := id hsd
    refine ⟨fun σ H1 => ∃ g, σ = [some (.ref a), some (.ref d), some (.ref sd), some (.ref g)] ++ List.replicate 5 none ∧ H g = none ∧ H1 = upd H g (NdO P w g []), ?_, ?_⟩
    · exact fun g ng => ⟨g, rfl, ng, rfl⟩
    rintro σ H1 ⟨g, rfl, ng, rfl⟩
    have dg : d ≠ g := ne_of_none hxd ng
    have sg : sd ≠ g := ne_of_none hxs ng
    refine ⟨fun σ H5 => (∃ l4 l5 l6 l7 l8, σ = [some (.ref a), some (.ref d), some (.ref sd), some (.ref g), l4, l5, l6, l7, l8]) ∧ Same H H5 ∧ ED P w K eSg H5 g (vW (foldW (okS seen) (movesOf C lv) [])), ?_, ?_⟩
    · refine ⟨d, NdO P w d xd, (by rw [upd_ne dg]; exact hxd), trivial, fun od => ?_⟩
      refine ⟨_, rfl, d, od, xd, rfl, upd_same, ?_⟩
      have sb : Same (upd H d (.frz od (NdO P w d xd))) (upd (upd H g (NdO P w g [])) d (.frz od (NdO P w d xd))) := fun b o e => by
        by_cases z : b = d
        · rw [z, upd_same] at e ⊢
          exact e
        · rw [upd_ne z] at e ⊢
          rw [upd_ne (fun y => by rw [y, ng] at e; cases e)]
          exact e
      generalize hHb : upd H d (.frz od (NdO P w d xd)) = Hb at sb
      have nb : Hb g = none := by rw [← hHb, upd_ne (Ne.symm dg)]; exact ng
      have hbr : Hb d = some (.frz od (NdO P w d xd)) := by rw [← hHb]; exact upd_same
      have tb : TStay K H Hb := by
        rw [← hHb]
        exact ts_upd hxd (fun _ z => nomatch z) (fun _ _ z => nomatch z)
      have back : ∀ H5, Same Hb H5 → Same H (upd H5 d (NdO P w d xd)) := fun H5 s5 b o e => by
        by_cases z : b = d
        · rw [z, upd_same, ← hxd, ← z, e]
        · rw [upd_ne z]
          refine s5 b o ?_
          rw [← hHb, upd_ne z]
          exact e
      have hsb : EDr P w K eSg Hb sd (vT seen) := hsd.r.ts enc_sg tb fun o e => by
        rw [← hHb, upd_ne dne.symm]
        exact e
      have hdb : EDr P w K eSg Hb d (vW lv) := ⟨xd, .inr ⟨od, hbr⟩, kx.ts enc_sg tb⟩
      have lx : xd.length = lv.length := by
        have := Paired.length kx
        rw [vW_len] at this
        exact this
      have flen : ∀ ps : Lv, ps.length ≤ 9 * lv.length + 20 → (foldW (okS seen) ps []).length < sizeLine := fun ps hp => by
        have := foldW_len (ok := okS seen) (ps := ps) (D := [])
        rw [List.length_nil] at this
        exact Nat.lt_of_le_of_lt (show _ ≤ 1000000 by omega) (by decide)
      refine for_it walk_nkeys (fun i σ H5 => (∃ l4 l5 l6 l7 l8, σ = [some (.ref a), some (.ref d), some (.ref sd), some (.ref g), l4, l5, l6, l7, l8]) ∧ Same Hb H5 ∧ ED P w K eSg H5 g (vW (foldW (okS seen) (movesOf C (lv.take i)) []))) ⟨⟨_, _, _, _, _, rfl⟩, sb, .nil (by rw [upd_ne (Ne.symm dg)]; exact upd_same)⟩ (fun i σ H5 _ h => h.2.1 _ _ hbr) ?_ ?_
      · rintro i x σ H5 H5' hi ⟨⟨l4, l5, l6, l7, l8, rfl⟩, s5, hg5⟩ ⟨rfl, e, he, rfl⟩
        obtain ⟨p, hp, rp⟩ := kx.at he
        obtain ⟨qq, hq, rfl⟩ : ∃ qq : Sg × Str, lv[i]? = some qq ∧ p = (qq.1, V.str qq.2) := by
          unfold vW at hp
          rw [List.getElem?_map] at hp
          obtain ⟨qq, h1, h2⟩ := Option.map_eq_some_iff.mp hp
          exact ⟨qq, h1, h2.symm⟩
        have memq : qq ∈ lv := List.mem_of_getElem? hq
        obtain ⟨sk, wl⟩ := hl qq memq
        have rpb : Rp K Hb (.ref e.2.1) (eSg qq.1) := rp_ts tb rp (enc_sg.tO _)
        have gq : getA (vW lv) qq.1 = some (.str qq.2) := by
          rw [vW_get, mem_getA nd (show (qq.1, qq.2) ∈ lv from memq)]
          rfl
        refine ⟨_, rfl, a, _, 1, _, rfl, rfl, (tb.trans (ts_same s5)) _ _ hS, rfl, C.M.z, rfl, ?_⟩
        refine for_it walk_enumS (fun j σ H6 => (∃ l5 l6 l7 l8, σ = [some (.ref a), some (.ref d), some (.ref sd), some (.ref g), some (.ref e.2.1), l5, l6, l7, l8]) ∧ Same Hb H6 ∧ ED P w K eSg H6 g (vW (foldW (okS seen) (movesOf C (lv.take i) ++ ((List.range C.M.z.length).take j).flatMap (stepsOf C qq)) []))) ⟨⟨_, _, _, _, rfl⟩, s5, by rw [List.take_zero, List.flatMap_nil, List.append_nil]; exact hg5⟩ (fun _ _ _ _ _ => trivial) ?_ ?_
        · rintro j u σ H6 H7 hj ⟨⟨l5, l6, l7, l8, rfl⟩, s6, hg6⟩ ⟨T2, cc, rfl, nT, rfl, hcc⟩
          have sT := same_upd (o := HO.tup [.int (j : Nat), .str ⟨#[cc]⟩]) nT
          have s7 := s6.trans sT
          have hg7 := hg6.same enc_sg sT
          have hj2 : j < C.M.z.length := hj
          have el : ltrS C.M.z j = ⟨#[cc]⟩ := by
            unfold ltrS
            rw [Array.getD_eq_getD_getElem?, hcc]
            rfl
          refine ⟨T2, _, rfl, SqT.of upd_same, rfl, _, _, rfl, _, _, rfl, rfl, ?_⟩
          refine ⟨fun σ H8 => σ = [some (.ref a), some (.ref d), some (.ref sd), some (.ref g), some (.ref e.2.1), some (.int (j : Nat)), some (.str ⟨#[cc]⟩), some (.str (qq.2 ++ ⟨#[cc]⟩)), l8] ∧ H8 = upd H6 T2 (HO.tup [.int (j : Nat), .str ⟨#[cc]⟩]), ?_, ?_⟩
          · refine ⟨_, rfl, _, rfl, .str qq.2, (hdb.same enc_sg s7).get enc_sg (rp_ts (ts_same s7) rpb (enc_sg.tO _)) gq, _, rfl, _, _, rfl, rfl, ?_, rfl, rfl⟩
            rw [wl]
            exact Nat.le_trans (show n + 1 ≤ 100001 by omega) (by decide)
          rintro σ H8 ⟨rfl, rfl⟩
          generalize upd H6 T2 (HO.tup [.int (j : Nat), .str ⟨#[cc]⟩]) = H8 at s7 hg7 ⊢
          refine ⟨_, rfl, _, rfl, _, rfl, .ref a, .ref e.2.1, C, qq.1, j, rfl, rp_ts (tb.trans (ts_same s7)) hx (tO_eCt C), hC, rp_ts (ts_same s7) rpb (enc_sg.tO _), sk, hj2, fun H9 l us2 s9 nl hl9 hU => ?_⟩
          refine ⟨l, rfl, ⟨_, SqL.of hl9⟩, ?_⟩
          have s9' := s7.trans s9
          have hg9 := hg7.same enc_sg s9
          have gl : g ≠ l := by
            obtain ⟨φ, hφ⟩ := hg7.mut
            exact ne_of_none hφ nl
          refine for_list (K := K) (a := l) (xs := us2) (fun m σ H10 => (∃ l8, σ = [some (.ref a), some (.ref d), some (.ref sd), some (.ref g), some (.ref e.2.1), some (.int (j : Nat)), some (.str ⟨#[cc]⟩), some (.str (qq.2 ++ ⟨#[cc]⟩)), l8]) ∧ Same Hb H10 ∧ H10 l = some (.lst us2) ∧ RpAll K H10 us2 ((succOf C j qq.1).map eSg) ∧ ED P w K eSg H10 g (vW (foldW (okS seen) ((movesOf C (lv.take i) ++ ((List.range C.M.z.length).take j).flatMap (stepsOf C qq)) ++ (stepsOf C qq j).take m) []))) ⟨⟨_, rfl⟩, s9', hl9, hU, by rw [List.take_zero, List.append_nil]; exact hg9⟩ (fun m σ H10 _ h => SqL.of h.2.2.1) ?_ ?_
          · rintro m y σ H10 hy ⟨⟨l8, rfl⟩, s10, hl10, hU10, hg10⟩
            obtain ⟨t, ht, rt2⟩ := rpAll_back hU10 hy
            obtain ⟨tb2, _, _, rfl, _⟩ := sg_top rt2
            have tk : (stepsOf C qq j)[m]? = some (t, qq.2 ++ ⟨#[cc]⟩) := by
              unfold stepsOf
              rw [List.getElem?_map, ht, ← el]
              rfl
            refine step_if (iT := 8) (iS := 2) (iL := 3) (iW := 7) rfl rfl rfl rfl rt2 (hsb.same enc_sg s10) hg10 (flen _ ?_) fun H11 how hg11 => ?_
            · have h1 := moves_len hC (lv.take i)
              have h2 := List.length_take_le' i lv
              have h3 := flat_len (g := stepsOf C qq) (n := 3) ((List.range C.M.z.length).take j) fun i _ => by
                unfold stepsOf
                rw [List.length_map]
                exact succ_len hC
              have h4 := List.length_take_le' j (List.range C.M.z.length)
              rw [List.length_range] at h4
              have h5 := (ltr_pos hC.m.ltr).2
              have h6 := List.length_take_le' m (stepsOf C qq j)
              have h7 : (stepsOf C qq j).length ≤ 3 := by
                unfold stepsOf
                rw [List.length_map]
                exact succ_len hC
              rw [List.length_append, List.length_append]
              omega
            · have st : foldW (okS seen) ((movesOf C (lv.take i) ++ ((List.range C.M.z.length).take j).flatMap (stepsOf C qq)) ++ (stepsOf C qq j).take (m + 1)) [] = stepW (okS seen) (foldW (okS seen) ((movesOf C (lv.take i) ++ ((List.range C.M.z.length).take j).flatMap (stepsOf C qq)) ++ (stepsOf C qq j).take m) []) (t, qq.2 ++ ⟨#[cc]⟩) := by
                rw [List.take_succ, tk, ← List.append_assoc, foldW_app]
                rfl
              rw [← st] at hg11
              rcases how with rfl | ⟨φ, rfl⟩
              · exact ⟨⟨_, rfl⟩, s10, hl10, hU10, hg11⟩
              · obtain ⟨φ2, hφ⟩ := hg10.mut
                exact ⟨⟨_, rfl⟩, same_put s10 nb, by rw [upd_ne gl.symm]; exact hl10, rpAll_ts (ts_upd hφ (fun _ z => nomatch z) (fun _ _ z => nomatch z)) hU10 (tOs_map enc_sg.tO _), hg11⟩
          · rintro σ H10 ⟨⟨l8, rfl⟩, s10, hl10, hU10, hg10⟩
            refine ⟨⟨_, _, _, _, rfl⟩, s10, ?_⟩
            have : us2.length = (stepsOf C qq j).length := by
              unfold stepsOf
              rw [hU10.len, List.length_map, List.length_map]
            rw [this, List.take_length] at hg10
            rw [from_take hj2, ← List.append_assoc]
            exact hg10
        · rintro σ H6 ⟨⟨l5, l6, l7, l8, rfl⟩, s6, hg6⟩
          refine ⟨⟨_, _, _, _, _, rfl⟩, s6, ?_⟩
          rw [moves_take hq]
          have : (List.range C.M.z.length).take C.M.z.cps.size = List.range C.M.z.length := List.take_of_length_le (by rw [List.length_range]; exact Nat.le_refl _)
          rw [this] at hg6
          exact hg6
      · rintro σ H5 ⟨⟨l4, l5, l6, l7, l8, rfl⟩, s5, hg5⟩
        refine ⟨s5 _ _ hbr, ⟨_, _, _, _, _, rfl⟩, back H5 s5, ?_⟩
        rw [lx, List.take_length] at hg5
        exact hg5.ts enc_sg (ts_upd (s5 _ _ hbr) (fun _ z => nomatch z) (fun _ _ z => by cases z)) fun o e => by rw [upd_ne (Ne.symm dg)]; exact e
    rintro σ H5 ⟨⟨l4, l5, l6, l7, l8, rfl⟩, s5, hg5⟩
    exact ⟨_, rfl, q H5 g s5 ng hg5⟩
end
end My
/-! ### the levels up to the end -/
namespace My
open PySem PySem.Spec PyProof.Rows L2 PySem.Builtin.Str
abbrev sLevelsUntil : Stmt := topS 48
theorem scLevelsUntil : FnScope ["contest", "limit", "level", "seen", "levels", "standing"] ["contest", "limit"] (defScope sLevelsUntil) := ⟨rfl, rfl, rfl, by decide +kernel, rfl, by decide +kernel, by decide +kernel⟩
def lvN (C : Ct) : Nat → Lv × List Sg
  | 0 => ([(FIRSTg, ("" : Str))], [FIRSTg])
  | n + 1 => (levelOn C (okS (lvN C n).2) (lvN C n).1, (lvN C n).2 ++ keysA (levelOn C (okS (lvN C n).2) (lvN C n).1))
def lvl (C : Ct) (n : Nat) : Lv := (lvN C n).1
def seenN (C : Ct) (n : Nat) : List Sg := (lvN C n).2
def tot (C : Ct) (n : Nat) : Nat := (seenN C n).length
theorem lvl_succ (C : Ct) (n : Nat) : lvl C (n + 1) = levelOn C (okS (seenN C n)) (lvl C n) := rfl
theorem seen_succ (C : Ct) (n : Nat) : seenN C (n + 1) = seenN C n ++ keysA (lvl C (n + 1)) := rfl
theorem tot_succ (C : Ct) (n : Nat) : tot C (n + 1) = tot C n + (lvl C (n + 1)).length := by
  unfold tot
  rw [seen_succ, List.length_append]
  unfold keysA
  rw [List.length_map]
def wonN (C : Ct) (n : Nat) : Bool := (keysA (lvl C n)).any wonG
theorem lvl_nodup (C : Ct) : ∀ n, (keysA (lvl C n)).Nodup
  | 0 => by simp [lvl, lvN, keysA]
  | n + 1 => foldW_nodup (by simp [keysA])
theorem lvl_new (C : Ct) (n : Nat) : ∀ t ∈ keysA (lvl C (n + 1)), t ∉ seenN C n := fun t ht => by
  rw [lvl_succ, level_has] at ht
  exact of_decide_eq_true ht.1
theorem seen_nodup (C : Ct) : ∀ n, (seenN C n).Nodup
  | 0 => by simp [seenN, lvN]
  | n + 1 => by
    rw [seen_succ, List.nodup_append]
    exact ⟨seen_nodup C n, lvl_nodup C (n + 1), fun a ha b hb => by
      rintro rfl
      exact lvl_new C n a hb ha⟩
theorem lvl_ok {C : Ct} (h : Cok C) : ∀ n, ∀ q ∈ lvl C n, Sok C q.1 ∧ q.2.length = n
  | 0 => fun q hq => by
    obtain rfl : q = (FIRSTg, ("" : Str)) := List.mem_singleton.mp hq
    exact ⟨sok_first h, rfl⟩
  | n + 1 => level_ok h (lvl_ok h n)
/-- nothing is won, nothing is empty up to n -/
def Pre (C : Ct) (n : Nat) : Prop := ∀ m, m < n → wonN C m = false ∧ lvl C (m + 1) ≠ []
def EndsN (C : Ct) (n : Nat) : Prop := Pre C n ∧ (wonN C n = true ∨ lvl C (n + 1) = [])
theorem lvl_len_le (C : Ct) (n : Nat) : (lvl C n).length ≤ tot C n := by
  cases n with
  | zero => exact Nat.le_refl _
  | succ n =>
    rw [tot_succ]
    exact Nat.le_add_left _ _
theorem pre_tot {C : Ct} : ∀ {n : Nat}, Pre C n → n + 1 ≤ tot C n
  | 0, _ => Nat.le_refl _
  | n + 1, h => by
    have ih := pre_tot (n := n) fun m hm => h m (by omega)
    have := List.length_pos_iff.mpr (h n (by omega)).2
    rw [tot_succ]
    omega
theorem tot_mono {C : Ct} {m n : Nat} (h : m ≤ n) : tot C m ≤ tot C n := by
  induction n with
  | zero =>
    obtain rfl : m = 0 := by omega
    exact Nat.le_refl _
  | succ n ih =>
    rw [tot_succ]
    rcases Nat.lt_or_ge n m with l | l
    · obtain rfl : m = n + 1 := by omega
      rw [tot_succ]
      exact Nat.le_refl _
    · exact Nat.le_trans (ih l) (Nat.le_add_right _ _)
theorem pre_ends {C : Ct} {m n : Nat} (h : EndsN C n) (p : Pre C m) : m ≤ n := by
  rcases Nat.lt_or_ge n m with l | l
  · obtain ⟨a, b⟩ := p n l
    rcases h.2 with e | e
    · rw [a] at e
      cases e
    · exact absurd e b
  · exact l
theorem ends_uniq {C : Ct} {m n : Nat} (h : EndsN C n) (g : EndsN C m) : m = n := Nat.le_antisymm (pre_ends h g.1) (pre_ends g h.1)
/-- a list of such levels -/
def LvL (P : Program) (w : World) (K : PySem.W.Frag) (H : Hp) (a : Addr) (rs : List Addr) (lvs : List Lv) : Prop := H a = some (.lst (rs.map V.ref)) ∧ Paired (fun (r : Addr) (lv : Lv) => ED P w K eSg H r (vW lv)) rs lvs
theorem LvL.same {P : Program} {w : World} {K : PySem.W.Frag} {H H' : Hp} {a : Addr} {rs : List Addr} {lvs : List Lv} (h : LvL P w K H a rs lvs) (s : Same H H') : LvL P w K H' a rs lvs := ⟨s _ _ h.1, Paired.mapP h.2 fun _ _ e => e.same enc_sg s⟩
def lenU (H : Hp) (a : Addr) : Nat := match H a with
  | some (.lst xs) => xs.length
  | _ => 0
/-- the loop's state: at d the level n, at sd what is seen so far, at ll the levels ahead of m -/
structure Lw (P : Program) (w : World) (K : PySem.W.Frag) (C : Ct) (H H' : Hp) (d sd ll : Addr) (rs : List Addr) (n m : Nat) : Prop where
  sm : Same H H'
  nd : H d = none
  nsd : H sd = none
  nll : H ll = none
  nrs : ∀ r ∈ rs, H r = none
  ed : ED P w K eSg H' d (vW (lvl C n))
  es : ED P w K eSg H' sd (vT (seenN C n))
  el : LvL P w K H' ll rs ((List.range m).map (lvl C))
  ne : d ≠ sd
  nes : sd ∉ rs
theorem Lw.same {P : Program} {w : World} {K : PySem.W.Frag} {C : Ct} {H H' H2 : Hp} {d sd ll : Addr} {rs : List Addr} {n m : Nat} (h : Lw P w K C H H' d sd ll rs n m) (s : Same H' H2) : Lw P w K C H H2 d sd ll rs n m :=
  ⟨h.sm.trans s, h.nd, h.nsd, h.nll, h.nrs, h.ed.same enc_sg s, h.es.same enc_sg s, h.el.same s, h.ne, h.nes⟩
theorem range_snoc {α : Type} (f : Nat → α) (n : Nat) : (List.range (n + 1)).map f = (List.range n).map f ++ [f n] := by
  rw [List.range_succ, List.map_append]
  rfl
theorem ed_upd {P : Program} {w : World} {K : PySem.W.Frag} {H : Hp} {a g : Addr} {o o' : HO} {l : List (Sg × V)} (h : ED P w K eSg H a l) (hg : H g = some o) (n1 : ∀ xs, o ≠ .tup xs) (n2 : ∀ u xs, o ≠ .frz u (.tup xs)) (ne : a ≠ g) : ED P w K eSg (upd H g o') a l :=
  h.ts enc_sg (ts_upd hg n1 n2) fun o e => by rw [upd_ne ne]; exact e
/-- all but what stands at g is as it was -/
def Keep (g : Addr) (H H' : Hp) : Prop := ∀ b o, b ≠ g → H b = some o → H' b = some o
theorem ts_keep {K : PySem.W.Frag} {g : Addr} {H H' : Hp} {φ : Heap → Prop} (h : H g = some (.ext φ)) (k : Keep g H H') : TStay K H H' := fun b xs e => by
  rcases e with (e | ⟨u, e⟩) | e
  · exact .inl (.inl (k _ _ (fun z => by rw [z, h] at e; cases e) e))
  · exact .inl (.inr ⟨u, k _ _ (fun z => by rw [z, h] at e; cases e) e⟩)
  · exact .inr e
theorem vT_put {ts : List Sg} {t : Sg} (h : t ∉ ts) : putA (vT ts) t (.bl true) = vT (ts ++ [t]) := by
  unfold putA
  have : (getA (vT ts) t).isSome = false := by rw [vT_get]; exact decide_eq_false h
  rw [this]
  unfold vT
  rw [List.map_append]
  rfl
structure LuTxt (K : PySem.W.Frag) (mg : Str → Option Value) (g1 g2 g3 g4 g5 : Addr) (e1 e2 e3 e4 e5 : FuncData) (CG fF : Addr) : Prop where
  lv : LvTxt K mg g1 g2 g3 g4 e1 e2 e3 e4
  len : mg "len" = none
  great : ExcF K mg "TooGreat" CG
  gFirst : mg "FIRST" = some (.ref fF)
  first : ∀ H : Hp, Rp K H (.ref fF) (eSg FIRSTg)
  FLevelsUntil : Fun K "levels_until_won" "levels_until_won" sLevelsUntil g5 e5
  bLevelsUntil : Binds K e5 ["contest", "limit"] []
  gLevelsUntil : mg "levels_until_won" = some (.ref g5)
def spLevelsUntil (P : Program) (w : World) (K : PySem.W.Frag) (CG : Addr) : Sp := fun vs H Q E => ∃ (x : V) (C : Ct) (L : Int), vs = [x, .int L] ∧ Rp K H x (eCt C) ∧ Cok C ∧ 1 ≤ L ∧ L ≤ 2000 ∧
  (∀ n H', Pre C n → L < (tot C n : Int) → Same H H' → E (.ref CG) none H') ∧
  (∀ n H' ll rs, EndsN C n → (tot C n : Int) ≤ L → Same H H' → H ll = none → (∀ r ∈ rs, H r = none) → LvL P w K H' ll rs ((List.range (n + 1)).map (lvl C)) → Q (.ref ll) H')
section
variable {P : Program} {w : World} {K : PySem.W.Frag} {mg : Str → Option Value} {base : Heap} {g1 g2 g3 g4 g5 : Addr} {e1 e2 e3 e4 e5 : FuncData} {CG fF : Addr}
theorem ok_levelsUntil (T : LuTxt K mg g1 g2 g3 g4 g5 e1 e2 e3 e4 e5 CG fF) {k : Nat} : FnOk P w K mg base (L2.CX P w) (k + 3) g5 e5 ["contest", "limit"] (spLevelsUntil P w K CG) := by
  have GA : FnOk P w K mg base CX0 (k + 2) g4 e4 ["contest", "level", "seen"] (spLevelAfter P w K) := ok_levelAfter T.lv
  have GW : FnOk P w K mg base CX0 (k + 2) g3 e3 ["level"] (spHasWon P w K) := ok_hasWon T.lv.su
  refine T.FLevelsUntil.okX scLevelsUntil (fun vs H Q E h => ?_) (fun cdv A outer s H vs Q E hr h => ?_)
  · obtain ⟨x, C, L, rfl, _⟩ := h
    rfl
  · obtain ⟨x, C, L, rfl, hx, hC, L1, L2, qE, q⟩ := h
    have hu9 : (A.deeper (envOfC "levels_until_won" (defScope sLevelsUntil) s.heap.objs.size g5 cdv)).units + 9 < cLine := by have := hr.un; omega
    refine ⟨_, (Evl.pss_cut (ps_par (i := 2) (j := 3) (by rfl) scLevelsUntil.nd rfl rfl (by decide) rfl rfl (pa_cons (pe_ndisp hu9 (pe_glob (v := .ref fF) (by rfl) T.gFirst rfl) pe_str) (pa_cons (pe_ndisp hu9 (pe_glob (v := .ref fF) (by rfl) T.gFirst rfl) pe_bl) pa_nil)) (by rfl))
 (Evl.pss_cut (ps_set (i := 4) scLevelsUntil.nd rfl (.inl rfl) (pe_lst pa_nil))
 (Evl.pss_cut (ps_while (passes_of rfl) (pt_truthR (pv 2) tru_dictN (fun _ => rfl))
 (Evl.pss_cut (ps_expr (pe_bm PySem.F.plainAttrs_list PySem.F.slot_list_append PySem.F.type_list_append mt_append (pv 4) (pa_cons (pv 2) pa_nil)))
 (Evl.pss_cut (ps_if (pt_val (pe_call GW hr (by rfl) T.lv.su.gHasWon T.lv.su.FHasWon.kp T.lv.su.bHasWon .nil pass0 (pa_cons (pv 2) pa_nil))) (pss_one (ps_ret (pv 4))) pss_nil)
 (Evl.pss_cut (ps_set (i := 2) scLevelsUntil.nd rfl (.inl rfl) (pe_call GA hr (by rfl) T.lv.gLevelAfter T.lv.FLevelAfter.kp T.lv.bLevelAfter .nil pass0 (pa_cons (pv 0) (pa_cons (pv 2) (pa_cons (pv 3) pa_nil)))))
 (Evl.pss_cut (ps_if (pt_cmpR op_gt (pe_op op_add (pe_callB cr_lenN (by rfl) T.len PySem.boot_len (pa_cons (pv 3) pa_nil)) (pe_callB cr_lenN (by rfl) T.len PySem.boot_len (pa_cons (pv 2) pa_nil))) (pv 1) (nomark _)) (pss_one (ps_raise rfl (takes_of rfl rfl rfl rfl) (SkE.pmk_own1 PySem.F.excBase_ValueError T.great.q T.great.g T.great.k (raises_own T.great.b T.great.t) (by exact rfl) pe_str))) pss_nil)
 (pss_one (ps_lock (ps_for (passes_of rfl) rfl (pi_nkeys (pv 2)) (pg_name (i := 5) scLevelsUntil.nd rfl (.inl rfl))
 (pss_one (ps_eput hu9 (pv 3) (pv 5) pe_bl rfl))))))))))
 (pss_one (ps_ret (pv 4)))))), ?_⟩
    refine ⟨fun σ H1 => ∃ d sd, σ = [some x, some (.int L), some (.ref d), some (.ref sd), none, none] ∧ Same H H1 ∧ H d = none ∧ H sd = none ∧ d ≠ sd ∧ ED P w K eSg H1 d (vW (lvl C 0)) ∧ ED P w K eSg H1 sd (vT (seenN C 0)), ?_, ?_⟩
    · refine fun d nd => ⟨fF, eSg FIRSTg, rfl, T.first _, enc_sg.tO _, enc_sg.kd _, upd_same, fun sd nsd => ⟨fF, eSg FIRSTg, rfl, T.first _, enc_sg.tO _, enc_sg.kd _, upd_same, _, _, rfl, d, sd, rfl, ?_⟩⟩
      have s1 := same_new (o := NdO P w d [(keyN (eSg FIRSTg), fF, .str "")]) (same_upd (o := NdO P w d []) nd) nd
      have s2 := same_new (o := NdO P w sd [(keyN (eSg FIRSTg), fF, .bl true)]) (same_upd (o := NdO P w sd []) nsd) nsd
      have dn : d ≠ sd := ne_of_none upd_same nsd
      exact ⟨s1.trans s2, nd, s1.free nsd, dn, ⟨_, s2 _ _ upd_same, .cons ⟨rfl, T.first _, rfl⟩ .nil⟩, ⟨_, upd_same, .cons ⟨rfl, T.first _, rfl⟩ .nil⟩⟩
    rintro σ H1 ⟨d, sd, rfl, s1, nd, nsd, dn, hd, hsd⟩
    refine ⟨fun σ H2 => ∃ ll, σ = [some x, some (.int L), some (.ref d), some (.ref sd), some (.ref ll), none] ∧ Lw P w K C H H2 d sd ll [] 0 0, ?_, ?_⟩
    · refine ⟨by show 0 ≤ sizeLine; decide, fun ll nl => ⟨ll, rfl, ?_⟩⟩
      have s2 := same_upd (o := HO.lst []) nl
      exact ⟨s1.trans s2, nd, nsd, s1.free nl, (fun _ h => nomatch h), hd.same enc_sg s2, hsd.same enc_sg s2, ⟨upd_same, .nil⟩, dn, (fun h => nomatch h)⟩
    rintro σ H2 ⟨ll, rfl, k2⟩
    have room : ∀ {m : Nat}, m ≤ 100000 → m ≤ sizeLine := fun h => Nat.le_trans h (by decide)
    have roomL : ∀ {m : Nat}, m ≤ 100000 → m < sizeLine := fun h => Nat.lt_of_le_of_lt h (by decide)
    refine ⟨fun σ H3 => ∃ n d sd rs l5, σ = [some x, some (.int L), some (.ref d), some (.ref sd), some (.ref ll), l5] ∧ Lw P w K C H H3 d sd ll rs (n + 1) (n + 1) ∧ EndsN C n ∧ (tot C n : Int) ≤ L, ?_, ?_⟩
    · refine while_by (fun σ H' => ∃ n d sd rs l5, σ = [some x, some (.int L), some (.ref d), some (.ref sd), some (.ref ll), l5] ∧ Lw P w K C H H' d sd ll rs n n ∧ (∀ m, m < n → wonN C m = false ∧ (m + 1 < n → lvl C (m + 1) ≠ [])) ∧ (tot C n : Int) ≤ L ∧ (n : Int) ≤ L) (fun _ H' => 3000 - lenU H' ll)
        ⟨0, d, sd, [], none, rfl, k2, fun m h => absurd h (Nat.not_lt_zero m), (by show ((1 : Nat) : Int) ≤ L; omega), by omega⟩ ?_ ?_
      · rintro σ H5 ⟨n, d, sd, rs, l5, rfl, k5, pre, tl, nL⟩
        have lle := lvl_len_le C n
        refine ⟨_, rfl, d, Sg, eSg, _, rfl, k5.ed.r, enc_sg, room (by rw [vW_len]; omega), ?_⟩
        by_cases e0 : lvl C n = []
        · rw [e0]
          refine iteF ?_
          cases n with
          | zero => cases e0
          | succ n =>
            refine ⟨n, d, sd, rs, l5, rfl, k5, ⟨fun m hm => ⟨(pre m (by omega)).1, (pre m (by omega)).2 (by omega)⟩, .inr e0⟩, ?_⟩
            rw [tot_succ, e0] at tl
            exact tl
        have ne0 : (!(vW (lvl C n)).isEmpty) = true := by
          cases e : lvl C n with
          | nil => exact absurd e e0
          | cons _ _ => rfl
        rw [ne0]
        have pren : Pre C n := fun m hm => ⟨(pre m hm).1, by
          by_cases z : m + 1 < n
          · exact (pre m hm).2 z
          · obtain rfl : n = m + 1 := by omega
            exact e0⟩
        have lrs : rs.length = n := by
          have := Paired.length k5.el.2
          rw [List.length_map, List.length_range] at this
          exact this
        refine iteT ?_
        refine ⟨fun σ H6 => σ = [some x, some (.int L), some (.ref d), some (.ref sd), some (.ref ll), l5] ∧ Lw P w K C H H6 d sd ll (rs ++ [d]) n (n + 1) ∧ lenU H6 ll = n + 1, ?_, ?_⟩
        · refine ⟨_, rfl, .inl ⟨rfl, _, SqL.of k5.el.1⟩, _, rfl, ll, _, _, rfl, rfl, k5.el.1, roomL (by rw [List.length_map, lrs]; omega), rfl, ?_, ?_⟩
          · have ext : ∀ {a l}, ED P w K eSg H5 a l → ED P w K eSg (upd H5 ll (.lst (rs.map V.ref ++ [V.ref d]))) a l := fun {a l} h => ed_upd h k5.el.1 (fun _ z => nomatch z) (fun _ _ z => nomatch z) (fun z => by
              obtain ⟨φ, hφ⟩ := h.mut
              rw [z, k5.el.1] at hφ
              cases hφ)
            refine ⟨same_new k5.sm k5.nll, k5.nd, k5.nsd, k5.nll, fun r hr => ?_, ext k5.ed, ext k5.es, ⟨?_, ?_⟩, k5.ne, fun hm => ?_⟩
            · rcases List.mem_append.mp hr with h | h
              · exact k5.nrs r h
              · rw [List.mem_singleton.mp h]
                exact k5.nd
            · rw [upd_same, List.map_append]
              rfl
            · rw [range_snoc]
              exact Paired.snoc (Paired.mapP k5.el.2 fun _ _ e => ext e) (ext k5.ed)
            · rcases List.mem_append.mp hm with h | h
              · exact k5.nes h
              · exact k5.ne (List.mem_singleton.mp h).symm
          · unfold lenU
            rw [upd_same]
            show (rs.map V.ref ++ [V.ref d]).length = n + 1
            rw [List.length_append, List.length_map, lrs]
            rfl
        rintro σ H6 ⟨rfl, k6, m6⟩
        refine ⟨fun σ H7 => σ = [some x, some (.int L), some (.ref d), some (.ref sd), some (.ref ll), l5] ∧ Lw P w K C H H7 d sd ll (rs ++ [d]) n (n + 1) ∧ lenU H7 ll = n + 1 ∧ wonN C n = false, ?_, ?_⟩
        · refine ⟨_, rfl, d, _, rfl, k6.ed, roomL (by rw [vW_len]; omega), fun H7 s7 => ⟨_, rfl, ?_⟩⟩
          have k7 := k6.same s7
          rw [vW_keys]
          show if wonN C n = true then _ else _
          cases hw : wonN C n with
          | true =>
            refine iteT ⟨_, rfl, q n H7 ll (rs ++ [d]) ⟨pren, .inl hw⟩ tl k7.sm k7.nll k7.nrs k7.el⟩
          | false =>
            refine iteF ⟨rfl, k7, ?_, rfl⟩
            unfold lenU at m6 ⊢
            rw [k7.el.1]
            rw [k6.el.1] at m6
            exact m6
        rintro σ H7 ⟨rfl, k7, m7, hw⟩
        refine ⟨fun σ H8 => ∃ r, σ = [some x, some (.int L), some (.ref r), some (.ref sd), some (.ref ll), l5] ∧ Lw P w K C H H8 d sd ll (rs ++ [d]) n (n + 1) ∧ lenU H8 ll = n + 1 ∧ ED P w K eSg H8 r (vW (lvl C (n + 1))) ∧ H r = none ∧ r ≠ sd, ?_, ?_⟩
        · refine ⟨_, rfl, _, rfl, _, rfl, x, C, d, sd, lvl C n, seenN C n, n, rfl, hx.go k7.sm, hC, k7.ed, k7.es, k7.ne, lvl_nodup C n, lvl_ok hC n, by omega, by omega, fun H8 r s8 nr hr => ⟨r, rfl, k7.same s8, ?_, hr, k7.sm.free nr, ?_⟩⟩
          · unfold lenU at m7 ⊢
            rw [(k7.same s8).el.1]
            rw [k7.el.1] at m7
            exact m7
          · intro z
            obtain ⟨φ, hφ⟩ := k7.es.mut
            rw [z, hφ] at nr
            cases nr
        rintro σ H8 ⟨r, rfl, k8, m8, hr8, nr, rsd⟩
        have lns := level_len hC (ok := okS (seenN C n)) (lvl C n)
        rw [← lvl_succ] at lns
        have tls : (seenN C n).length = tot C n := rfl
        refine ⟨fun σ H9 => σ = [some x, some (.int L), some (.ref r), some (.ref sd), some (.ref ll), l5] ∧ H9 = H8 ∧ (tot C (n + 1) : Int) ≤ L, ?_, ?_⟩
        · refine ⟨_, rfl, sd, Sg, eSg, _, rfl, k8.es.r, enc_sg, room (by unfold vT; rw [List.length_map]; omega), _, rfl, r, Sg, eSg, _, rfl, hr8.r, enc_sg, room (by rw [vW_len]; omega), _, _, rfl, rfl, _, rfl, _, _, rfl, rfl, _, rfl, ?_⟩
          have lt : ((vT (seenN C n)).length : Int) + ((vW (lvl C (n + 1))).length : Int) = (tot C (n + 1) : Int) := by
            rw [vW_len, tot_succ]
            unfold vT tot
            rw [List.length_map]
            omega
          rw [lt]
          by_cases z : L < (tot C (n + 1) : Int)
          · rw [decide_eq_true z]
            refine iteT (qE (n + 1) _ (fun m hm => ?_) z k8.sm)
            by_cases y : m < n
            · exact pren m y
            · obtain rfl : m = n := by omega
              refine ⟨hw, fun e => ?_⟩
              rw [tot_succ, e] at z
              have : (([] : Lv).length : Int) = 0 := rfl
              omega
          · rw [decide_eq_false z]
            exact iteF ⟨rfl, rfl, by omega⟩
        rintro σ H9 ⟨rfl, rfl, tl1⟩
        obtain ⟨xr, hxr, kr⟩ := id hr8
        refine ⟨r, _, hxr, trivial, fun od => ?_⟩
        refine ⟨_, rfl, r, od, xr, rfl, upd_same, ?_⟩
        have lx : xr.length = (lvl C (n + 1)).length := by
          have := Paired.length kr
          rw [vW_len] at this
          exact this
        have tb : TStay K H9 (upd H9 r (.frz od (NdO P w r xr))) := ts_upd hxr (fun _ z => nomatch z) (fun _ _ z => nomatch z)
        refine for_it walk_nkeys (fun i σ H10 => (∃ l5, σ = [some x, some (.int L), some (.ref r), some (.ref sd), some (.ref ll), l5]) ∧ Keep sd (upd H9 r (.frz od (NdO P w r xr))) H10 ∧ ED P w K eSg H10 sd (vT (seenN C n ++ (keysA (lvl C (n + 1))).take i))) ⟨⟨_, rfl⟩, (fun _ _ _ e => e), by rw [List.take_zero, List.append_nil]; exact ed_upd k8.es hxr (fun _ z => nomatch z) (fun _ _ z => nomatch z) rsd.symm⟩ (fun i σ H10 _ h => h.2.1 _ _ rsd upd_same) ?_ ?_
        · rintro i y σ H10 H10' hi ⟨⟨l5, rfl⟩, kp, es⟩ ⟨rfl, e, he, rfl⟩
          obtain ⟨p, hp, rp⟩ := kr.at he
          obtain ⟨qq, hq, rfl⟩ : ∃ qq : Sg × Str, (lvl C (n + 1))[i]? = some qq ∧ p = (qq.1, V.str qq.2) := by
            unfold vW at hp
            rw [List.getElem?_map] at hp
            obtain ⟨qq, h1, h2⟩ := Option.map_eq_some_iff.mp hp
            exact ⟨qq, h1, h2.symm⟩
          have hk : (keysA (lvl C (n + 1)))[i]? = some qq.1 := by
            unfold keysA
            rw [List.getElem?_map, hq]
            rfl
          have notin : qq.1 ∉ seenN C n ++ (keysA (lvl C (n + 1))).take i := fun hm => by
            rcases List.mem_append.mp hm with h | h
            · exact lvl_new C n qq.1 (List.mem_of_getElem? hk) h
            · obtain ⟨j, hj, e2⟩ := List.getElem_of_mem h
              rw [List.length_take] at hj
              rw [List.getElem_take] at e2
              have e3 : (keysA (lvl C (n + 1)))[j]? = some qq.1 := by rw [List.getElem?_eq_getElem (by omega), e2]
              have nd := lvl_nodup C (n + 1)
              have := (List.getElem?_inj (by omega) nd).mp (e3.trans hk.symm)
              omega
          obtain ⟨φ, hφ⟩ := k8.es.mut
          have tk := ts_keep (K := K) (φ := φ) (by rw [upd_ne rsd.symm]; exact hφ) kp
          obtain ⟨φ2, p1, p2⟩ := es.put enc_sg (rp_ts (tb.trans tk) rp (enc_sg.tO _)) (by
            unfold vT
            rw [List.length_map, List.length_append]
            have l2 := List.length_take_le' i (keysA (lvl C (n + 1)))
            have l3 : (keysA (lvl C (n + 1))).length = (lvl C (n + 1)).length := List.length_map _
            exact roomL (by omega)) (.bl true)
          refine ⟨_, rfl, _, rfl, _, p1, ⟨_, rfl⟩, fun b o nb eb => ?_, ?_⟩
          · rw [upd_ne nb]
            exact kp b o nb eb
          · rw [vT_put notin] at p2
            rw [List.take_succ, hk, ← List.append_assoc]
            exact p2
        · rintro σ H10 ⟨⟨l5, rfl⟩, kp, es⟩
          have hr10 := kp _ _ rsd upd_same
          have l3 : xr.length = (keysA (lvl C (n + 1))).length := by rw [lx]; exact (List.length_map _).symm
          rw [l3, List.take_length, ← seen_succ] at es
          refine ⟨hr10, ?_⟩
          have keep : Keep sd H9 (upd H10 r (NdO P w r xr)) := fun b o nb eb => by
            by_cases z : b = r
            · rw [z, upd_same, ← hxr, ← z, eb]
            · rw [upd_ne z]
              exact kp b o nb (by rw [upd_ne z]; exact eb)
          obtain ⟨φ, hφ⟩ := k8.es.mut
          have tk := ts_keep (K := K) hφ keep
          have edk : ∀ {a l}, a ≠ sd → ED P w K eSg H9 a l → ED P w K eSg (upd H10 r (NdO P w r xr)) a l := fun {a l} na h => h.ts enc_sg tk fun o eb => keep _ _ na eb
          have nll : ll ≠ sd := fun z => by
            have e1 := k8.el.1
            rw [z, hφ] at e1
            cases e1
          refine ⟨⟨n + 1, r, sd, rs ++ [d], l5, rfl, ⟨fun b o eb => ?_, nr, k8.nsd, k8.nll, k8.nrs, edk rsd hr8, ?_, ⟨keep _ _ nll k8.el.1, ?_⟩, rsd, k8.nes⟩, fun m hm => ⟨?_, fun hm2 => ?_⟩, tl1, ?_⟩, ?_⟩
          · exact keep b o (fun z => by rw [z, k8.nsd] at eb; cases eb) (k8.sm b o eb)
          · exact ed_upd es hr10 (fun _ z => nomatch z) (fun _ _ z => by cases z) rsd.symm
          · have : ∀ {rs : List Addr} {lvs : List Lv}, sd ∉ rs → Paired (fun (r : Addr) (lv : Lv) => ED P w K eSg H9 r (vW lv)) rs lvs → Paired (fun (r2 : Addr) (lv : Lv) => ED P w K eSg (upd H10 r (NdO P w r xr)) r2 (vW lv)) rs lvs := fun {rs lvs} nm h => by
              induction h with
              | nil => exact .nil
              | cons h1 _ ih => exact .cons (edk (fun z => nm (by rw [z]; exact .head _)) h1) (ih fun z => nm (.tail _ z))
            exact this k8.nes k8.el.2
          · by_cases z : m < n
            · exact (pren m z).1
            · obtain rfl : m = n := by omega
              exact hw
          · exact (pren m (by omega)).2
          · have := pre_tot pren
            omega
          · have e5 : lenU H5 ll = n := by
              unfold lenU
              rw [k5.el.1]
              show (rs.map V.ref).length = n
              rw [List.length_map, lrs]
            have e6 : lenU (upd H10 r (NdO P w r xr)) ll = n + 1 := by
              unfold lenU at m8 ⊢
              rw [keep _ _ nll k8.el.1]
              rw [k8.el.1] at m8
              exact m8
            rw [e5, e6]
            omega
      · rintro σ H Q Q' h ⟨x, h1, a, α, enc, l, h2, h3, h4, h5, h6⟩
        exact ⟨x, h1, a, α, enc, l, h2, h3, h4, h5, h _ _ h6⟩
    rintro σ H3 ⟨n, d, sd, rs, l5, rfl, k3, he, tl⟩
    exact ⟨_, rfl, q n H3 ll rs he tl k3.sm k3.nll k3.nrs k3.el⟩
end
end My
/-! ### min and sorted of texts -/
namespace My
open PySem PySem.Spec PyProof.Rows L2 PySem.Builtin.Str
theorem argBest_wlt (num : Nat → Str) : ∀ k, argBest (fun i j => wlt (num i) (num j)) k ≤ k ∧ ∀ j, j ≤ k → wlt (num j) (num (argBest (fun i j => wlt (num i) (num j)) k)) = false
  | 0 => ⟨Nat.le_refl _, fun j hj => by
    obtain rfl : j = 0 := by omega
    exact wlt_irrefl _⟩
  | k + 1 => by
    obtain ⟨h1, h2⟩ := argBest_wlt num k
    simp only [argBest]
    by_cases hc : wlt (num (k + 1)) (num (argBest (fun i j => wlt (num i) (num j)) k)) = true
    · rw [if_pos hc]
      refine ⟨Nat.le_refl _, fun j hj => ?_⟩
      by_cases e : j = k + 1
      · rw [e]
        exact wlt_irrefl _
      · rcases SrtO.bcase (wlt (num j) (num (k + 1))) with q | q
        · have := wlt_trans q hc
          rw [h2 j (by omega)] at this
          cases this
        · exact q
    · rw [if_neg hc]
      refine ⟨by omega, fun j hj => ?_⟩
      by_cases e : j = k + 1
      · rw [e]
        exact eq_false_of_ne_true hc
      · exact h2 j (by omega)
def rMinS (K : PySem.W.Frag) : List V → Hp → VK → Prop := fun vs H Q => ∃ (a : Addr) (ws : List Str), vs = [V.ref a] ∧ SqL K H a (ws.map V.str) ∧ 0 < ws.length ∧ ∀ m, m ∈ ws → (∀ y ∈ ws, wlt y m = false) → Q (.str m) H
def rSortS (K : PySem.W.Frag) : List V → Hp → VK → Prop := fun vs H Q => ∃ (a : Addr) (ws : List Str), vs = [V.ref a] ∧ SqL K H a (ws.map V.str) ∧ ∀ (ys : List Str) (p : Addr), ys.Perm ws → ys.Pairwise (fun a b => wlt b a = false) → H p = none → Q (.ref p) (upd H p (.lst (ys.map V.str)))
theorem vals_txts : ∀ {ws : List Str} {us : List Value}, Vals (ws.map V.str) us → us.length = ws.length ∧ ∀ (i : Nat) (v : Value), us[i]? = some v → ∃ (x : Str) (t : Tok), ws[i]? = some x ∧ v = Value.str x t
  | [], _, h => by
    cases h
    exact ⟨rfl, fun i v e => by simp at e⟩
  | w :: ws, _, h => by
    cases h with
    | cons h1 h2 =>
      obtain ⟨t, rfl⟩ := h1
      obtain ⟨l, e⟩ := vals_txts h2
      refine ⟨by rw [List.length_cons, List.length_cons, l], fun i v ev => ?_⟩
      cases i with
      | zero => cases ev; exact ⟨w, t, rfl, rfl⟩
      | succ i => exact e i v (by simpa using ev)
section
variable {X : Cx}
theorem cr_minS (hc : X.calm = true) : CallR X (.builtin "min") (rMinS X.K) := by
  intro pins s σ H vs us Q I r h
  obtain ⟨a, ws, rfl, hs, hne, q⟩ := h
  obtain ⟨its, rv, hl, hz⟩ := I.list hs
  rw [Vals.ref1 r]
  obtain ⟨lv, ev⟩ := vals_txts rv
  have there : ∃ o, s.heap.get? a = some o := by
    obtain ⟨o, ho, _⟩ := hl.isList
    exact ⟨o, ho⟩
  obtain ⟨o, ho⟩ := there
  have lt := Heap.lt_size ho
  refine call_min_walk (wpAny_pyIter_list hl.isList ?_)
  refine ⟨_, _, _, _, _, _, fun i j => wlt (ws.getD i "") (ws.getD j ""), rfl, Walks.list (A := X.A.in1) (I.ok.hd hc) s.heap.objs.size a (Nat.ne_of_lt lt) its.toArray, ⟨⟨_, Heap.get?_push_size _ rfl, rfl, rfl⟩, ?_⟩, fun b hb => ?_, ?_, ?_, ?_⟩
  · exact hl.isList.at fun o e => Heap.get?_push_of_some _ e
  · show b < (s.heap.push _).objs.size
    rw [Heap.size_push]
    rcases List.mem_cons.mp hb with e | e
    · rw [e]; exact Nat.lt_succ_self _
    · rw [List.mem_singleton.mp e]
      exact Nat.lt_succ_of_lt lt
  · rw [List.size_toArray, lv]
    exact hne
  · intro i j vi vj s' Q' E' hi hj hq
    rw [List.getElem?_toArray] at hi hj
    obtain ⟨x, t, e1, rfl⟩ := ev i vi hi
    obtain ⟨y, u, e2, rfl⟩ := ev j vj hj
    have hq2 : Q' (.bool (wlt (ws.getD i "") (ws.getD j ""))) s' := hq
    rw [List.getD_eq_getElem?_getD, e1, List.getD_eq_getElem?_getD, e2, Option.getD_some, Option.getD_some] at hq2
    exact PyProof.Rows.lt_str hq2
  · intro v h' tk hP hk
    rw [List.getElem?_toArray, List.size_toArray] at hP
    obtain ⟨x, t, e1, rfl⟩ := ev _ v hP
    obtain ⟨b1, b2⟩ := argBest_wlt (fun i => ws.getD i "") (its.length - 1)
    have ex : ws.getD (argBest (fun i j => wlt (ws.getD i "") (ws.getD j "")) (its.length - 1)) "" = x := by
      rw [List.getD_eq_getElem?_getD, e1]
      rfl
    refine ⟨.str x, H, I.kept (t' := tk) fun b o e => hk b o (fun m => ?_) (Heap.get?_push_of_some _ e), ⟨t, rfl⟩, q x (List.mem_of_getElem? e1) fun y hy => ?_⟩
    · rw [List.mem_singleton.mp m] at e
      exact absurd (Heap.lt_size e) (Nat.lt_irrefl _)
    · obtain ⟨j, hj, rfl⟩ := List.getElem_of_mem hy
      have := b2 j (by omega)
      rw [ex, List.getD_eq_getElem?_getD, List.getElem?_eq_getElem hj] at this
      exact this
theorem cr_sortS (hu : X.A.units + 16 < cLine) : CallR X (.builtin "sorted") (rSortS X.K) := by
  intro pins s σ H vs us Q I r h
  obtain ⟨a, ws, rfl, hs, q⟩ := h
  obtain ⟨its, rv, hl, hz⟩ := I.list hs
  rw [Vals.ref1 r]
  have hE := each_vals rv
  rw [List.length_map] at hz
  obtain ⟨lv, _⟩ := vals_txts rv
  refine PySem.W.sorted_data (R := fun u (z : Str) => RelV (V.str z) u) (enc := fun z : Str => PyData.str z) hl.isList hE (hE.mono fun u z q => ?_) (PySem.W.AllAlike.of fun z z' => rfl) (PySem.W.Sortable.others fun z => ⟨(fun h => nomatch h), (fun _ h => nomatch h)⟩) hz (fun z _ => ?_) fun out hlen ho => ?_
  · obtain ⟨t, rfl⟩ := q
    exact ⟨_, .str _ _⟩
  · show X.A.units + 2 + 0 < cLine
    omega
  · obtain ⟨e, he⟩ := PyProof.Rows.sortedAll_at s.heap its out.toArray
    have ov := vals_each ho
    have perm : (ws.mergeSort (PySem.W.dataLe false fun z : Str => PyData.str z)).Perm ws := List.mergeSort_perm _ _
    have srt := PySem.W.sort_pairwise (le_total (enc := fun z : Str => PyData.str z)) ws
    refine ⟨.ref (s.heap.objs.size + 1), upd H (s.heap.objs.size + 1) (.lst ((ws.mergeSort (PySem.W.dataLe false fun z : Str => PyData.str z)).map V.str)), I.laid (t' := s.toks) (fun b o e => PyProof.Rows.sortedAll_old e) (Nat.le_succ _) ⟨?_, out, e, ov, he⟩, rfl, q _ _ perm (srt.imp fun {x y} h => ?_) (I.hok.fresh (Nat.le_succ _))⟩
    · rw [List.length_map, perm.length_eq]
      exact hz
    · rw [PySem.W.dataLe_str (fun z : Str => z)] at h
      exact decide_eq_false (List.not_lt.mpr (of_decide_eq_true h))
end
end My
/-! ### slices and sums of tuples -/
namespace My
open PySem PySem.Spec PyProof.Rows L2
theorem cut_whole (xs : List V) {lo hi : Option Int} (h : HT.sIx xs.length 0 lo = 0 ∧ HT.sIx xs.length xs.length hi = xs.length) : cutV xs lo hi = xs := by
  unfold cutV
  rw [h.1, h.2, List.drop_zero]
  exact List.take_of_length_le (by omega)
theorem sl_any {K : PySem.W.Frag} {a : Addr} {xs : List V} {lo hi : Option Int} {H : Hp} {Q : VK} (hS : SqT K H a xs) (q : ∀ r H', Same H H' → SqT K H' r (cutV xs lo hi) → Q (.ref r) H') : rSlA K (.ref a) lo hi H Q :=
  ⟨a, xs, rfl, hS, fun w => q a H (Same.refl H) (by rw [cut_whole xs w]; exact hS), fun _ p hp => q p _ (same_upd hp) (SqT.of upd_same)⟩
theorem cat_any {K : PySem.W.Frag} {a b : Addr} {xs ys : List V} {H : Hp} {Q : VK} (ha : SqT K H a xs) (hb : SqT K H b ys) (hz : xs.length + ys.length ≤ sizeLine) (q : ∀ r H', Same H H' → SqT K H' r (xs ++ ys) → Q (.ref r) H') : rCatA K (.ref a) (.ref b) H Q :=
  ⟨a, b, xs, ys, rfl, rfl, ha, hb, hz, fun e => q b H (Same.refl H) (by rw [e]; exact hb), fun _ e => q a H (Same.refl H) (by rw [e, List.append_nil]; exact ha), fun _ _ p hp => q p _ (same_upd hp) (SqT.of upd_same)⟩
theorem sl_anyN {K : PySem.W.Frag} {a : Addr} {xs : List V} {lo : Option Int} {σ : L2.St} {H : Hp} {Q : VK} (hS : SqT K H a xs) (q : ∀ r H', Same H H' → SqT K H' r (cutV xs lo none) → Q (.ref r) H') : tNoPart σ H (fun u H3 => rSlA K (.ref a) lo u H3 Q) := sl_any (lo := lo) (hi := none) hS q
end My
/-! ### the contest, its arguments -/
namespace My
open PySem PySem.Spec PyProof.Rows L2 PySem.Builtin.Str
abbrev sNeedMatch : Stmt := topS 38
abbrev sNeedRule : Stmt := topS 40
abbrev sNeedContest : Stmt := topS 39
abbrev sContestOf : Stmt := topS 47
abbrev sNeedLimit : Stmt := topS 41
theorem scNeedMatch : FnScope ["one", "other"] ["one", "other"] (defScope sNeedMatch) := ⟨rfl, rfl, rfl, by decide +kernel, rfl, by decide +kernel, by decide +kernel⟩
theorem scNeedRule : FnScope ["thing", "letters"] ["thing", "letters"] (defScope sNeedRule) := ⟨rfl, rfl, rfl, by decide +kernel, rfl, by decide +kernel, by decide +kernel⟩
theorem scNeedContest : FnScope ["one", "other", "rule", "first", "second"] ["one", "other", "rule"] (defScope sNeedContest) := ⟨rfl, rfl, rfl, by decide +kernel, rfl, by decide +kernel, by decide +kernel⟩
theorem scContestOf : FnScope ["one", "other", "rule", "first", "second", "gains", "losses", "over", "below"] ["one", "other", "rule"] (defScope sContestOf) := ⟨rfl, rfl, rfl, by decide +kernel, rfl, by decide +kernel, by decide +kernel⟩
theorem scNeedLimit : FnScope ["thing", "most"] ["thing", "most"] (defScope sNeedLimit) := ⟨rfl, rfl, rfl, by decide +kernel, rfl, by decide +kernel, by decide +kernel⟩
structure CoTxt (K : PySem.W.Frag) (mg : Str → Option Value) (m1 m2 m3 m4 m5 m6 m7 m8 m9 m10 m11 m12 : Addr) (n1 n2 n3 n4 n5 n6 n7 n8 n9 n10 n11 n12 : FuncData) (t1 t2 t3 t4 t5 : Tok) (CM a1 a3 : Addr) (b1 b3 : FuncData) (r1 r2 r3 r4 r5 p1 : Addr) (v1 v2 v3 v4 v5 q1 : FuncData) (CX CR CI : Addr) : Prop where
  frm : FrmTxt K mg m1 m2 m3 m4 m5 m6 m7 m8 m9 m10 m11 m12 n1 n2 n3 n4 n5 n6 n7 n8 n9 n10 n11 n12 t1 t2 t3 t4 t5 CM a1 a3 b1 b3
  pays : SprTxt K mg p1 p1 q1 q1
  noMatch : ExcF K mg "NoMatch" CX
  noRule : ExcF K mg "NoRule" CR
  noLimit : ExcF K mg "NoLimit" CI
  FNeedMatch : Fun K "need_match" "need_match" sNeedMatch r1 v1
  bNeedMatch : Binds K v1 ["one", "other"] []
  gNeedMatch : mg "need_match" = some (.ref r1)
  FNeedRule : Fun K "need_rule" "need_rule" sNeedRule r2 v2
  bNeedRule : Binds K v2 ["thing", "letters"] []
  gNeedRule : mg "need_rule" = some (.ref r2)
  FNeedContest : Fun K "need_contest" "need_contest" sNeedContest r3 v3
  bNeedContest : Binds K v3 ["one", "other", "rule"] []
  gNeedContest : mg "need_contest" = some (.ref r3)
  FContestOf : Fun K "contest_of" "contest_of" sContestOf r4 v4
  bContestOf : Binds K v4 ["one", "other", "rule"] []
  gContestOf : mg "contest_of" = some (.ref r4)
  FNeedLimit : Fun K "need_limit" "need_limit" sNeedLimit r5 v5
  bNeedLimit : Binds K v5 ["thing", "most"] []
  gNeedLimit : mg "need_limit" = some (.ref r5)
theorem strOk_of {z : Str} (h : lettersL z.cps.toList = true) : PyData.strOk z = true := by
  have h2 := letters_small h
  unfold PyData.strOk
  rw [Array.all_eq_true]
  intro i hi
  have := h2 z.cps[i] (by rw [Array.mem_toList_iff]; exact Array.getElem_mem hi)
  exact decide_eq_true (Nat.lt_of_le_of_lt this (by decide))
theorem rul_form {d : PyData} (h : rulD d = true) : ∃ z rows, d = .tuple [.str z, .tuple (rowsD rows)] ∧ lettersL z.cps.toList = true ∧ 1 ≤ rows.length ∧ rows.length ≤ 4 ∧ ∀ r ∈ rows, RowOk z.length rows.length r := by
  unfold rulD at h
  split at h
  · rename_i l ss
    rw [Bool.and_eq_true, Bool.and_eq_true, List.all_eq_true] at h
    obtain ⟨h1, h2, h3⟩ := h
    cases l with
    | str z =>
      have h4 := tabD_tup h2
      have row : ∀ d ∈ ss, ∃ r : List (Option Int), d = .tuple (r.map stD) ∧ RowOk z.length ss.length r := fun d hd => by
        have a1 : tupD (z.length : Int) (z.length : Int) d = true := h4.2 d hd
        have a2 := h3 d hd
        cases d with
        | tuple es =>
          unfold tupD at a1
          rw [Bool.and_eq_true, decide_eq_true_eq, decide_eq_true_eq] at a1
          unfold wayD at a2
          rw [Bool.and_eq_true, List.all_eq_true, decide_eq_true_eq] at a2
          have lift : ∃ r : List (Option Int), es = r.map stD := by
            obtain ⟨r, e, _⟩ := lift_map (f := stD) (P := fun _ => True) es fun e he => by
              by_cases z : someD e = true
              · have := a2.2 e (List.mem_filter.mpr ⟨he, z⟩)
                obtain ⟨i, rfl⟩ := betD_int this
                exact ⟨some i, rfl, trivial⟩
              · cases e with
                | none => exact ⟨none, rfl, trivial⟩
                | _ => exact absurd rfl z
            exact ⟨r, e⟩
          obtain ⟨r, rfl⟩ := lift
          refine ⟨r, rfl, ?_, ?_, fun i hi => ?_⟩
          · rw [List.length_map] at a1
            omega
          · obtain ⟨e, he⟩ := List.exists_mem_of_length_pos (show 0 < ((r.map stD).filter someD).length by omega)
            obtain ⟨h5, h6⟩ := List.mem_filter.mp he
            obtain ⟨x, hx, rfl⟩ := List.mem_map.mp h5
            exact ⟨x, hx, fun z => by rw [z] at h6; cases h6⟩
          · have := a2.2 (.int i) (List.mem_filter.mpr ⟨List.mem_map.mpr ⟨some i, hi, rfl⟩, rfl⟩)
            unfold betD at this
            rw [Bool.and_eq_true, decide_eq_true_eq, decide_eq_true_eq] at this
            omega
        | _ => exact absurd a1 (by simp [tupD])
      obtain ⟨rows, e, hr⟩ := lift_map (f := fun r : List (Option Int) => PyData.tuple (r.map stD)) ss row
      have e2 : ss = rowsD rows := e
      have ls : ss.length = rows.length := by rw [e2]; exact List.length_map _
      have h5 := h4.1
      unfold tupD at h5
      rw [Bool.and_eq_true, decide_eq_true_eq, decide_eq_true_eq] at h5
      refine ⟨z, rows, by rw [e2], h1, by omega, by omega, fun r hr2 => ?_⟩
      rw [← ls]
      exact hr r hr2
    | _ => exact absurd h1 (by simp [ltrD])
  · cases h
def ruleIs (d : PyData) (z : Str) : Bool := rulD d && (match d with | .tuple (.str z' :: _) => decide (z' = z) | _ => false)
/-- what becomes of three arguments: an error's class, or a contest -/
def ConR (CM CX CR : Addr) (d1 d2 d3 : PyData) (er : Addr → Prop) (ok : Ct → Prop) : Prop :=
  (mchD d1 = false ∧ plnD d1 = false ∧ er CM) ∨ ∃ M, Frame d1 M ∧ ((mchD d2 = false ∧ plnD d2 = false ∧ er CM) ∨ ∃ N, Frame d2 N ∧
    ((¬ (M.b = N.b ∧ M.z = N.z) ∧ er CX) ∨ (M.b = N.b ∧ M.z = N.z ∧ ((ruleIs d3 M.z = false ∧ er CR) ∨ ∃ R, d3 = .tuple [.str M.z, .tuple (rowsD R)] ∧ rulD d3 = true ∧ Cok ⟨M, N, R⟩ ∧ ok ⟨M, N, R⟩))))
theorem ConR.mono {CM CX CR : Addr} {d1 d2 d3 : PyData} {er er' : Addr → Prop} {ok ok' : Ct → Prop} (h : ConR CM CX CR d1 d2 d3 er ok) (e : ∀ c, er c → er' c) (o : ∀ C, Cok C → ok C → ok' C) : ConR CM CX CR d1 d2 d3 er' ok' := by
  rcases h with ⟨a, b, c⟩ | ⟨M, hM, h⟩
  · exact .inl ⟨a, b, e _ c⟩
  · refine .inr ⟨M, hM, ?_⟩
    rcases h with ⟨a, b, c⟩ | ⟨N, hN, h⟩
    · exact .inl ⟨a, b, e _ c⟩
    · refine .inr ⟨N, hN, ?_⟩
      rcases h with ⟨a, c⟩ | ⟨a, b, h⟩
      · exact .inl ⟨a, e _ c⟩
      · refine .inr ⟨a, b, ?_⟩
        rcases h with ⟨a, c⟩ | ⟨R, r1, r2, r3, r4⟩
        · exact .inl ⟨a, e _ c⟩
        · exact .inr ⟨R, r1, r2, r3, o _ r3 r4⟩
def spNeedMatch (K : PySem.W.Frag) (CX : Addr) : Sp := fun vs H Q E => ∃ (x y : V) (M N : Mc), vs = [x, y] ∧ Rp K H x (eM M) ∧ Rp K H y (eM N) ∧ Mok M ∧ Mok N ∧ ((¬ (M.b = N.b ∧ M.z = N.z) ∧ ∀ H', Same H H' → E (.ref CX) none H') ∨ (M.b = N.b ∧ M.z = N.z ∧ ∀ H', Same H H' → Q .non H'))
def spNeedRule (K : PySem.W.Frag) (CR : Addr) : Sp := fun vs H Q E => ∃ (x : V) (d : PyData) (z : Str), vs = [x, .str z] ∧ Rp K H x d ∧ ((ruleIs d z = false ∧ ∀ H', Same H H' → E (.ref CR) none H') ∨ (ruleIs d z = true ∧ ∀ H', Same H H' → Q .non H'))
def spNeedContest (K : PySem.W.Frag) (CM CX CR : Addr) : Sp := fun vs H Q E => ∃ (x y r : V) (d1 d2 d3 : PyData), vs = [x, y, r] ∧ Rp K H x d1 ∧ Rp K H y d2 ∧ Rp K H r d3 ∧
  ConR CM CX CR d1 d2 d3 (fun C => ∀ H', Same H H' → E (.ref C) none H') fun C => ∀ H' t u w, Same H H' → H' t = some (.tup [u, w]) → H t = none → Rp K H' u (eM C.M) → Rp K H' w (eM C.N) → Q (.ref t) H'
def spContestOf (K : PySem.W.Frag) (CM CX CR : Addr) : Sp := fun vs H Q E => ∃ (x y r : V) (d1 d2 d3 : PyData), vs = [x, y, r] ∧ Rp K H x d1 ∧ Rp K H y d2 ∧ Rp K H r d3 ∧
  ConR CM CX CR d1 d2 d3 (fun C => ∀ H', Same H H' → E (.ref C) none H') fun C => ∀ H' t, Same H H' → H t = none → Rp K H' (.ref t) (eCt C) → Q (.ref t) H'
def spNeedLimit (K : PySem.W.Frag) (CI : Addr) : Sp := fun vs H Q E => ∃ x d, vs = [x, .int 2000] ∧ Rp K H x d ∧ ((betD 1 2000 d = true ∧ Q .non H) ∨ (betD 1 2000 d = false ∧ E (.ref CI) none H))
section
variable {P : Program} {w : World} {K : PySem.W.Frag} {mg : Str → Option Value} {base : Heap} {m1 m2 m3 m4 m5 m6 m7 m8 m9 m10 m11 m12 : Addr} {n1 n2 n3 n4 n5 n6 n7 n8 n9 n10 n11 n12 : FuncData} {t1 t2 t3 t4 t5 : Tok} {CM a1 a3 : Addr} {b1 b3 : FuncData} {r1 r2 r3 r4 r5 p1 : Addr} {v1 v2 v3 v4 v5 q1 : FuncData} {CX CR CI : Addr}
theorem ok_needLimit (T : CoTxt K mg m1 m2 m3 m4 m5 m6 m7 m8 m9 m10 m11 m12 n1 n2 n3 n4 n5 n6 n7 n8 n9 n10 n11 n12 t1 t2 t3 t4 t5 CM a1 a3 b1 b3 r1 r2 r3 r4 r5 p1 v1 v2 v3 v4 v5 q1 CX CR CI) {k : Nat} : FnOk P w K mg base (L2.CX P w) (k + 3) r5 v5 ["thing", "most"] (spNeedLimit K CI) := by
  have GB : FnOk P w K mg base CX0 (k + 2) m2 n2 ["thing", "low", "high"] (spBetween K) := ok_between T.frm.mach.look
  refine T.FNeedLimit.okX scNeedLimit (fun vs H Q E h => ?_) (fun cdv A outer s H vs Q E hr h => ?_)
  · obtain ⟨x, d, rfl, _⟩ := h
    rfl
  · obtain ⟨x, d, rfl, hd, h⟩ := h
    refine ⟨_, (pss_one (ps_if (pt_not (pt_val (pe_call GB hr (by rfl) T.frm.mach.look.gBetween T.frm.mach.look.FBetween.kp T.frm.mach.look.bBetween .nil pass0 (pa_cons (pv 0) (pa_cons pe_int (pa_cons (pv 1) pa_nil)))))) (pss_one (ps_raise rfl (takes_of rfl rfl rfl rfl) (SkE.pmk_own1 PySem.F.excBase_ValueError T.noLimit.q T.noLimit.g T.noLimit.k (raises_own T.noLimit.b T.noLimit.t) (by exact rfl) (pe_joined (.cons pe_str (.cons (pe_fmt (pv 1)) .nil)))))) pss_nil)), ?_⟩
    refine ⟨_, rfl, _, rfl, x, d, 1, 2000, rfl, hd, _, rfl, ?_⟩
    rcases h with ⟨hb, q⟩ | ⟨hb, q⟩
    · rw [hb]
      exact iteF q
    · rw [hb]
      refine iteT ⟨_, rfl, (by show (Str.empty ++ Str.ofString "limit is not an integer from 1 to ").length ≤ sizeLine; decide +kernel), _, rfl, .inr ⟨2000, rfl, by decide +kernel, _, rfl, (by decide +kernel), q⟩⟩
theorem ok_needMatch (T : CoTxt K mg m1 m2 m3 m4 m5 m6 m7 m8 m9 m10 m11 m12 n1 n2 n3 n4 n5 n6 n7 n8 n9 n10 n11 n12 t1 t2 t3 t4 t5 CM a1 a3 b1 b3 r1 r2 r3 r4 r5 p1 v1 v2 v3 v4 v5 q1 CX CR CI) {k : Nat} : FnOk P w K mg base (L2.CX P w) (k + 1) r1 v1 ["one", "other"] (spNeedMatch K CX) := by
  refine T.FNeedMatch.okX scNeedMatch (fun vs H Q E h => ?_) (fun cdv A outer s H vs Q E hr h => ?_)
  · obtain ⟨x, y, M, N, rfl, _⟩ := h
    rfl
  · obtain ⟨x, y, M, N, rfl, hx, hy, hM, hN, h⟩ := h
    have hu : (A.deeper (envOfC "need_match" (defScope sNeedMatch) s.heap.objs.size r1 cdv)).units + 64 < cLine := by have := hr.un; omega
    refine ⟨_, (pss_one (ps_if (pt_cmpR (op_neD hu) (pe_slice sl_tupA (pv 0) po_none (po_some pe_int)) (pe_slice sl_tupA (pv 1) po_none (po_some pe_int)) (nomark _)) (pss_one (ps_raise rfl (takes_of rfl rfl rfl rfl) (SkE.pmk_own1 PySem.F.excBase_ValueError T.noMatch.q T.noMatch.g T.noMatch.k (raises_own T.noMatch.b T.noMatch.t) (by exact rfl) pe_str))) pss_nil)), ?_⟩
    obtain ⟨a, w3, rfl, hS, hC⟩ := hx.three
    obtain ⟨b, w4, rfl, hS2, hC2⟩ := hy.three
    have z1 : M.z.length ≤ sizeLine := Nat.le_trans (ltr_pos hM.ltr).2 (by decide)
    have z2 : N.z.length ≤ sizeLine := Nat.le_trans (ltr_pos hN.ltr).2 (by decide)
    refine ⟨_, rfl, 2, rfl, sl_any (K := K) hS fun t1 H1 s1 ht1 => ⟨_, rfl, 2, rfl, sl_any (K := K) (same_tup s1 hS2) fun t2 H2 s2 ht2 => ?_⟩⟩
    refine ⟨.tuple [.int M.b, .str M.z], .tuple [.int N.b, .str N.z], .tup (same_tup s2 ht1) (.cons (.int _) (.cons (.str _) .nil)), .tup ht2 (.cons (.int _) (.cons (.str _) .nil)), by simp [SeqAt.shaped, PyData.canLay0, PyData.canLayAll0, PyData.depth, PyData.depthAll]; exact strOk_of hM.ltr, by simp [SeqAt.shaped, PyData.canLay0, PyData.canLayAll0, PyData.depth, PyData.depthAll]; exact strOk_of hN.ltr, _, rfl, ?_⟩
    have s12 := s1.trans s2
    have e : PyData.eqv (.tuple [.int M.b, .str M.z]) (.tuple [.int N.b, .str N.z]) = (decide (M.b = N.b) && decide (M.z = N.z)) := by
      rw [Bool.eq_iff_iff]
      simp [PyData.eqv, PyData.eqvAll]
    rw [e]
    rcases h with ⟨z, q⟩ | ⟨z3, z4, q⟩
    · have : (decide (M.b = N.b) && decide (M.z = N.z)) = false := by
        rw [← Bool.decide_and]
        exact decide_eq_false z
      rw [this]
      exact iteT (q H2 s12)
    · rw [decide_eq_true z3, decide_eq_true z4]
      exact iteF (q H2 s12)
theorem ok_needRule (T : CoTxt K mg m1 m2 m3 m4 m5 m6 m7 m8 m9 m10 m11 m12 n1 n2 n3 n4 n5 n6 n7 n8 n9 n10 n11 n12 t1 t2 t3 t4 t5 CM a1 a3 b1 b3 r1 r2 r3 r4 r5 p1 v1 v2 v3 v4 v5 q1 CX CR CI) {mR mW : Addr} {nR nW : FuncData} (T2 : LookTxt K mg m1 m2 m3 m4 mW m7 mR n1 n2 n3 n4 nW n7 nR t1 t2) {k : Nat} : FnOk P w K mg base (L2.CX P w) (k + 5) r2 v2 ["thing", "letters"] (spNeedRule K CR) := by
  have GR : FnOk P w K mg base CX0 (k + 4) mR nR ["thing"] (spRule K) := ok_rule T2
  refine T.FNeedRule.okX scNeedRule (fun vs H Q E h => ?_) (fun cdv A outer s H vs Q E hr h => ?_)
  · obtain ⟨x, d, z, rfl, _⟩ := h
    rfl
  · obtain ⟨x, d, z, rfl, hx, h⟩ := h
    refine ⟨_, (pss_one (ps_if (PW.pt (pw_or (pt_not (pt_val (pe_call GR hr (by rfl) T2.gRule T2.FRule.kp T2.bRule .nil pass0 (pa_cons (pv 0) pa_nil)))) (pw_or1 (pt_cmpR op_ne (pe_ix ix_tup (pv 0) pe_int (fun _ _ => rfl)) (pv 1) (nomark _))))) (pss_one (ps_raise rfl (takes_of rfl rfl rfl rfl) (SkE.pmk_own1 PySem.F.excBase_ValueError T.noRule.q T.noRule.g T.noRule.k (raises_own T.noRule.b T.noRule.t) (by exact rfl) pe_str))) pss_nil)), ?_⟩
    refine ⟨_, rfl, x, d, rfl, hx, fun H1 s1 => ⟨_, rfl, ?_⟩⟩
    cases hr2 : rulD d with
    | false =>
      refine iteT (iteT ?_)
      rcases h with ⟨_, q⟩ | ⟨z, _⟩
      · exact q H1 s1
      · unfold ruleIs at z
        rw [hr2] at z
        cases z
    | true =>
      refine iteF ?_
      obtain ⟨z', rows, rfl, hl, _⟩ := rul_form hr2
      obtain ⟨a, ys, rfl, hS, hA⟩ := Rp.isTup hx
      obtain ⟨u, v, p, t, rfl, e, h1, h2⟩ := hA.two rfl
      cases e
      obtain ⟨_, rfl, e2, _⟩ := h1.isStr rfl
      cases e2
      have ri : ruleIs (.tuple [.str z', .tuple (rowsD rows)]) z = decide (z' = z) := by
        unfold ruleIs
        rw [hr2]
        rfl
      rw [ri] at h
      refine ⟨_, rfl, a, _, 0, _, rfl, rfl, same_tup s1 hS, rfl, _, rfl, rfl, _, rfl, ?_⟩
      rcases h with ⟨zz, q⟩ | ⟨zz, q⟩
      · have := of_decide_eq_false zz
        rw [decide_eq_false (fun e => this (V.str.inj e))]
        exact iteT (q H1 s1)
      · have := of_decide_eq_true zz
        rw [decide_eq_true (congrArg V.str this)]
        exact iteF (q H1 s1)
theorem ok_needContest (T : CoTxt K mg m1 m2 m3 m4 m5 m6 m7 m8 m9 m10 m11 m12 n1 n2 n3 n4 n5 n6 n7 n8 n9 n10 n11 n12 t1 t2 t3 t4 t5 CM a1 a3 b1 b3 r1 r2 r3 r4 r5 p1 v1 v2 v3 v4 v5 q1 CX CR CI) {mR mW : Addr} {nR nW : FuncData} (T2 : LookTxt K mg m1 m2 m3 m4 mW m7 mR n1 n2 n3 n4 nW n7 nR t1 t2) {k : Nat} : FnOk P w K mg base (L2.CX P w) (k + 7) r3 v3 ["one", "other", "rule"] (spNeedContest K CM CX CR) := by
  have GM : FnOk P w K mg base (L2.CX P w) (k + 6) a1 b1 ["thing", "name"] (spNeedMachine K CM) := ok_needMachine T.frm
  have GX : FnOk P w K mg base (L2.CX P w) (k + 6) r1 v1 ["one", "other"] (spNeedMatch K CX) := ok_needMatch T (k := k + 5)
  have GR : FnOk P w K mg base (L2.CX P w) (k + 6) r2 v2 ["thing", "letters"] (spNeedRule K CR) := ok_needRule T T2 (k := k + 1)
  refine T.FNeedContest.okX scNeedContest (fun vs H Q E h => ?_) (fun cdv A outer s H vs Q E hr h => ?_)
  · obtain ⟨x, y, r, d1, d2, d3, rfl, _⟩ := h
    rfl
  · obtain ⟨x, y, r, d1, d2, d3, rfl, hx, hy, hr3, h⟩ := h
    refine ⟨_, (Evl.pss_cut (ps_set (i := 3) scNeedContest.nd rfl (.inl rfl) (pe_call GM hr (by rfl) T.frm.gNeedMachine T.frm.FNeedMachine.kp T.frm.bNeedMachine .nil (passes_call (takes_of rfl rfl rfl rfl) (fun _ _ _ _ h => h)) (pa_cons (pv 0) (pa_cons pe_str pa_nil))))
 (Evl.pss_cut (ps_set (i := 4) scNeedContest.nd rfl (.inl rfl) (pe_call GM hr (by rfl) T.frm.gNeedMachine T.frm.FNeedMachine.kp T.frm.bNeedMachine .nil (passes_call (takes_of rfl rfl rfl rfl) (fun _ _ _ _ h => h)) (pa_cons (pv 1) (pa_cons pe_str pa_nil))))
 (Evl.pss_cut (ps_expr (pe_call GX hr (by rfl) T.gNeedMatch T.FNeedMatch.kp T.bNeedMatch .nil (passes_call (takes_of rfl rfl rfl rfl) (fun _ _ _ _ h => h)) (pa_cons (pv 3) (pa_cons (pv 4) pa_nil))))
 (Evl.pss_cut (ps_expr (pe_call GR hr (by rfl) T.gNeedRule T.FNeedRule.kp T.bNeedRule .nil (passes_call (takes_of rfl rfl rfl rfl) (fun _ _ _ _ h => h)) (pa_cons (pv 2) (pa_cons (pe_ix ix_tup (pv 3) pe_int (fun _ _ => rfl)) pa_nil))))
 (pss_one (ps_ret (pe_tup (pa_cons (pv 3) (pa_cons (pv 4) pa_nil))))))))), ?_⟩
    have nm1 : ("one" : Str).length ≤ 100 := by decide +kernel
    have nm2 : ("other" : Str).length ≤ 100 := by decide +kernel
    rcases h with ⟨z1, z2, q⟩ | ⟨M, hF, h⟩
    · refine ⟨fun _ _ => False, ?_, fun _ _ z => z.elim⟩
      exact ⟨_, rfl, x, d1, _, rfl, hx, nm1, .inr (.inr ⟨z1, z2, fun H' s' => q H' s'⟩)⟩
    have hM := hF.1
    refine ⟨fun σ H1 => ∃ v, σ = [some x, some y, some r, some v, none] ∧ Same H H1 ∧ Rp K H1 v (eM M), ?_, ?_⟩
    · exact ⟨_, rfl, frame_need hF hx nm1 fun H1 v s1 r1 => ⟨v, rfl, s1, r1⟩⟩
    rintro σ H1 ⟨v, rfl, s1, r1⟩
    rcases h with ⟨z1, z2, q⟩ | ⟨N, hF2, h⟩
    · refine ⟨fun _ _ => False, ?_, fun _ _ z => z.elim⟩
      exact ⟨_, rfl, y, d2, _, rfl, hy.go s1, nm2, .inr (.inr ⟨z1, z2, fun H' s' => q H' (s1.trans s')⟩)⟩
    have hN := hF2.1
    refine ⟨fun σ H2 => ∃ u, σ = [some x, some y, some r, some v, some u] ∧ Same H1 H2 ∧ Rp K H2 u (eM N), ?_, ?_⟩
    · exact ⟨_, rfl, frame_need hF2 (hy.go s1) nm2 fun H2 u s2 r2 => ⟨u, rfl, s2, r2⟩⟩
    rintro σ H2 ⟨u, rfl, s2, r2⟩
    have s12 := s1.trans s2
    rcases h with ⟨z1, q⟩ | ⟨z1, z2, h⟩
    · refine ⟨fun _ _ => False, ?_, fun _ _ z => z.elim⟩
      exact ⟨_, rfl, _, rfl, v, u, M, N, rfl, r1.go s2, r2, hM, hN, .inl ⟨z1, fun H' s' => q H' (s12.trans s')⟩⟩
    refine ⟨fun σ H3 => σ = [some x, some y, some r, some v, some u] ∧ Same H2 H3, ?_, ?_⟩
    · exact ⟨_, rfl, _, rfl, v, u, M, N, rfl, r1.go s2, r2, hM, hN, .inr ⟨z1, z2, fun H' s' => ⟨rfl, s'⟩⟩⟩
    rintro σ H3 ⟨rfl, s3⟩
    have s13 := s12.trans s3
    obtain ⟨a, w3, rfl, hS, hC⟩ := r1.three
    rcases h with ⟨zr, q⟩ | ⟨R, rfl, hrl, hok, q⟩
    · refine ⟨fun _ _ => False, ?_, fun _ _ z => z.elim⟩
      exact ⟨_, rfl, _, rfl, a, _, 1, _, rfl, rfl, same_tup (s2.trans s3) hS, rfl, r, d3, M.z, rfl, hr3.go s13, .inl ⟨zr, fun H' s' => q H' (s13.trans s')⟩⟩
    refine ⟨fun σ H4 => σ = [some x, some y, some r, some (.ref a), some u] ∧ Same H3 H4, ?_, ?_⟩
    · refine ⟨_, rfl, _, rfl, a, _, 1, _, rfl, rfl, same_tup (s2.trans s3) hS, rfl, r, _, M.z, rfl, hr3.go s13, .inr ⟨?_, fun H' s' => ⟨rfl, s'⟩⟩⟩
      unfold ruleIs
      rw [hrl]
      show decide (M.z = M.z) = true
      exact decide_eq_true rfl
    rintro σ H4 ⟨rfl, s4⟩
    refine ⟨_, rfl, _, rfl, (by show 2 ≤ sizeLine; decide), fun t nt => ?_⟩
    have xt := same_upd (o := HO.tup [V.ref a, u]) nt
    exact q _ t (.ref a) u ((s13.trans s4).trans xt) upd_same ((s13.trans s4).free nt) (r1.go (((s2.trans s3).trans s4).trans xt)) (r2.go ((s3.trans s4).trans xt))
theorem ok_contestOf (T : CoTxt K mg m1 m2 m3 m4 m5 m6 m7 m8 m9 m10 m11 m12 n1 n2 n3 n4 n5 n6 n7 n8 n9 n10 n11 n12 t1 t2 t3 t4 t5 CM a1 a3 b1 b3 r1 r2 r3 r4 r5 p1 v1 v2 v3 v4 v5 q1 CX CR CI) {mR mW : Addr} {nR nW : FuncData} (T2 : LookTxt K mg m1 m2 m3 m4 mW m7 mR n1 n2 n3 n4 nW n7 nR t1 t2) {k : Nat} : FnOk P w K mg base (L2.CX P w) (k + 8) r4 v4 ["one", "other", "rule"] (spContestOf K CM CX CR) := by
  have GN : FnOk P w K mg base (L2.CX P w) (k + 7) r3 v3 ["one", "other", "rule"] (spNeedContest K CM CX CR) := ok_needContest T T2
  have GP : FnOk P w K mg base CX0 (k + 7) p1 q1 ["machine"] (spPaysOf K) := ok_paysOf T.pays
  refine T.FContestOf.okX scContestOf (fun vs H Q E h => ?_) (fun cdv A outer s H vs Q E hr h => ?_)
  · obtain ⟨x, y, r, d1, d2, d3, rfl, _⟩ := h
    rfl
  · obtain ⟨x, y, r, d1, d2, d3, rfl, hx, hy, hr3, h⟩ := h
    refine ⟨_, (Evl.pss_cut (ps_asg (pe_call GN hr (by rfl) T.gNeedContest T.FNeedContest.kp T.bNeedContest .nil (passes_call (takes_of rfl rfl rfl rfl) (fun _ _ _ _ h => h)) (pa_cons (pv 0) (pa_cons (pv 1) (pa_cons (pv 2) pa_nil)))) (pg_tup rfl (pgs_cons (pg_name (i := 3) scContestOf.nd rfl (.inl rfl)) (pgs_cons (pg_name (i := 4) scContestOf.nd rfl (.inl rfl)) pgs_nil))))
 (Evl.pss_cut (ps_par (i := 5) (j := 6) (by rfl) scContestOf.nd rfl rfl (by decide) rfl rfl (pa_cons (pe_call GP hr (by rfl) T.pays.gPaysOf T.pays.FPaysOf.kp T.pays.bPaysOf .nil pass0 (pa_cons (pv 3) pa_nil)) (pa_cons (pe_call GP hr (by rfl) T.pays.gPaysOf T.pays.FPaysOf.kp T.pays.bPaysOf .nil pass0 (pa_cons (pv 4) pa_nil)) pa_nil)) (by rfl))
 (Evl.pss_cut (ps_set (i := 7) scContestOf.nd rfl (.inl rfl) (pe_callB (call_max2 rfl) (by rfl) T.pays.max (by decide +kernel) (pa_cons pe_int (pa_cons (pe_op op_sub (pe_callB (cr_max rfl) (by rfl) T.pays.max (by decide +kernel) (pa_cons (pv 6) pa_nil)) (pe_callB (cr_min rfl) (by rfl) T.pays.min (by decide +kernel) (pa_cons (pv 5) pa_nil))) pa_nil))))
 (Evl.pss_cut (ps_set (i := 8) scContestOf.nd rfl (.inl rfl) (pe_callB (call_max2 rfl) (by rfl) T.pays.max (by decide +kernel) (pa_cons pe_int (pa_cons (pe_op op_sub (pe_callB (cr_max rfl) (by rfl) T.pays.max (by decide +kernel) (pa_cons (pv 5) pa_nil)) (pe_callB (cr_min rfl) (by rfl) T.pays.min (by decide +kernel) (pa_cons (pv 6) pa_nil))) pa_nil))))
 (pss_one (ps_ret (pe_tup (pa_cons (pe_ix ix_tup (pv 3) pe_int (fun _ _ => rfl)) (pa_cons (pe_ix ix_tup (pv 3) pe_int (fun _ _ => rfl)) (pa_cons (pe_ix ix_tup (pv 2) pe_int (fun _ _ => rfl)) (pa_cons (pe_ix ix_tup (pv 3) pe_int (fun _ _ => rfl)) (pa_cons (pe_ix ix_tup (pv 4) pe_int (fun _ _ => rfl)) (pa_cons (pv 7) (pa_cons (pv 8) pa_nil)))))))))))))), ?_⟩
    rcases (show (∃ c : Addr, ∀ H', Same H H' → E (.ref c) none H') ∧ ConR CM CX CR d1 d2 d3 (fun C => ∀ H', Same H H' → E (.ref C) none H') (fun _ => False) ∨ ∃ C, Cok C ∧ (∀ (er : Addr → Prop) (ok : Ct → Prop), ok C → ConR CM CX CR d1 d2 d3 er ok) ∧ (∃ z, d3 = .tuple [.str z, .tuple (rowsD C.R)]) ∧ ∀ (H' : Hp) (t : Addr), Same H H' → H t = none → Rp K H' (.ref t) (eCt C) → Q (.ref t) H' from by
      rcases h with ⟨a, b, c⟩ | ⟨M, hM, h⟩
      · exact .inl ⟨⟨_, c⟩, .inl ⟨a, b, c⟩⟩
      · rcases h with ⟨a, b, c⟩ | ⟨N, hN, h⟩
        · exact .inl ⟨⟨_, c⟩, .inr ⟨M, hM, .inl ⟨a, b, c⟩⟩⟩
        · rcases h with ⟨a, c⟩ | ⟨a, b, h⟩
          · exact .inl ⟨⟨_, c⟩, .inr ⟨M, hM, .inr ⟨N, hN, .inl ⟨a, c⟩⟩⟩⟩
          · rcases h with ⟨e, c⟩ | ⟨R, r1, r2, r3, r4⟩
            · exact .inl ⟨⟨_, c⟩, .inr ⟨M, hM, .inr ⟨N, hN, .inr ⟨a, b, .inl ⟨e, c⟩⟩⟩⟩⟩
            · exact .inr ⟨_, r3, fun er ok o => .inr ⟨M, hM, .inr ⟨N, hN, .inr ⟨a, b, .inr ⟨R, r1, r2, r3, o⟩⟩⟩⟩, ⟨_, r1⟩, r4⟩) with ⟨_, hbad⟩ | ⟨C, hC, mk, ⟨z, rfl⟩, q⟩
    · refine ⟨fun _ _ => False, ?_, fun _ _ z => z.elim⟩
      exact ⟨_, rfl, _, rfl, _, rfl, x, y, r, d1, d2, d3, rfl, hx, hy, hr3, hbad.mono (fun _ e => e) (fun _ _ z => z.elim)⟩
    refine ⟨fun σ H1 => ∃ u w, σ = [some x, some y, some r, some u, some w, none, none, none, none] ∧ Same H H1 ∧ Rp K H1 u (eM C.M) ∧ Rp K H1 w (eM C.N), ?_, ?_⟩
    · exact ⟨_, rfl, _, rfl, _, rfl, x, y, r, d1, d2, _, rfl, hx, hy, hr3, mk _ _ fun H1 t u w s1 ht nt hu hw => ⟨t, _, rfl, SqT.of ht, rfl, _, _, rfl, _, _, rfl, rfl, u, w, rfl, s1, hu, hw⟩⟩
    rintro σ H1 ⟨u, w, rfl, s1, hu, hw⟩
    refine ⟨fun σ H2 => ∃ l1 l2, σ = [some x, some y, some r, some u, some w, some (.ref l1), some (.ref l2), none, none] ∧ Same H1 H2 ∧ H2 l1 = some (.lst ((paysL C.M).map V.int)) ∧ H2 l2 = some (.lst ((paysL C.N).map V.int)), ?_, ?_⟩
    · exact ⟨_, rfl, u, C.M, rfl, hu, hC.m, fun H2 l1 s2 n1 h1 => ⟨_, rfl, w, C.N, rfl, hw.go s2, hC.n, fun H3 l2 s3 n2 h2 => ⟨_, _, rfl, l1, l2, rfl, s2.trans s3, s3 _ _ h1, h2⟩⟩⟩
    rintro σ H2 ⟨l1, l2, rfl, s2, h1, h2⟩
    have pos1 : 0 < (paysL C.M).length := List.length_pos_iff.mpr (pays_ne hC.m)
    have pos2 : 0 < (paysL C.N).length := List.length_pos_iff.mpr (pays_ne hC.n)
    have mx : ∀ i : Int, (if i > 0 then i else 0) = max 0 i := fun i => by split <;> omega
    refine ⟨fun σ H3 => σ = [some x, some y, some r, some u, some w, some (.ref l1), some (.ref l2), some (.int C.over), none] ∧ H3 = H2, ?_, ?_⟩
    · refine ⟨_, rfl, l2, _, rfl, SqL.of h2, pos2, fun m hm ge => ⟨_, rfl, l1, _, rfl, SqL.of h1, pos1, fun n hn le => ⟨_, _, rfl, rfl, _, _, rfl, ?_⟩⟩⟩
      rw [mx, maxL_eq hm ge, minL_eq hn le]
      exact ⟨rfl, rfl⟩
    rintro σ H3 ⟨rfl, rfl⟩
    refine ⟨fun σ H4 => σ = [some x, some y, some r, some u, some w, some (.ref l1), some (.ref l2), some (.int C.over), some (.int C.below)] ∧ H4 = H3, ?_, ?_⟩
    · refine ⟨_, rfl, l1, _, rfl, SqL.of h1, pos1, fun m hm ge => ⟨_, rfl, l2, _, rfl, SqL.of h2, pos2, fun n hn le => ⟨_, _, rfl, rfl, _, _, rfl, ?_⟩⟩⟩
      rw [mx, maxL_eq hm ge, minL_eq hn le]
      exact ⟨rfl, rfl⟩
    rintro σ H4 ⟨rfl, rfl⟩
    have hu4 := hu.go s2
    have hw4 := hw.go s2
    have hr4 := hr3.go (s1.trans s2)
    obtain ⟨ua, u3, rfl, hS1, hA1⟩ := hu4.three
    obtain ⟨wa, w3, rfl, hS2, hA2⟩ := hw4.three
    obtain ⟨ra, ys, rfl, hS3, hA3⟩ := Rp.isTup hr4
    obtain ⟨e0, e1, p0, p1, rfl, ee, g1, g2⟩ := hA3.two rfl
    cases ee
    have zs : C.M.z.length ≤ sizeLine := Nat.le_trans (ltr_pos hC.m.ltr).2 (by decide)
    refine ⟨_, rfl, ua, _, 0, _, rfl, rfl, hS1, rfl, _, rfl, ua, _, 1, _, rfl, rfl, hS1, rfl, _, rfl, ra, _, 1, _, rfl, rfl, hS3, rfl, _, rfl, ua, _, 2, _, rfl, rfl, hS1, rfl, _, rfl, wa, _, 2, _, rfl, rfl, hS2, rfl, _, rfl, _, rfl, (by show 7 ≤ sizeLine; decide), fun t nt => ?_⟩
    have xt := same_upd (o := HO.tup [V.int C.M.b, V.str C.M.z, e1, u3, w3, V.int C.over, V.int C.below]) nt
    exact q _ t ((s1.trans s2).trans xt) ((s1.trans s2).free nt) (.tup (SqT.of upd_same) (.cons (.int _) (.cons (.str _ zs) (.cons (g2.go xt) (.cons (hA1.go xt) (.cons (hA2.go xt) (.cons (.int _) (.cons (.int _) .nil))))))))
end
end My
/-! ### parted, levels_of -/
namespace My
open PySem PySem.Spec PyProof.Rows L2 PySem.Builtin.Str
abbrev sParted : Stmt := topS 45
abbrev sLevelsOf : Stmt := topS 46
theorem scParted : FnScope ["one", "other", "rule", "limit", "contest", "last", "won", "standing"] ["one", "other", "rule", "limit"] (defScope sParted) := ⟨rfl, rfl, rfl, by decide +kernel, rfl, by decide +kernel, by decide +kernel⟩
theorem scLevelsOf : FnScope ["one", "other", "rule", "limit", "contest", "level"] ["one", "other", "rule", "limit"] (defScope sLevelsOf) := ⟨rfl, rfl, rfl, by decide +kernel, rfl, by decide +kernel, by decide +kernel⟩
structure PaTxt (K : PySem.W.Frag) (mg : Str → Option Value) (m1 m2 m3 m4 m5 m6 m7 m8 m9 m10 m11 m12 : Addr) (n1 n2 n3 n4 n5 n6 n7 n8 n9 n10 n11 n12 : FuncData) (t1 t2 t3 t4 t5 t6 : Tok) (CM a1 a3 : Addr) (b1 b3 : FuncData) (r1 r2 r3 r4 r5 p1 : Addr) (v1 v2 v3 v4 v5 q1 : FuncData) (CX CR CI : Addr) (mR mW : Addr) (nR nW : FuncData) (g1 g2 g3 g4 g5 : Addr) (e1 e2 e3 e4 e5 : FuncData) (CG fF : Addr) (p7 p8 : Addr) (q7 q8 : FuncData) : Prop where
  co : CoTxt K mg m1 m2 m3 m4 m5 m6 m7 m8 m9 m10 m11 m12 n1 n2 n3 n4 n5 n6 n7 n8 n9 n10 n11 n12 t1 t2 t3 t4 t5 CM a1 a3 b1 b3 r1 r2 r3 r4 r5 p1 v1 v2 v3 v4 v5 q1 CX CR CI
  look : LookTxt K mg m1 m2 m3 m4 mW m7 mR n1 n2 n3 n4 nW n7 nR t1 t2
  lu : LuTxt K mg g1 g2 g3 g4 g5 e1 e2 e3 e4 e5 CG fF
  mMost : mg "MOST_STANDINGS" = some (.int 2000 t6)
  FParted : FunD K "parted" "parted" (defArgs sParted) (defBody sParted) (defScope sParted) [] [("limit", .int 2000)] p7 q7
  gParted : mg "parted" = some (.ref p7)
  FLevelsOf : FunD K "levels_of" "levels_of" (defArgs sLevelsOf) (defBody sLevelsOf) (defScope sLevelsOf) [] [("limit", .int 2000)] p8 q8
  gLevelsOf : mg "levels_of" = some (.ref p8)
/-- what is told: None, or the first won word -/
def WonV (C : Ct) (n : Nat) (v : V) : Prop := (wonN C n = false ∧ v = .non) ∨ ∃ w, v = .str w ∧ (∃ t, (t, w) ∈ lvl C n ∧ wonG t = true) ∧ ∀ t w', (t, w') ∈ lvl C n → wonG t = true → wlt w' w = false
/-- a list of lists of standings -/
def LsL (K : PySem.W.Frag) (H : Hp) (a : Addr) (rs : List Addr) (tss : List (List Sg)) : Prop := H a = some (.lst (rs.map V.ref)) ∧ Paired (fun (r : Addr) (ts : List Sg) => ∃ us, H r = some (.lst us) ∧ RpAll K H us (ts.map eSg)) rs tss
theorem LsL.same {K : PySem.W.Frag} {H H' : Hp} {a : Addr} {rs : List Addr} {tss : List (List Sg)} (h : LsL K H a rs tss) (s : Same H H') : LsL K H' a rs tss := ⟨s _ _ h.1, Paired.mapP h.2 fun _ ts ⟨us, e1, e2⟩ => ⟨us, s _ _ e1, rpAll_ts (ts_same s) e2 (tOs_map enc_sg.tO ts)⟩⟩
/-- the levels in order -/
def sLv (C : Ct) (n : Nat) : List Sg := sortE eSg (keysA (lvl C n))
def LimR (C : Ct) (e : PyData) (CI CG : Addr) (er : Addr → Prop) (ok : Nat → Prop) : Prop := (betD 1 2000 e = false ∧ er CI) ∨ ∃ L, e = .int L ∧ 1 ≤ L ∧ L ≤ 2000 ∧ (∀ n, Pre C n → L < (tot C n : Int) → er CG) ∧ ∀ n, EndsN C n → (tot C n : Int) ≤ L → ok n
def spParted (K : PySem.W.Frag) (CM CX CR CI CG : Addr) : Sp := fun vs H Q E => ∃ (x y r l : V) (d1 d2 d3 d4 : PyData), vs = [x, y, r, l] ∧ Rp K H x d1 ∧ Rp K H y d2 ∧ Rp K H r d3 ∧ Rp K H l d4 ∧
  ConR CM CX CR d1 d2 d3 (fun c => ∀ H', Same H H' → E (.ref c) none H') fun C => LimR C d4 CI CG (fun c => ∀ H', Same H H' → E (.ref c) none H') fun n => ∀ H' v, WonV C n v → Same H H' → Q v H'
def spLevelsOf (K : PySem.W.Frag) (CM CX CR CI CG : Addr) : Sp := fun vs H Q E => ∃ (x y r l : V) (d1 d2 d3 d4 : PyData), vs = [x, y, r, l] ∧ Rp K H x d1 ∧ Rp K H y d2 ∧ Rp K H r d3 ∧ Rp K H l d4 ∧
  ConR CM CX CR d1 d2 d3 (fun c => ∀ H', Same H H' → E (.ref c) none H') fun C => LimR C d4 CI CG (fun c => ∀ H', Same H H' → E (.ref c) none H') fun n => ∀ H' a rs, Same H H' → H a = none → (∀ r ∈ rs, H r = none) → a ∉ rs → LsL K H' a rs ((List.range (n + 1)).map (sLv C)) → Q (.ref a) H'
/-- either an error or a contest -/
theorem ConR.either {CM CX CR : Addr} {d1 d2 d3 : PyData} {er : Addr → Prop} {ok : Ct → Prop} (h : ConR CM CX CR d1 d2 d3 er ok) : ConR CM CX CR d1 d2 d3 er (fun _ => False) ∨ ∃ C, Cok C ∧ (∀ (er : Addr → Prop) (ok : Ct → Prop), ok C → ConR CM CX CR d1 d2 d3 er ok) ∧ ok C := by
  rcases h with ⟨a, b, c⟩ | ⟨M, hM, h⟩
  · exact .inl (.inl ⟨a, b, c⟩)
  · rcases h with ⟨a, b, c⟩ | ⟨N, hN, h⟩
    · exact .inl (.inr ⟨M, hM, .inl ⟨a, b, c⟩⟩)
    · rcases h with ⟨a, c⟩ | ⟨a, b, h⟩
      · exact .inl (.inr ⟨M, hM, .inr ⟨N, hN, .inl ⟨a, c⟩⟩⟩)
      · rcases h with ⟨e, c⟩ | ⟨R, r1, r2, r3, r4⟩
        · exact .inl (.inr ⟨M, hM, .inr ⟨N, hN, .inr ⟨a, b, .inl ⟨e, c⟩⟩⟩⟩)
        · exact .inr ⟨_, r3, fun er ok o => .inr ⟨M, hM, .inr ⟨N, hN, .inr ⟨a, b, .inr ⟨R, r1, r2, r3, o⟩⟩⟩⟩, r4⟩
theorem pe_egetK {X : Cx} {P : Program} {w : World} {K : PySem.W.Frag} {o i : Expr} {pos : Pos} {td ty : TE} (h1 : X.prog = P) (h2 : X.w = w) (h3 : X.K = K) (hu : X.A.units + 9 < cLine) (ho : PE X o td) (hi : PE X i ty) (hs : NoSl i) : PE X (.Subscript o i pos) (tEGet P w K td ty) := by
  subst h1 h2 h3
  exact pe_eget hu ho hi hs
theorem cr_sortNK {X : Cx} {P : Program} {w : World} {K : PySem.W.Frag} (h1 : X.prog = P) (h2 : X.w = w) (h3 : X.K = K) (hc : X.calm = true) (hu : X.A.units + 16 < cLine) : CallR X (.builtin "sorted") (rSortN P w K) := by
  subst h1 h2 h3
  exact cr_sortN hc hu
theorem atI_end {α : Type} {xs : List α} {n : Nat} (h : xs.length = n + 1) : ∃ v, xs[n]? = some v ∧ atI xs (-1) = some v := by
  obtain ⟨ys, v, rfl⟩ : ∃ ys v, xs = ys ++ [v] := by
    have ne : xs ≠ [] := by
      intro z
      rw [z] at h
      cases h
    exact ⟨xs.dropLast, xs.getLast ne, (List.dropLast_concat_getLast ne).symm⟩
  rw [List.length_append, List.length_singleton] at h
  refine ⟨v, ?_, L2.atI_last ys v⟩
  rw [show n = ys.length by omega]
  exact List.getElem?_concat_length
section
variable {P : Program} {w : World} {K : PySem.W.Frag} {mg : Str → Option Value} {base : Heap} {m1 m2 m3 m4 m5 m6 m7 m8 m9 m10 m11 m12 : Addr} {n1 n2 n3 n4 n5 n6 n7 n8 n9 n10 n11 n12 : FuncData} {t1 t2 t3 t4 t5 t6 : Tok} {CM a1 a3 : Addr} {b1 b3 : FuncData} {r1 r2 r3 r4 r5 p1 : Addr} {v1 v2 v3 v4 v5 q1 : FuncData} {CX CR CI mR mW : Addr} {nR nW : FuncData} {g1 g2 g3 g4 g5 : Addr} {e1 e2 e3 e4 e5 : FuncData} {CG fF p7 p8 : Addr} {q7 q8 : FuncData}
theorem ok_parted (T : PaTxt K mg m1 m2 m3 m4 m5 m6 m7 m8 m9 m10 m11 m12 n1 n2 n3 n4 n5 n6 n7 n8 n9 n10 n11 n12 t1 t2 t3 t4 t5 t6 CM a1 a3 b1 b3 r1 r2 r3 r4 r5 p1 v1 v2 v3 v4 v5 q1 CX CR CI mR mW nR nW g1 g2 g3 g4 g5 e1 e2 e3 e4 e5 CG fF p7 p8 q7 q8) {k : Nat} : FnOk P w K mg base (L2.CX P w) (k + 9) p7 q7 ["one", "other", "rule", "limit"] (spParted K CM CX CR CI CG) := by
  have GC : FnOk P w K mg base (L2.CX P w) (k + 8) r4 v4 ["one", "other", "rule"] (spContestOf K CM CX CR) := ok_contestOf T.co T.look
  have GL : FnOk P w K mg base (L2.CX P w) (k + 8) r5 v5 ["thing", "most"] (spNeedLimit K CI) := ok_needLimit T.co (k := k + 5)
  have GU : FnOk P w K mg base (L2.CX P w) (k + 8) g5 e5 ["contest", "limit"] (spLevelsUntil P w K CG) := ok_levelsUntil T.lu (k := k + 5)
  have GI : FnOk P w K mg base CX0 (k + 8) g2 e2 ["standing"] (spIsWon K) := ok_isWon T.lu.lv.su (k := k + 7)
  refine T.FParted.ok scParted (fun vs H Q E h => ?_) (fun cdv A outer s H vs Q E hr h => ?_)
  · obtain ⟨x, y, r, l, d1, d2, d3, d4, rfl, _⟩ := h
    rfl
  · obtain ⟨x, y, r, l, d1, d2, d3, d4, rfl, hx, hy, hr3, hl, h⟩ := h
    have hu9 : (A.deeper (envOfC "parted" (defScope sParted) s.heap.objs.size p7 cdv)).units + 9 < cLine := by have := hr.un; omega
    refine ⟨_, (Evl.pss_cut (ps_set (i := 4) scParted.nd rfl (.inl rfl) (pe_call GC hr (by rfl) T.co.gContestOf T.co.FContestOf.kp T.co.bContestOf .nil (passes_call (takes_of rfl rfl rfl rfl) (fun _ _ _ _ h => h)) (pa_cons (pv 0) (pa_cons (pv 1) (pa_cons (pv 2) pa_nil)))))
 (Evl.pss_cut (ps_expr (pe_call GL hr (by rfl) T.co.gNeedLimit T.co.FNeedLimit.kp T.co.bNeedLimit .nil (passes_call (takes_of rfl rfl rfl rfl) (fun _ _ _ _ h => h)) (pa_cons (pv 3) (pa_cons (pe_glob (v := .int 2000) (by rfl) T.mMost ⟨_, rfl⟩) pa_nil))))
 (Evl.pss_cut (ps_set (i := 5) scParted.nd rfl (.inr rfl) (pe_ix ix_list (pe_call GU hr (by rfl) T.lu.gLevelsUntil T.lu.FLevelsUntil.kp T.lu.bLevelsUntil .nil (passes_call (takes_of rfl rfl rfl rfl) (fun _ _ _ _ h => h)) (pa_cons (pv 4) (pa_cons (pv 3) pa_nil))) (pe_un un_neg pe_int) (fun _ _ => rfl)))
 (Evl.pss_cut (ps_lock (ps_setLc (i := 6) (own := [("standing", 7)]) (g := gName 7) (by rfl) scParted.nd rfl rfl (sw_true rfl rfl rfl (by decide +kernel)) (pi_nkeys (pv 5)) (blkOk_by (N := ["one", "other", "rule", "limit", "contest", "last", "won", "standing"]) (sc := defScope sParted) (by decide +kernel)) (fun _ _ _ _ _ => pg_name (i := 7) scParted.nd rfl (Or.inl rfl)) (fun _ _ _ _ _ => (pts_one (pt_val (pe_call GI hr (by rfl) T.lu.lv.su.gIsWon T.lu.lv.su.FIsWon.kp T.lu.lv.su.bIsWon .nil pass0 (pa_cons (pv 7) pa_nil))))) (fun _ _ _ _ _ => (pe_egetK (P := P) (w := w) (K := K) rfl rfl rfl hu9 (pv 5) (pv 7) (fun _ _ => rfl)))))
 (pss_one (ps_ret (pe_ifExp (pt_truth (pv 6) (fun _ => rfl)) (pe_callB (cr_minS rfl) (by rfl) T.co.pays.min (by decide +kernel) (pa_cons (pv 6) pa_nil)) pe_non))))))), ?_⟩
    rcases h.either with hbad | ⟨C, hC, mk, hlim⟩
    · refine ⟨fun _ _ => False, ?_, fun _ _ z => z.elim⟩
      exact ⟨_, rfl, _, rfl, _, rfl, x, y, r, d1, d2, d3, rfl, hx, hy, hr3, hbad.mono (fun _ e => e) (fun _ _ z => z.elim)⟩
    refine ⟨fun σ H1 => ∃ t, σ = [some x, some y, some r, some l, some (.ref t), none, none, none] ∧ Same H H1 ∧ Rp K H1 (.ref t) (eCt C), ?_, ?_⟩
    · exact ⟨_, rfl, _, rfl, _, rfl, x, y, r, d1, d2, d3, rfl, hx, hy, hr3, mk _ _ fun H1 t s1 nt ht => ⟨t, rfl, s1, ht⟩⟩
    rintro σ H1 ⟨t, rfl, s1, ht⟩
    rcases hlim with ⟨hb, q⟩ | ⟨L, rfl, L1, L2, qE, q⟩
    · refine ⟨fun _ _ => False, ?_, fun _ _ z => z.elim⟩
      exact ⟨_, rfl, l, d4, rfl, hl.go s1, .inr ⟨hb, q H1 s1⟩⟩
    obtain rfl := hl.isInt
    refine ⟨fun σ H2 => σ = [some x, some y, some r, some (.int L), some (.ref t), none, none, none] ∧ H2 = H1, ?_, ?_⟩
    · exact ⟨_, rfl, _, _, rfl, .int L, .inl ⟨betD_ok L1 L2, rfl, rfl⟩⟩
    rintro σ H2 ⟨rfl, rfl⟩
    refine ⟨fun σ H3 => ∃ n d, σ = [some x, some y, some r, some (.int L), some (.ref t), some (.ref d), none, none] ∧ Same H H3 ∧ ED P w K eSg H3 d (vW (lvl C n)) ∧ EndsN C n ∧ (tot C n : Int) ≤ L, ?_, ?_⟩
    · refine ⟨_, rfl, _, rfl, .ref t, C, L, rfl, ht, hC, L1, L2, fun n H' p g s' => qE n p g H' (s1.trans s'), fun n H' ll rs en tl s' nl nrs hll => ?_⟩
      have l1 : rs.length = n + 1 := by
        have := Paired.length hll.2
        rw [List.length_map, List.length_range] at this
        exact this
      obtain ⟨v, e1, e2⟩ := atI_end (xs := rs.map V.ref) (n := n) (by rw [List.length_map]; exact l1)
      rw [List.getElem?_map] at e1
      obtain ⟨d, e3, rfl⟩ := Option.map_eq_some_iff.mp e1
      obtain ⟨lv, e4, e5⟩ := LiI.paired_get hll.2 e3
      have e6 : lv = lvl C n := by
        rw [List.getElem?_map, List.getElem?_range (by omega)] at e4
        exact (Option.some.inj e4).symm
      rw [e6] at e5
      exact ⟨1, rfl, ll, _, -1, .ref d, rfl, rfl, SqL.of hll.1, e2, n, d, rfl, s1.trans s', e5, en, tl⟩
    rintro σ H3 ⟨n, d, rfl, s3, hd, en, tl⟩
    have nd := lvl_nodup C n
    refine ⟨fun σ H4 => ∃ wl l7, σ = [some x, some y, some r, some (.int L), some (.ref t), some (.ref d), some (.ref wl), l7] ∧ Same H H4 ∧ H4 wl = some (.lst ((((lvl C n).filter fun q => wonG q.1).map (·.2)).map V.str)), ?_, ?_⟩
    · obtain ⟨xd, hxd, kx⟩ := hd
      refine ⟨d, NdO P w d xd, hxd, trivial, fun od => ?_⟩
      refine ⟨_, rfl, d, od, xd, rfl, upd_same, fun D nD => ?_⟩
      have dD : d ≠ D := ne_of_none (o := .frz od (NdO P w d xd)) upd_same nD
      have nD0 : H3 D = none := by rw [upd_ne dD.symm] at nD; exact nD
      have tb : TStay K H3 (upd H3 d (.frz od (NdO P w d xd))) := ts_upd hxd (fun _ z => nomatch z) (fun _ _ z => nomatch z)
      have hdb : EDr P w K eSg (upd H3 d (.frz od (NdO P w d xd))) d (vW (lvl C n)) := ⟨xd, .inr ⟨od, upd_same⟩, kx.ts enc_sg tb⟩
      have lx : xd.length = (lvl C n).length := by
        have := Paired.length kx
        rw [vW_len] at this
        exact this
      have lle := lvl_len_le C n
      refine lc_it walk_nkeys (fun i H' => Same (upd H3 d (.frz od (NdO P w d xd))) H' ∧ H' D = some (.lst (((((lvl C n).take i).filter fun q => wonG q.1).map (·.2)).map V.str))) ⟨same_upd nD, upd_same⟩ (fun i H' _ h => h.1 _ _ upd_same) ?_ ?_
      · rintro i u H' H2' hi ⟨s5, hD⟩ ⟨rfl, e, he, rfl⟩
        obtain ⟨p, hp, rp⟩ := kx.at he
        obtain ⟨qq, hq, rfl⟩ : ∃ qq : Sg × Str, (lvl C n)[i]? = some qq ∧ p = (qq.1, V.str qq.2) := by
          unfold vW at hp
          rw [List.getElem?_map] at hp
          obtain ⟨qq, h1, h2⟩ := Option.map_eq_some_iff.mp hp
          exact ⟨qq, h1, h2.symm⟩
        have rpb := rp_ts (tb.trans (ts_same s5)) rp (enc_sg.tO _)
        have gq : getA (vW (lvl C n)) qq.1 = some (.str qq.2) := by
          rw [vW_get, mem_getA nd (show (qq.1, qq.2) ∈ lvl C n from List.mem_of_getElem? hq)]
          rfl
        have stepF : ((lvl C n).take (i + 1)).filter (fun q => wonG q.1) = ((lvl C n).take i).filter (fun q => wonG q.1) ++ (if wonG qq.1 = true then [qq] else []) := by
          rw [List.take_succ, hq, List.filter_append]
          congr 1
          show List.filter (fun q : Sg × Str => wonG q.1) [qq] = _
          rw [List.filter_cons]
          rfl
        refine ⟨rfl, ?_⟩
        refine ⟨_, rfl, _, qq.1, rfl, rpb, fun H6 s6 => ⟨_, rfl, ?_⟩⟩
        cases hw : wonG qq.1 with
        | true =>
          refine iteT ⟨_, rfl, _, rfl, .str qq.2, (hdb.same enc_sg (s5.trans s6)).get enc_sg (rp_ts (ts_same s6) rpb (enc_sg.tO _)) gq, _, s6 _ _ hD, ?_, same_new (s5.trans s6) nD, ?_⟩
          · rw [List.length_map, List.length_map]
            have h1 := List.length_filter_le (fun q : Sg × Str => wonG q.1) ((lvl C n).take i)
            have h2 := List.length_take_le' i (lvl C n)
            exact Nat.lt_of_le_of_lt (show _ ≤ 2000 by omega) (by decide)
          · rw [upd_same, stepF, if_pos hw, List.map_append, List.map_append]
            rfl
        | false =>
          refine iteF ⟨s5.trans s6, ?_⟩
          rw [stepF, if_neg (by rw [hw]; decide), List.append_nil]
          exact s6 _ _ hD
      · rintro H' ⟨s5, hD⟩
        rw [lx, List.take_length] at hD
        have back : Same H3 (upd H' d (NdO P w d xd)) := fun b o e => by
          by_cases z : b = d
          · rw [z, upd_same, ← hxd, ← z, e]
          · rw [upd_ne z]
            exact s5 b o (by rw [upd_ne z]; exact e)
        exact ⟨s5 _ _ upd_same, D, _, rfl, s3.trans back, by rw [upd_ne dD.symm]; exact hD⟩
    rintro σ H4 ⟨wl, l7, rfl, s4, hwl⟩
    have memW : ∀ w, w ∈ ((lvl C n).filter fun q => wonG q.1).map (·.2) ↔ ∃ t, (t, w) ∈ lvl C n ∧ wonG t = true := fun w => by
      constructor
      · intro h
        obtain ⟨q, h1, rfl⟩ := List.mem_map.mp h
        obtain ⟨h2, h3⟩ := List.mem_filter.mp h1
        exact ⟨q.1, h2, h3⟩
      · rintro ⟨t, h1, h2⟩
        exact List.mem_map.mpr ⟨(t, w), List.mem_filter.mpr ⟨h1, h2⟩, rfl⟩
    refine ⟨_, rfl, _, .inl ⟨_, SqL.of hwl, rfl⟩, ?_⟩
    cases hW : ((lvl C n).filter fun q => wonG q.1) with
    | nil =>
      refine iteF (q n en tl H4 .non (.inl ⟨?_, rfl⟩) s4)
      rcases SrtO.bcase (wonN C n) with z | z
      · obtain ⟨t, h1, h2⟩ := List.any_eq_true.mp z
        obtain ⟨p, hp, rfl⟩ := List.mem_map.mp h1
        have : p ∈ (lvl C n).filter fun q => wonG q.1 := List.mem_filter.mpr ⟨hp, h2⟩
        rw [hW] at this
        cases this
      · exact z
    | cons p r =>
      rw [hW] at hwl memW
      refine iteT ⟨_, rfl, wl, _, rfl, SqL.of hwl, Nat.succ_pos _, fun m hm hmin => q n en tl H4 (.str m) (.inr ⟨m, rfl, (memW m).mp hm, fun t w' h1 h2 => hmin w' ((memW w').mpr ⟨t, h1, h2⟩)⟩) s4⟩
theorem ok_levelsOf (T : PaTxt K mg m1 m2 m3 m4 m5 m6 m7 m8 m9 m10 m11 m12 n1 n2 n3 n4 n5 n6 n7 n8 n9 n10 n11 n12 t1 t2 t3 t4 t5 t6 CM a1 a3 b1 b3 r1 r2 r3 r4 r5 p1 v1 v2 v3 v4 v5 q1 CX CR CI mR mW nR nW g1 g2 g3 g4 g5 e1 e2 e3 e4 e5 CG fF p7 p8 q7 q8) {k : Nat} : FnOk P w K mg base (L2.CX P w) (k + 9) p8 q8 ["one", "other", "rule", "limit"] (spLevelsOf K CM CX CR CI CG) := by
  have GC : FnOk P w K mg base (L2.CX P w) (k + 8) r4 v4 ["one", "other", "rule"] (spContestOf K CM CX CR) := ok_contestOf T.co T.look
  have GL : FnOk P w K mg base (L2.CX P w) (k + 8) r5 v5 ["thing", "most"] (spNeedLimit K CI) := ok_needLimit T.co (k := k + 5)
  have GU : FnOk P w K mg base (L2.CX P w) (k + 8) g5 e5 ["contest", "limit"] (spLevelsUntil P w K CG) := ok_levelsUntil T.lu (k := k + 5)
  refine T.FLevelsOf.ok scLevelsOf (fun vs H Q E h => ?_) (fun cdv A outer s H vs Q E hr h => ?_)
  · obtain ⟨x, y, r, l, d1, d2, d3, d4, rfl, _⟩ := h
    rfl
  · obtain ⟨x, y, r, l, d1, d2, d3, d4, rfl, hx, hy, hr3, hl, h⟩ := h
    have hu9 : (A.deeper (envOfC "levels_of" (defScope sLevelsOf) s.heap.objs.size p8 cdv)).units + 16 < cLine := by have := hr.un; omega
    refine ⟨_, (Evl.pss_cut (ps_set (i := 4) scLevelsOf.nd rfl (.inl rfl) (pe_call GC hr (by rfl) T.co.gContestOf T.co.FContestOf.kp T.co.bContestOf .nil (passes_call (takes_of rfl rfl rfl rfl) (fun _ _ _ _ h => h)) (pa_cons (pv 0) (pa_cons (pv 1) (pa_cons (pv 2) pa_nil)))))
 (Evl.pss_cut (ps_expr (pe_call GL hr (by rfl) T.co.gNeedLimit T.co.FNeedLimit.kp T.co.bNeedLimit .nil (passes_call (takes_of rfl rfl rfl rfl) (fun _ _ _ _ h => h)) (pa_cons (pv 3) (pa_cons (pe_glob (v := .int 2000) (by rfl) T.mMost ⟨_, rfl⟩) pa_nil))))
 (pss_one (ps_ret (pe_lc (own := [("level", 5)]) (g := gName 5) (tt := tYes) (by rfl) scLevelsOf.nd (pi_list (pe_call GU hr (by rfl) T.lu.gLevelsUntil T.lu.FLevelsUntil.kp T.lu.bLevelsUntil .nil (passes_call (takes_of rfl rfl rfl rfl) (fun _ _ _ _ h => h)) (pa_cons (pv 4) (pa_cons (pv 3) pa_nil)))) (blkOk_by (N := ["one", "other", "rule", "limit", "contest", "level"]) (sc := defScope sLevelsOf) (by decide +kernel)) (fun _ _ _ _ _ => pg_name (i := 5) scLevelsOf.nd rfl (Or.inl rfl)) (fun _ _ _ _ _ => pts_nil) (fun _ _ _ _ _ => (pe_callB (cr_sortNK (P := P) (w := w) (K := K) rfl rfl rfl rfl hu9) (by rfl) T.lu.lv.su.sorted (by decide +kernel) (pa_cons (pv 5) pa_nil)))))))), ?_⟩
    rcases h.either with hbad | ⟨C, hC, mk, hlim⟩
    · refine ⟨fun _ _ => False, ?_, fun _ _ z => z.elim⟩
      exact ⟨_, rfl, _, rfl, _, rfl, x, y, r, d1, d2, d3, rfl, hx, hy, hr3, hbad.mono (fun _ e => e) (fun _ _ z => z.elim)⟩
    refine ⟨fun σ H1 => ∃ t, σ = [some x, some y, some r, some l, some (.ref t), none] ∧ Same H H1 ∧ Rp K H1 (.ref t) (eCt C), ?_, ?_⟩
    · exact ⟨_, rfl, _, rfl, _, rfl, x, y, r, d1, d2, d3, rfl, hx, hy, hr3, mk _ _ fun H1 t s1 nt ht => ⟨t, rfl, s1, ht⟩⟩
    rintro σ H1 ⟨t, rfl, s1, ht⟩
    rcases hlim with ⟨hb, q⟩ | ⟨L, rfl, L1, L2, qE, q⟩
    · refine ⟨fun _ _ => False, ?_, fun _ _ z => z.elim⟩
      exact ⟨_, rfl, l, d4, rfl, hl.go s1, .inr ⟨hb, q H1 s1⟩⟩
    obtain rfl := hl.isInt
    refine ⟨fun σ H2 => σ = [some x, some y, some r, some (.int L), some (.ref t), none] ∧ H2 = H1, ?_, ?_⟩
    · exact ⟨_, rfl, _, _, rfl, .int L, .inl ⟨betD_ok L1 L2, rfl, rfl⟩⟩
    rintro σ H2 ⟨rfl, rfl⟩
    refine ⟨_, rfl, _, rfl, .ref t, C, L, rfl, ht, hC, L1, L2, fun n H' p g s' => qE n p g H' (s1.trans s'), fun n H3 ll rs en tl s3 nl nrs hll => ?_⟩
    refine ⟨ll, rfl, ⟨_, SqL.of hll.1⟩, fun D nD => ?_⟩
    have lrs : rs.length = n + 1 := by
      have := Paired.length hll.2
      rw [List.length_map, List.length_range] at this
      exact this
    have tn := pre_tot en.1
    refine lc_lstO (xs := rs.map V.ref) (fun i H' => Same H3 H' ∧ ∃ ps : List Addr, H' D = some (.lst (ps.map V.ref)) ∧ (∀ p ∈ ps, H3 p = none) ∧ D ∉ ps ∧ Paired (fun (r : Addr) (ts : List Sg) => ∃ us, H' r = some (.lst us) ∧ RpAll K H' us (ts.map eSg)) ps (((List.range (n + 1)).take i).map (sLv C))) ⟨same_upd nD, [], upd_same, (fun _ h => nomatch h), (fun h => nomatch h), .nil⟩ (fun i H' h => SqL.of (h.1 _ _ hll.1)) ?_ ?_
    · rintro i u H' hu ⟨s4, ps, hD, np, nDp, hps⟩
      obtain ⟨r1, hr1, rfl⟩ : ∃ r1, rs[i]? = some r1 ∧ u = .ref r1 := by
        rw [List.getElem?_map] at hu
        obtain ⟨r1, h1, h2⟩ := Option.map_eq_some_iff.mp hu
        exact ⟨r1, h1, h2.symm⟩
      have hi : i < n + 1 := by
        have := (List.getElem?_eq_some_iff.mp hr1).1
        omega
      obtain ⟨lv, e4, e5⟩ := LiI.paired_get hll.2 hr1
      have e6 : lv = lvl C i := by
        rw [List.getElem?_map, List.getElem?_range hi] at e4
        exact (Option.some.inj e4).symm
      rw [e6] at e5
      have lle := lvl_len_le C i
      have tm := tot_mono (C := C) (show i ≤ n by omega)
      refine ⟨rfl, ?_⟩
      refine ⟨_, rfl, r1, Sg, eSg, _, rfl, (e5.same enc_sg s4).r, ?_, enc_sg, fun p vs' npp hvs => ?_⟩
      · rw [vW_len]
        exact Nat.le_trans (show _ ≤ 2000 by omega) (by decide)
      have sp := same_upd (o := HO.lst vs') npp
      have Dp : D ≠ p := ne_of_none hD npp
      have lps : ps.length = i := by
        have := Paired.length hps
        rw [List.length_map, List.length_take, List.length_range] at this
        omega
      rw [vW_keys] at hvs
      have tsD : TStay K (upd H' p (.lst vs')) (upd (upd H' p (.lst vs')) D (.lst (ps.map V.ref ++ [V.ref p]))) := ts_lst (sp _ _ hD)
      refine ⟨ps.map V.ref, sp _ _ hD, by rw [List.length_map, lps]; exact Nat.lt_of_le_of_lt (show i ≤ 2000 by omega) (by decide), same_new (s4.trans sp) nD, ps ++ [p], by rw [upd_same, List.map_append]; rfl, fun r hr => ?_, fun hm => ?_, ?_⟩
      · rcases List.mem_append.mp hr with h | h
        · exact np r h
        · rw [List.mem_singleton.mp h]
          exact s4.free npp
      · rcases List.mem_append.mp hm with h | h
        · exact nDp h
        · exact Dp (List.mem_singleton.mp h)
      · have e7 : ((List.range (n + 1)).take (i + 1)).map (sLv C) = ((List.range (n + 1)).take i).map (sLv C) ++ [sLv C i] := by
          rw [List.take_succ, List.getElem?_range hi, List.map_append]
          rfl
        rw [e7]
        have mv : ∀ {rs : List Addr} {tss : List (List Sg)}, D ∉ rs → Paired (fun (r : Addr) (ts : List Sg) => ∃ us, H' r = some (.lst us) ∧ RpAll K H' us (ts.map eSg)) rs tss → Paired (fun (r : Addr) (ts : List Sg) => ∃ us, (upd (upd H' p (.lst vs')) D (.lst (ps.map V.ref ++ [V.ref p]))) r = some (.lst us) ∧ RpAll K (upd (upd H' p (.lst vs')) D (.lst (ps.map V.ref ++ [V.ref p]))) us (ts.map eSg)) rs tss := fun {rs tss} nm h => by
          induction h with
          | nil => exact .nil
          | cons h1 _ ih =>
            obtain ⟨us, g1, g2⟩ := h1
            exact .cons ⟨us, by rw [upd_ne (fun z => nm (by rw [← z]; exact .head _))]; exact sp _ _ g1, rpAll_ts ((ts_same sp).trans tsD) g2 (tOs_map enc_sg.tO _)⟩ (ih fun z => nm (.tail _ z))
        exact Paired.snoc (mv nDp hps) ⟨vs', by rw [upd_ne Dp.symm]; exact upd_same, rpAll_ts ((ts_same sp).trans tsD) hvs (tOs_map enc_sg.tO _)⟩
    · rintro H' ⟨s4, ps, hD, np, nDp, hps⟩
      have s13 := s1.trans s3
      rw [List.length_map, lrs, List.take_of_length_le (by rw [List.length_range]; exact Nat.le_refl _)] at hps
      exact q n en tl H' D ps (s13.trans s4) (s13.free nD) (fun r hr => s13.free (np r hr)) nDp ⟨hD, hps⟩
end
end My
/-! ### the law's own steps -/
namespace My
open PySem PySem.Spec PyProof.Rows L2 PySem.Builtin.Str
abbrev sXBounds : Stmt := topS 65
theorem scXBounds : FnScope ["one", "other", "low", "high", "least", "most"] ["one", "other"] (defScope sXBounds) := ⟨rfl, rfl, rfl, by decide +kernel, rfl, by decide +kernel, by decide +kernel⟩
abbrev sXGoes : Stmt := topS 66
theorem scXGoes : FnScope ["one", "other", "rule", "bounds", "standing", "at", "place", "state", "leads", "base", "found", "pay", "next_state", "later", "q", "lead", "paid", "after", "more", "kept"] ["one", "other", "rule", "bounds", "standing", "at"] (defScope sXGoes) := ⟨rfl, rfl, rfl, by decide +kernel, rfl, by decide +kernel, by decide +kernel⟩
structure GoTxt (K : PySem.W.Frag) (mg : Str → Option Value) (x1 x2 x3 x4 : Addr) (y1 y2 y3 y4 : FuncData) : Prop where
  f1 : Lf1 K mg x1 x2 y1 y2
  sorted : mg "sorted" = none
  FXBounds : Fun K "_law_x_bounds_over" "_law_x_bounds_over" sXBounds x3 y3
  bXBounds : Binds K y3 ["one", "other"] []
  gXBounds : mg "_law_x_bounds_over" = some (.ref x3)
  FXGoes : Fun K "_law_x_goes_on" "_law_x_goes_on" sXGoes x4 y4
  bXGoes : Binds K y4 ["one", "other", "rule", "bounds", "standing", "at"] []
  gXGoes : mg "_law_x_goes_on" = some (.ref x4)
def phi (b pay g : Int) : Int := b * (pay - g)
theorem phi_min {b pay u v : Int} (hb : 2 ≤ b) : min (phi b pay u) (phi b pay v) = phi b pay (max u v) := by
  unfold phi
  rcases Int.le_total u v with h | h
  · have := Int.mul_le_mul_of_nonneg_left (show pay - v ≤ pay - u by omega) (show 0 ≤ b by omega)
    rw [Int.max_eq_right h, Int.min_eq_right this]
  · have := Int.mul_le_mul_of_nonneg_left (show pay - u ≤ pay - v by omega) (show 0 ≤ b by omega)
    rw [Int.max_eq_left h, Int.min_eq_left this]
theorem in_bools : ∀ bs : List Bool, inV (V.bl true) (bs.map V.bl) = bs.any id
  | [] => rfl
  | b :: bs => by
    have h := in_bools bs
    unfold inV at h ⊢
    rw [List.map_cons, List.any_cons, List.any_cons, h]
    cases b <;> rfl
theorem flat_bools : ∀ bs : List Bool, (bs.map V.bl).all flatV = true
  | [] => rfl
  | b :: bs => by
    rw [List.map_cons, List.all_cons, flat_bools bs]
    rfl
theorem vain_perm {b below pay : Int} {G : Dk} (nd : (keysI G).Nodup) : (G.any fun kv => vainB b below (phi b pay kv.2)) = (aheadOf b pay G).any fun e => vainB b below e.2 := by
  rw [Bool.eq_iff_iff, List.any_eq_true, List.any_eq_true]
  constructor
  · rintro ⟨kv, h1, h2⟩
    refine ⟨(kv.1, phi b pay kv.2), ?_, h2⟩
    unfold aheadOf
    refine List.mem_map.mpr ⟨kv.1, (sort_perm _).mem_iff.mpr (List.mem_map_of_mem (f := (·.1)) h1), ?_⟩
    rw [mem_getI nd (show (kv.1, kv.2) ∈ G from h1)]
    rfl
  · rintro ⟨e, h1, h2⟩
    unfold aheadOf at h1
    obtain ⟨k, hk, rfl⟩ := List.mem_map.mp h1
    obtain ⟨v, hv⟩ := Option.isSome_iff_exists.mp (getI_mem.mpr ((sort_perm _).mem_iff.mp hk))
    rw [hv] at h2
    exact ⟨(k, v), getI_some_mem hv, h2⟩
theorem hide {K : PySem.W.Frag} {H : Hp} {g : Addr} {o : HO} (hg : H g = some o) (n1 : ∀ xs, o ≠ .tup xs) (n2 : ∀ u xs, o ≠ .frz u (.tup xs)) : ∃ Hc : Hp, Hc g = none ∧ Same Hc H ∧ (∀ H0, Same H0 H → H0 g = none → Same H0 Hc) ∧ (∀ b, b ≠ g → Hc b = H b) ∧ TStay K H Hc := by
  refine ⟨fun b => if b = g then none else H b, if_pos rfl, fun b x e => ?_, fun H0 s n b x e => ?_, fun b nb => if_neg nb, fun b ys e => ?_⟩
  · have e : (if b = g then none else H b) = some x := e
    by_cases z : b = g
    · rw [if_pos z] at e
      cases e
    · rw [if_neg z] at e
      exact e
  · have z : b ≠ g := fun z => by rw [z, n] at e; cases e
    show (if b = g then none else H b) = _
    rw [if_neg z]
    exact s _ _ e
  · have ne : ∀ b, (∃ xs, H b = some (.tup xs)) ∨ (∃ u xs, H b = some (.frz u (.tup xs))) → b ≠ g := fun b h z => by
      rcases h with ⟨xs, h⟩ | ⟨u, xs, h⟩
      · rw [z, hg] at h
        exact n1 _ (Option.some.inj h)
      · rw [z, hg] at h
        exact n2 _ _ (Option.some.inj h)
    rcases e with (e | ⟨u, e⟩) | e
    · exact .inl (.inl (by show (if b = g then none else H b) = _; rw [if_neg (ne b (.inl ⟨_, e⟩))]; exact e))
    · exact .inl (.inr ⟨u, by show (if b = g then none else H b) = _; rw [if_neg (ne b (.inr ⟨_, _, e⟩))]; exact e⟩)
    · exact .inr e
def spBounds (K : PySem.W.Frag) : Sp := fun vs H Q _ => ∃ (x y : V) (d e : PyData) (M N : Mc), vs = [x, y] ∧ Rp K H x d ∧ Side d M ∧ Rp K H y e ∧ Side e N ∧
  ∀ H' t R, Same H H' → H t = none → H' t = some (.tup [.int (Ct.over ⟨M, N, R⟩), .int (Ct.below ⟨M, N, R⟩)]) → Q (.ref t) H'
def spGoes (K : PySem.W.Frag) : Sp := fun vs H Q _ => ∃ (x y r s : V) (d e : PyData) (C : Ct) (t : Sg) (at_ : Nat) (bt : Addr), vs = [x, y, r, .ref bt, s, .int (at_ : Nat)] ∧ Rp K H x d ∧ Side d C.M ∧ Rp K H y e ∧ Side e C.N ∧ Cok C ∧ Rp K H r (.tuple [.str C.M.z, .tuple (rowsD C.R)]) ∧ SqT K H bt [.int C.over, .int C.below] ∧ Rp K H s (eSg t) ∧ Sok C t ∧ at_ < C.M.z.length ∧
  ∀ H' l us, Same H H' → H l = none → H' l = some (.lst us) → RpAll K H' us ((succOf C at_ t).map eSg) → Q (.ref l) H'
section
variable {P : Program} {w : World} {K : PySem.W.Frag} {mg : Str → Option Value} {base : Heap} {x1 x2 x3 x4 : Addr} {y1 y2 y3 y4 : FuncData}
theorem ok_xBounds (T : GoTxt K mg x1 x2 x3 x4 y1 y2 y3 y4) {k : Nat} : FnOk P w K mg base CX0 (k + 3) x3 y3 ["one", "other"] (spBounds K) := by
  have GP : FnOk P w K mg base CX0 (k + 2) x2 y2 ["machine"] (spPays K) := ok_xPays T.f1
  refine T.FXBounds.ok scXBounds (fun vs H Q E h => ?_) (fun cdv A outer s H vs Q E hr h => ?_)
  · obtain ⟨x, y, d, e, M, N, rfl, _⟩ := h
    rfl
  · obtain ⟨x, y, d, e, M, N, rfl, hx, hd, hy, he, q⟩ := h
    refine ⟨_, (Evl.pss_cut (ps_asg (pe_call GP hr (by rfl) T.f1.gXPays T.f1.FXPays.kp T.f1.bXPays .nil pass0 (pa_cons (pv 0) pa_nil)) (pg_tup rfl (pgs_cons (pg_name (i := 2) scXBounds.nd rfl (.inl rfl)) (pgs_cons (pg_name (i := 3) scXBounds.nd rfl (.inl rfl)) pgs_nil))))
 (Evl.pss_cut (ps_asg (pe_call GP hr (by rfl) T.f1.gXPays T.f1.FXPays.kp T.f1.bXPays .nil pass0 (pa_cons (pv 1) pa_nil)) (pg_tup rfl (pgs_cons (pg_name (i := 4) scXBounds.nd rfl (.inl rfl)) (pgs_cons (pg_name (i := 5) scXBounds.nd rfl (.inl rfl)) pgs_nil))))
 (pss_one (ps_ret (pe_tup (pa_cons (pe_callB (cr_max rfl) (by rfl) T.f1.max (by decide +kernel) (pa_cons (pe_lst (pa_cons pe_int (pa_cons (pe_op op_sub (pv 5) (pv 2)) pa_nil))) pa_nil)) (pa_cons (pe_callB (cr_max rfl) (by rfl) T.f1.max (by decide +kernel) (pa_cons (pe_lst (pa_cons pe_int (pa_cons (pe_op op_sub (pv 3) (pv 4)) pa_nil))) pa_nil)) pa_nil))))))), ?_⟩
    refine ⟨fun σ H1 => σ = [some x, some y, some (.int (minL (paysL M))), some (.int (maxL (paysL M))), none, none] ∧ Same H H1, ?_, ?_⟩
    · exact ⟨_, rfl, x, d, M, rfl, hx, hd, fun H1 t s1 nt ht => ⟨t, _, rfl, SqT.of ht, rfl, _, _, rfl, _, _, rfl, rfl, rfl, s1⟩⟩
    rintro σ H1 ⟨rfl, s1⟩
    refine ⟨fun σ H2 => σ = [some x, some y, some (.int (minL (paysL M))), some (.int (maxL (paysL M))), some (.int (minL (paysL N))), some (.int (maxL (paysL N)))] ∧ Same H H2, ?_, ?_⟩
    · exact ⟨_, rfl, y, e, N, rfl, hy.go s1, he, fun H2 t s2 nt ht => ⟨t, _, rfl, SqT.of ht, rfl, _, _, rfl, _, _, rfl, rfl, rfl, s1.trans s2⟩⟩
    rintro σ H2 ⟨rfl, s2⟩
    have two : ∀ {i m : Int}, m ∈ [0, i] → (∀ y ∈ [0, i], y ≤ m) → m = max 0 i := fun {i m} hm ge => by
      have g1 := ge 0 (.head _)
      have g2 := ge i (.tail _ (.head _))
      rcases List.mem_cons.mp hm with e | e
      · omega
      · have := List.mem_singleton.mp e
        omega
    refine ⟨_, rfl, _, rfl, _, _, rfl, rfl, (by show 2 ≤ sizeLine; decide), fun l1 n1 => ?_⟩
    have x1 := same_upd (o := HO.lst [V.int 0, .int (maxL (paysL N) - minL (paysL M))]) n1
    refine ⟨l1, [0, maxL (paysL N) - minL (paysL M)], rfl, SqL.of upd_same, (by show 0 < 2; decide), fun m1 hm1 ge1 => ?_⟩
    refine ⟨_, rfl, _, rfl, _, _, rfl, rfl, (by show 2 ≤ sizeLine; decide), fun l2 n2 => ?_⟩
    have x2 := same_upd (o := HO.lst [V.int 0, .int (maxL (paysL M) - minL (paysL N))]) n2
    refine ⟨l2, [0, maxL (paysL M) - minL (paysL N)], rfl, SqL.of upd_same, (by show 0 < 2; decide), fun m2 hm2 ge2 => ⟨(by show 2 ≤ sizeLine; decide), fun t nt => ?_⟩⟩
    have x3 := same_upd (o := HO.tup [V.int m1, .int m2]) nt
    have s3 := (s2.trans x1).trans x2
    refine q _ t [] (s3.trans x3) (s3.free nt) ?_
    rw [upd_same, two hm1 ge1, two hm2 ge2]
    rfl
theorem ok_xGoes (T : GoTxt K mg x1 x2 x3 x4 y1 y2 y3 y4) {k : Nat} : FnOk P w K mg base CX0 (k + 2) x4 y4 ["one", "other", "rule", "bounds", "standing", "at"] (spGoes K) := by
  have GP : FnOk P w K mg base CX0 (k + 1) x1 y1 ["machine", "state", "at"] (spPairs K) := ok_xPairs T.f1
  refine T.FXGoes.ok scXGoes (fun vs H Q E h => ?_) (fun cdv A outer s H vs Q E hr h => ?_)
  · obtain ⟨x, y, r, s, d, e, C, t, at_, bt, rfl, _⟩ := h
    rfl
  · obtain ⟨x, y, r, s, d, e, C, t, at_, bt, rfl, hx, hd, hy, he2, hC, hr3, hbt, hs, ht, hat, q⟩ := h
    refine ⟨_, (Evl.pss_cut (ps_asg (pv 4) (pg_tup rfl (pgs_cons (pg_name (i := 6) scXGoes.nd rfl (.inl rfl)) (pgs_cons (pg_name (i := 7) scXGoes.nd rfl (.inl rfl)) (pgs_cons (pg_name (i := 8) scXGoes.nd rfl (.inl rfl)) pgs_nil)))))
 (Evl.pss_cut (ps_asg (pe_tup (pa_cons (pe_ix ix_tup (pv 0) pe_int (fun _ _ => rfl)) (pa_cons (pe_lst pa_nil) pa_nil))) (pg_tup rfl (pgs_cons (pg_name (i := 9) scXGoes.nd rfl (.inr rfl)) (pgs_cons (pg_name (i := 10) scXGoes.nd rfl (.inl rfl)) pgs_nil))))
 (Evl.pss_cut (ps_if (pt_cmpR op_isN (pe_ix ix_tup (pe_ix ix_tup (pe_ix ix_tup (pv 2) pe_int (fun _ _ => rfl)) (pv 6) (fun _ _ => rfl)) (pv 5) (fun _ _ => rfl)) pe_non (nomark _)) (pss_one (ps_ret (pv 10))) pss_nil)
 (Evl.pss_cut (ps_for PassesOwn.never rfl (pi_list (pe_call GP hr (by rfl) T.f1.gXPairs T.f1.FXPairs.kp T.f1.bXPairs .nil pass0 (pa_cons (pv 0) (pa_cons (pv 7) (pa_cons (pv 5) pa_nil))))) (pg_tup rfl (pgs_cons (pg_name (i := 11) scXGoes.nd rfl (.inl rfl)) (pgs_cons (pg_name (i := 12) scXGoes.nd rfl (.inl rfl)) pgs_nil)))
 (Evl.pss_cut (ps_set (i := 13) scXGoes.nd rfl (.inr rfl) pe_dnewK)
 (Evl.pss_cut (ps_for PassesOwn.never rfl (pi_tup (pv 8)) (pg_tup rfl (pgs_cons (pg_name (i := 14) scXGoes.nd rfl (.inl rfl)) (pgs_cons (pg_name (i := 15) scXGoes.nd rfl (.inl rfl)) pgs_nil)))
 (pss_one (ps_for PassesOwn.never rfl (pi_list (pe_call GP hr (by rfl) T.f1.gXPairs T.f1.FXPairs.kp T.f1.bXPairs .nil pass0 (pa_cons (pv 1) (pa_cons (pv 14) (pa_cons (pv 5) pa_nil))))) (pg_tup rfl (pgs_cons (pg_name (i := 16) scXGoes.nd rfl (.inl rfl)) (pgs_cons (pg_name (i := 17) scXGoes.nd rfl (.inl rfl)) pgs_nil)))
 (Evl.pss_cut (ps_set (i := 18) scXGoes.nd rfl (.inl rfl) (pe_op op_mulW (pv 9) (pe_op op_sub (pe_op op_add (pv 15) (pv 11)) (pv 16))))
 (pss_one (ps_dput (hu_of hr) (pv 13) (pv 17) (pe_callB (cr_min rfl) (by rfl) T.f1.min (by decide +kernel) (pa_cons (pe_lst (pa_cons (pv 18) (pa_cons (pe_dget2 (hu_of hr) (pv 13) (pv 17) (pv 18) ⟨by rfl, by rfl, by rfl, by rfl⟩) pa_nil))) pa_nil)) rfl))))))
 (pss_one (ps_if (pt_cmpR op_notIn_seq pe_bl (pe_lock (pe_lc (own := [("q", 14)]) (g := gName 14) (tt := tYes) (by rfl) scXGoes.nd (pi_keys (pv 13)) (blkOk_by (N := ["one", "other", "rule", "bounds", "standing", "at", "place", "state", "leads", "base", "found", "pay", "next_state", "later", "q", "lead", "paid", "after", "more", "kept"]) (sc := defScope sXGoes) (by decide +kernel)) (fun _ _ _ _ _ => pg_name (i := 14) scXGoes.nd rfl (Or.inl rfl)) (fun _ _ _ _ _ => pts_nil) (fun _ _ _ _ _ => (pe_cmpR op_ge (pe_op op_mulW (pe_un un_neg (pe_dget (hu_of hr) (pv 13) (pv 14) (fun _ _ => rfl))) (pe_op op_sub (pv 9) pe_int)) (pe_op op_mulW (pe_ix (ixT (K := K) rfl) (pv 3) pe_int (fun _ _ => rfl)) (pv 9)) (nomark _))))) (by rfl)) (Evl.pss_cut (ps_setLc (i := 19) (own := [("q", 14)]) (g := gName 14) (by rfl) scXGoes.nd rfl rfl (sw_true rfl rfl rfl (by decide +kernel)) (pi_list (pe_callB (call_sortedDI rfl) (by rfl) T.sorted (by decide +kernel) (pa_cons (pv 13) pa_nil))) (blkOk_by (N := ["one", "other", "rule", "bounds", "standing", "at", "place", "state", "leads", "base", "found", "pay", "next_state", "later", "q", "lead", "paid", "after", "more", "kept"]) (sc := defScope sXGoes) (by decide +kernel)) (fun _ _ _ _ _ => pg_name (i := 14) scXGoes.nd rfl (Or.inl rfl)) (fun _ _ _ _ _ => (pts_one (pt_cmpR op_le (pe_op op_mulW (pe_dget (hu_of hr) (pv 13) (pv 14) (fun _ _ => rfl)) (pe_op op_sub (pv 9) pe_int)) (pe_op op_mulW (pe_ix (ixT (K := K) rfl) (pv 3) pe_int (fun _ _ => rfl)) (pv 9)) (nomark _)))) (fun _ _ _ _ _ => (pe_tup (pa_cons (pv 14) (pa_cons (pe_dget (hu_of hr) (pv 13) (pv 14) (fun _ _ => rfl)) pa_nil)))))
 (pss_one (ps_expr (pe_bm PySem.F.plainAttrs_list PySem.F.slot_list_append PySem.F.type_list_append mt_append (pv 10) (pa_cons (pe_tup (pa_cons (pe_ix ix_tup (pe_ix ix_tup (pe_ix ix_tup (pv 2) pe_int (fun _ _ => rfl)) (pv 6) (fun _ _ => rfl)) (pv 5) (fun _ _ => rfl)) (pa_cons (pv 12) (pa_cons (pe_callTy call_tuple_of (by rfl) T.f1.tuple (by decide +kernel) (pa_cons (pv 19) pa_nil)) pa_nil)))) pa_nil))))) pss_nil)))))
 (pss_one (ps_ret (pv 10))))))), ?_⟩
    have b2 := hC.m.b2
    have b9 := hC.m.b9
    have w2 := wide_two
    have p3 : ((2 : Int) ^ 100).natAbs = 2 ^ 100 := by decide +kernel
    have bb : C.M.b.natAbs < 2 ^ 4 := by omega
    have bnn : C.M.b.natAbs < 2 ^ 20 := by omega
    have orr := over_rg hC
    have hx0 := hx
    obtain ⟨oa, osa, oxs, rfl, hoS, _, _, _⟩ := side_top hd hx
    obtain ⟨sa, la, vs, rfl, hS4, hS5, hA5⟩ := sg_top hs
    obtain ⟨ra, rys, rfl, hRS, hRA⟩ := Rp.isTup hr3
    cases hRA with
    | cons hr0 hRA =>
    cases hRA with
    | cons hr1 hRA =>
    cases hRA
    obtain ⟨rt, rs, rfl, hS1, hA1⟩ := Rp.isTup hr1
    obtain ⟨ra2, ys2, hp1, hSr, hp2⟩ := row_at hA1 (fun r hr => (hC.row r hr).len) ht.p0 ht.p1 hat
    refine ⟨fun σ H1 => σ = [some (.ref oa), some y, some (.ref ra), some (.ref bt), some (.ref sa), some (.int (at_ : Nat)), some (.int t.p), some (.int t.s), some (.ref la)] ++ List.replicate 11 none ∧ H1 = H, ?_, ?_⟩
    · exact ⟨_, rfl, sa, _, rfl, hS4, rfl, _, _, rfl, _, _, rfl, _, _, rfl, rfl, rfl, rfl⟩
    rintro σ H1 ⟨rfl, rfl⟩
    refine ⟨fun σ H2 => ∃ f, σ = [some (.ref oa), some y, some (.ref ra), some (.ref bt), some (.ref sa), some (.int (at_ : Nat)), some (.int t.p), some (.int t.s), some (.ref la), some (.int C.M.b), some (.ref f)] ++ List.replicate 9 none ∧ Same H1 H2 ∧ H1 f = none ∧ H2 f = some (.lst []), ?_, ?_⟩
    · refine ⟨_, rfl, oa, _, 0, _, rfl, rfl, hoS, rfl, (by show 0 ≤ sizeLine; decide), fun f nf => ⟨(by show 2 ≤ sizeLine; decide), fun u nu => ?_⟩⟩
      have x1 := same_upd (o := HO.lst []) nf
      have x2 := same_upd (o := HO.tup [V.int C.M.b, .ref f]) nu
      exact ⟨u, _, rfl, SqT.of upd_same, rfl, _, _, rfl, _, _, rfl, rfl, f, rfl, x1.trans x2, nf, x2 _ _ upd_same⟩
    rintro σ H2 ⟨f, rfl, s2, nf, hf2⟩
    refine ⟨fun σ H4 => (∃ p', placeOn C.R at_ t.p = some p' ∧ σ = [some (.ref oa), some y, some (.ref ra), some (.ref bt), some (.ref sa), some (.int (at_ : Nat)), some (.int t.p), some (.int t.s), some (.ref la), some (.int C.M.b), some (.ref f)] ++ List.replicate 9 none) ∧ H4 = H2, ?_, ?_⟩
    · refine ⟨_, rfl, ra, _, 1, _, rfl, rfl, same_tup s2 hRS, rfl, _, rfl, rt, rs, t.p, _, rfl, rfl, same_tup s2 hS1, hp1, _, rfl, ra2, ys2, _, _, rfl, rfl, same_tup s2 hSr, hp2, rfl, _, rfl, ?_⟩
      cases hpl : placeOn C.R at_ t.p with
      | none =>
        refine iteT ⟨_, rfl, q _ f [] s2 nf hf2 ?_⟩
        unfold succOf
        rw [hpl]
        exact .nil
      | some p' => exact iteF ⟨⟨p', rfl, rfl⟩, rfl⟩
    rintro σ H4 ⟨⟨p', hpl, rfl⟩, rfl⟩
    rw [hpl] at hp2
    have kg := near_kin hC (at_ := at_) (t := t)
    have gfew := near_few hC (at_ := at_) ht.few
    refine ⟨fun σ H8 => (∃ l11 l12 l13 l14 l15 l16 l17 l18 l19, σ = [some (.ref oa), some y, some (.ref ra), some (.ref bt), some (.ref sa), some (.int (at_ : Nat)), some (.int t.p), some (.int t.s), some (.ref la), some (.int C.M.b), some (.ref f), l11, l12, l13, l14, l15, l16, l17, l18, l19]) ∧ ∃ us', Same H1 H8 ∧ H8 f = some (.lst us') ∧ RpAll K H8 us' ((succOf C at_ t).map eSg), ?_, ?_⟩
    · refine ⟨_, rfl, _, rfl, _, rfl, .ref oa, d, C.M, t.s, at_, rfl, hx0.go s2, hd, ht.s0, ht.s1, hat, fun H6 zl zs s6 nz hz hZ => ?_⟩
      obtain ⟨Hc, nc, sc, sc2, hcne, tsc⟩ := hide (K := K) (s6 _ _ hf2) (fun _ z => nomatch z) (fun _ _ z => nomatch z)
      have zf : zl ≠ f := (ne_of_none hf2 nz).symm
      have sH : Same H1 Hc := sc2 _ (s2.trans s6) nf
      have hzc : Hc zl = some (.lst zs) := by rw [hcne _ zf]; exact hz
      have hZc := goP tsc hZ
      refine ⟨zl, rfl, ⟨_, SqL.of hz⟩, ?_⟩
      refine for_list (K := K) (a := zl) (xs := zs) (fun j σ H8 => (∃ l11 l12 l13 l14 l15 l16 l17 l18 l19, σ = [some (.ref oa), some y, some (.ref ra), some (.ref bt), some (.ref sa), some (.int (at_ : Nat)), some (.int t.p), some (.int t.s), some (.ref la), some (.int C.M.b), some (.ref f), l11, l12, l13, l14, l15, l16, l17, l18, l19]) ∧ ∃ us', Same Hc H8 ∧ H8 f = some (.lst us') ∧ RpAll K H8 us' ((((chP C.M at_ t.s).take j).filterMap (goOn C at_ t p')).map eSg)) ⟨⟨none, none, none, none, none, none, none, none, none, rfl⟩, [], sc, s6 _ _ hf2, .nil⟩ (fun j σ H8 _ ⟨_, _, s8, _⟩ => SqL.of (s8 _ _ hzc)) ?_ ?_
      · rintro j v σ H8 hv ⟨⟨l11, l12, l13, l14, l15, l16, l17, l18, l19, rfl⟩, us', s8, hr8, hU⟩
        obtain ⟨q1, hq1, rp1⟩ := rpAll_back hZc hv
        obtain ⟨qa, rfl, hSq⟩ := rp1.pair
        have memq : q1 ∈ chP C.M at_ t.s := List.mem_of_getElem? hq1
        have qr := ch_rg hC.m memq
        refine ⟨qa, _, rfl, same_tup s8 hSq, rfl, _, _, rfl, _, _, rfl, rfl, ?_⟩
        refine ⟨fun σ H9 => ∃ g, σ = [some (.ref oa), some y, some (.ref ra), some (.ref bt), some (.ref sa), some (.int (at_ : Nat)), some (.int t.p), some (.int t.s), some (.ref la), some (.int C.M.b), some (.ref f), some (.int q1.1), some (.int q1.2), some (.ref g), l14, l15, l16, l17, l18, l19] ∧ H8 g = none ∧ H9 = upd H8 g (.dK []), ?_, ?_⟩
        · exact fun g ng => ⟨g, rfl, ng, rfl⟩
        rintro σ H9 ⟨g, rfl, ng, rfl⟩
        have sK := sH.trans s8
        refine ⟨fun σ H10 => ∃ l14 l15 l16 l17 l18, σ = [some (.ref oa), some y, some (.ref ra), some (.ref bt), some (.ref sa), some (.int (at_ : Nat)), some (.int t.p), some (.int t.s), some (.ref la), some (.int C.M.b), some (.ref f), some (.int q1.1), some (.int q1.2), some (.ref g), l14, l15, l16, l17, l18, l19] ∧ Same H8 H10 ∧ H10 g = some (.dK (kd (mapD (phi C.M.b q1.1) (nearG C at_ t)))), ?_, ?_⟩
        · refine ⟨_, rfl, la, rfl, ⟨vs, same_tup (sK.trans (same_upd ng)) hS5⟩, ?_⟩
          refine for_tup (xs := vs) (fun i σ H10 => ∃ l14 l15 l16 l17 l18, σ = [some (.ref oa), some y, some (.ref ra), some (.ref bt), some (.ref sa), some (.int (at_ : Nat)), some (.int t.p), some (.int t.s), some (.ref la), some (.int C.M.b), some (.ref f), some (.int q1.1), some (.int q1.2), some (.ref g), l14, l15, l16, l17, l18, l19] ∧ Same H8 H10 ∧ H10 g = some (.dK (kd (mapD (phi C.M.b q1.1) (bestOn (chP C.N at_) (fun v p => p - v) (t.L.take i) []))))) ⟨l14, l15, l16, l17, l18, rfl, same_upd ng, upd_same⟩ (fun i σ H10 _ ⟨_, _, _, _, _, _, s10, _⟩ => same_tup (sK.trans s10) hS5) ?_ ?_
          · rintro i v σ H10 hv ⟨l14, l15, l16, l17, l18, rfl, s10, hg10⟩
            obtain ⟨e1, he, rp⟩ := rpAll_back hA5 hv
            obtain ⟨ea, rfl, hSe⟩ := rp.pair
            have memL : e1 ∈ t.L := List.mem_of_getElem? he
            have rgs := ht.kin.rg e1.1 (List.mem_map_of_mem (f := (·.1)) memL)
            have bde := ht.bd e1 memL
            have hatN : at_ < C.N.z.length := by rw [hC.zz]; exact hat
            have tt := ts_same (K := K) (sK.trans s10)
            refine ⟨ea, _, rfl, tt _ _ hSe, rfl, _, _, rfl, _, _, rfl, rfl, ?_⟩
            refine ⟨_, rfl, _, rfl, _, rfl, y, e, C.N, e1.1, at_, rfl, hy.go (sK.trans s10), he2, rgs.1, rgs.2, hatN, fun H11 zl2 zs2 s11 nz2 hz2 hZ2 => ?_⟩
            obtain ⟨Hd, nd, sd, sd2, hdne, tsd⟩ := hide (K := K) (s11 _ _ hg10) (fun _ z => nomatch z) (fun _ _ z => nomatch z)
            have zg : zl2 ≠ g := (ne_of_none hg10 nz2).symm
            have s8d : Same H8 Hd := sd2 _ (s10.trans s11) ng
            have hzd : Hd zl2 = some (.lst zs2) := by rw [hdne _ zg]; exact hz2
            have hZd := goP tsd hZ2
            refine ⟨zl2, rfl, ⟨_, SqL.of hz2⟩, ?_⟩
            refine for_list (K := K) (a := zl2) (xs := zs2) (fun m σ H12 => ∃ l16 l17 l18, σ = [some (.ref oa), some y, some (.ref ra), some (.ref bt), some (.ref sa), some (.int (at_ : Nat)), some (.int t.p), some (.int t.s), some (.ref la), some (.int C.M.b), some (.ref f), some (.int q1.1), some (.int q1.2), some (.ref g), some (.int e1.1), some (.int e1.2), l16, l17, l18, l19] ∧ Same Hd H12 ∧ H12 g = some (.dK (kd (mapD (phi C.M.b q1.1) (bestIn (fun v p => p - v) e1.2 ((chP C.N at_ e1.1).take m) (bestOn (chP C.N at_) (fun v p => p - v) (t.L.take i) [])))))) ⟨l16, l17, l18, rfl, sd, s11 _ _ hg10⟩ (fun m σ H12 _ ⟨_, _, _, _, s12, _⟩ => SqL.of (s12 _ _ hzd)) ?_ ?_
            · rintro m v σ H12 hv ⟨l16, l17, l18, rfl, s12, hg12⟩
              obtain ⟨q2, hq2, rp2⟩ := rpAll_back hZd hv
              obtain ⟨qb, rfl, hSq2⟩ := rp2.pair
              have qr2 := ch_rg hC.n (List.mem_of_getElem? hq2)
              refine ⟨qb, _, rfl, same_tup s12 hSq2, rfl, _, _, rfl, _, _, rfl, rfl, ?_⟩
              have kin : Kin C.N.C.length (bestIn (fun v p => p - v) e1.2 ((chP C.N at_ e1.1).take m) (bestOn (chP C.N at_) (fun v p => p - v) (t.L.take i) [])) :=
                kin_in (kin_on (kin_nil _) fun kv _ q hq => ⟨(ch_rg hC.n hq).2.2.1, (ch_rg hC.n hq).2.2.2⟩) fun q hq => ⟨(ch_rg hC.n (List.mem_of_mem_take hq)).2.2.1, (ch_rg hC.n (List.mem_of_mem_take hq)).2.2.2⟩
              have kl := kin_size kin hC.n.c3
              rw [kd_len] at kl
              have ndL := kin.nd
              have tk := in_take (f := fun v p => p - v) (v := e1.2) (l := bestOn (chP C.N at_) (fun v p => p - v) (t.L.take i) []) hq2
              generalize bestIn (fun v p => p - v) e1.2 ((chP C.N at_ e1.1).take m) (bestOn (chP C.N at_) (fun v p => p - v) (t.L.take i) []) = L at hg12 kl tk ndL
              have em : C.M.b * (e1.2 + q1.1 - q2.1) = phi C.M.b q1.1 (q2.1 - e1.2) := by
                unfold phi
                congr 1
                omega
              refine ⟨fun σ H13 => σ = [some (.ref oa), some y, some (.ref ra), some (.ref bt), some (.ref sa), some (.int (at_ : Nat)), some (.int t.p), some (.int t.s), some (.ref la), some (.int C.M.b), some (.ref f), some (.int q1.1), some (.int q1.2), some (.ref g), some (.int e1.1), some (.int e1.2), some (.int q2.1), some (.int q2.2), some (.int (C.M.b * (e1.2 + q1.1 - q2.1))), l19] ∧ H13 = H12, ?_, ?_⟩
              · refine ⟨_, rfl, _, rfl, _, rfl, _, _, rfl, rfl, _, rfl, _, _, rfl, rfl, _, _, rfl, rfl, ?_, ?_⟩
                · have p4 : (2 : Nat) ^ 200 + 2 ^ 100 + 2 ^ 100 < 2 ^ 202 := by decide +kernel
                  exact wide_mul (a := 4) (b := 202) bb (by omega) (by decide) (by decide) (by decide)
                · exact ⟨rfl, rfl⟩
              rintro σ H13 ⟨rfl, rfl⟩
              rw [em]
              refine ⟨_, rfl, _, rfl, g, rfl, ?_, _, rfl, _, rfl, _, kd_get (.inl hg12), (by show 2 ≤ sizeLine; decide), fun N nN => ?_⟩
              · exact .inl ⟨_, .inl hg12⟩
              rw [getI_mapD]
              have eg : (((getI L q2.2).map (phi C.M.b q1.1)).map V.int).getD (.int (phi C.M.b q1.1 (q2.1 - e1.2))) = .int (phi C.M.b q1.1 ((getI L q2.2).getD (q2.1 - e1.2))) := by
                cases getI L q2.2 <;> rfl
              rw [eg]
              have sN := same_upd (o := HO.lst [.int (phi C.M.b q1.1 (q2.1 - e1.2)), .int (phi C.M.b q1.1 ((getI L q2.2).getD (q2.1 - e1.2)))]) nN
              refine ⟨N, [phi C.M.b q1.1 (q2.1 - e1.2), phi C.M.b q1.1 ((getI L q2.2).getD (q2.1 - e1.2))], rfl, SqL.of upd_same, (by show 0 < 2; decide), fun mx hm le => ?_⟩
              have emx : mx = phi C.M.b q1.1 (max (q2.1 - e1.2) ((getI L q2.2).getD (q2.1 - e1.2))) := by
                rw [← phi_min b2]
                have g1 := le _ (List.mem_cons_self)
                have g2 := le _ (List.mem_cons_of_mem _ (List.mem_singleton.mpr rfl))
                rcases List.mem_cons.mp hm with e | e
                · omega
                · have := List.mem_singleton.mp e
                  omega
              refine ⟨_, rfl, _, rfl, g, _, rfl, DPut.k (k := Sum.inl q2.2) (sN _ _ hg12) (by rw [kd_len, len_mapD]; exact kl), _, _, _, rfl, same_put (s12.trans sN) nd, ?_⟩
              rw [upd_same, kd_put, emx, putI_mapD, up_put ndL, tk]
            · rintro σ H12 ⟨l16, l17, l18, rfl, s12, hg12⟩
              refine ⟨_, _, _, _, _, rfl, s8d.trans s12, ?_⟩
              rw [hg12, show zs2.length = (chP C.N at_ e1.1).length from by rw [hZ2.len, List.length_map], List.take_length, on_take he]
          · rintro σ H10 ⟨l14, l15, l16, l17, l18, rfl, s10, hg10⟩
            refine ⟨_, _, _, _, _, rfl, s10, ?_⟩
            rw [hg10, show vs.length = t.L.length from by rw [hA5.len, List.length_map], List.take_length]
            rfl
        rintro σ H10 ⟨l14, l15, l16, l17, l18, rfl, s10, hg10⟩
        have sE : Same H1 H10 := sK.trans s10
        have hr10 := s10 _ _ hr8
        have fg : f ≠ g := ne_of_none hr8 ng
        have bnd : ∀ k v : Int, getI (nearG C at_ t) k = some v → (phi C.M.b q1.1 v).natAbs < 2 ^ 206 := fun k v hv => by
          have bv := gain_bd hC.n ht.bd hv
          have p4 : (2 : Nat) ^ 201 + 2 ^ 100 < 2 ^ 202 := by decide +kernel
          unfold phi
          exact wide_lt (a := 4) (b := 202) bb (show (q1.1 - v).natAbs < 2 ^ 202 by omega)
        have dget : ∀ {H' : Hp} {k v : Int}, Rd H' g (.dK (kd (mapD (phi C.M.b q1.1) (nearG C at_ t)))) → getI (nearG C at_ t) k = some v → DGet H' g (.int k) (some (.int (phi C.M.b q1.1 v))) := fun {H' k v} h hv => by
          have := kd_get (d := mapD (phi C.M.b q1.1) (nearG C at_ t)) (k := k) h
          rw [getI_mapD, hv] at this
          exact this
        have b4 : (C.M.b - 1).natAbs < 2 ^ 4 := by omega
        have r9 : ∀ {H2 : Hp}, Same H8 H2 → RpAll K H2 us' ((((chP C.M at_ t.s).take j).filterMap (goOn C at_ t p')).map eSg) := fun {H2} s2 => rpAll_ts (ts_same s2) hU (tOs_map enc_sg.tO _)
        have step : ((chP C.M at_ t.s).take (j + 1)).filterMap (goOn C at_ t p') = ((chP C.M at_ t.s).take j).filterMap (goOn C at_ t p') ++ (goOn C at_ t p' q1).toList := by
          rw [List.take_succ, hq1, List.filterMap_append]
          cases hh : goOn C at_ t p' q1 <;> simp [hh]
        have lus : us'.length ≤ 3 := by
          have l1 := hU.len
          rw [List.length_map] at l1
          have l2 := List.length_filterMap_le (goOn C at_ t p') ((chP C.M at_ t.s).take j)
          have l3 := List.length_take_le' j (chP C.M at_ t.s)
          obtain ⟨cs, hcs, ps, hps, _, e2⟩ := ch_mem hC.m memq
          have l4 := (hC.m.ch cs hcs ps hps).2
          rw [e2] at l1 l2 l3
          omega
        -- vain
        refine ⟨g, .dK (kd (mapD (phi C.M.b q1.1) (nearG C at_ t))), hg10, trivial, fun od => ?_⟩
        refine ⟨_, rfl, g, od, rfl, .inl ⟨_, upd_same, fun D nD => ?_⟩⟩
        have Dg : D ≠ g := fun z => by rw [z, upd_same] at nD; cases nD
        have nD10 : H10 D = none := by rw [upd_ne Dg] at nD; exact nD
        refine lc_it walk_keys (fun i H' => Same (upd H10 g (.frz od (.dK (kd (mapD (phi C.M.b q1.1) (nearG C at_ t)))))) H' ∧ H' D = some (.lst ((((nearG C at_ t).take i).map fun kv => vainB C.M.b C.below (phi C.M.b q1.1 kv.2)).map V.bl))) ⟨same_upd nD, upd_same⟩ (fun i H' _ h => h.1 _ _ upd_same) ?_ ?_
        · rintro i u H' H2' hi ⟨sm, hL⟩ ⟨rfl, kk, vv, hkv, rfl⟩
          obtain ⟨st, val, hd9, rfl, rfl⟩ := kd_at hkv
          obtain ⟨kv, hkv2, e9⟩ : ∃ kv, (nearG C at_ t)[i]? = some kv ∧ (st, val) = (kv.1, phi C.M.b q1.1 kv.2) := by
            unfold mapD at hd9
            rw [List.getElem?_map] at hd9
            obtain ⟨kv, h1, h2⟩ := Option.map_eq_some_iff.mp hd9
            exact ⟨kv, h1, h2.symm⟩
          have e91 : st = kv.1 := congrArg Prod.fst e9
          have e92 : val = phi C.M.b q1.1 kv.2 := congrArg Prod.snd e9
          subst e91 e92
          have gv : getI (nearG C at_ t) kv.1 = some kv.2 := mem_getI kg.nd (List.mem_of_getElem? hkv2)
          have be := bnd _ _ gv
          have tbs : SqT K _ bt [.int C.over, .int C.below] := same_tup sm (ts_upd hg10 (fun _ z => nomatch z) (fun _ _ z => nomatch z) _ _ (same_tup sE hbt))
          refine ⟨rfl, ?_⟩
          refine ⟨_, rfl, _, rfl, g, .int _, rfl, dget (.inr ⟨od, sm _ _ upd_same⟩) gv, _, rfl, _, rfl, _, _, rfl, rfl, _, _, rfl, rfl, ?_, _, rfl, bt, _, 1, _, rfl, rfl, tbs, rfl, _, rfl, _, _, rfl, rfl, ?_, _, _, rfl, rfl, _, hL, ?_, same_new sm nD, ?_⟩
          · exact wide_mul (a := 206) (b := 4) (by omega) b4 (by decide) (by decide) (by decide)
          · have p6 : (2 : Nat) ^ 100 * 2 < 2 ^ 102 := by decide +kernel
            exact wide_mul (a := 102) (b := 4) (by omega) bb (by decide) (by decide) (by decide)
          · rw [List.length_map, List.length_map]
            have := List.length_take_le' i (nearG C at_ t)
            exact Nat.lt_of_le_of_lt (show _ ≤ 60 by omega) (by decide)
          · rw [upd_same, List.take_succ, hkv2]
            simp [vainB]
        · rintro H' ⟨sm, hL⟩
          rw [kd_len, len_mapD, List.take_length] at hL
          have back : Same H10 (upd H' g (.dK (kd (mapD (phi C.M.b q1.1) (nearG C at_ t))))) := fun b o eb => by
            by_cases z : b = g
            · rw [z, upd_same, ← hg10, ← z, eb]
            · rw [upd_ne z]
              exact sm b o (by rw [upd_ne z]; exact eb)
          refine ⟨sm _ _ upd_same, D, _, rfl, .inl (SqL.of (by rw [upd_ne Dg]; exact hL)), rfl, flat_bools _, _, rfl, ?_⟩
          have hgB : (upd H' g (.dK (kd (mapD (phi C.M.b q1.1) (nearG C at_ t))))) g = some (.dK (kd (mapD (phi C.M.b q1.1) (nearG C at_ t)))) := upd_same
          generalize upd H' g (.dK (kd (mapD (phi C.M.b q1.1) (nearG C at_ t)))) = HB at back hgB ⊢
          have anyE : inV (V.bl true) (((nearG C at_ t).map fun kv => vainB C.M.b C.below (phi C.M.b q1.1 kv.2)).map V.bl) = (aheadOf C.M.b q1.1 (nearG C at_ t)).any fun e => vainB C.M.b C.below e.2 := by
            rw [in_bools, List.any_map, ← vain_perm kg.nd]
            rfl
          rw [anyE]
          cases hva : (aheadOf C.M.b q1.1 (nearG C at_ t)).any fun e => vainB C.M.b C.below e.2 with
          | true =>
            refine iteF ⟨⟨_, _, _, _, _, _, _, _, _, rfl⟩, us', (s8.trans s10).trans back, back _ _ hr10, ?_⟩
            have gn : goOn C at_ t p' q1 = none := by
              unfold goOn
              rw [hva]
              rfl
            rw [step, gn, Option.toList_none, List.append_nil]
            exact r9 (s10.trans back)
          | false =>
            refine iteT ?_
            refine ⟨fun σ H14 => ∃ D2 us3, σ = [some (.ref oa), some y, some (.ref ra), some (.ref bt), some (.ref sa), some (.int (at_ : Nat)), some (.int t.p), some (.int t.s), some (.ref la), some (.int C.M.b), some (.ref f), some (.int q1.1), some (.int q1.2), some (.ref g), l14, l15, l16, l17, l18, some (.ref D2)] ∧ Same HB H14 ∧ HB D2 = none ∧ H14 D2 = some (.lst us3) ∧ RpAll K H14 us3 (((aheadOf C.M.b q1.1 (nearG C at_ t)).filter fun e => keepB C.M.b C.over e.2).map eP), ?_, ?_⟩
            · refine ⟨_, rfl, g, _, keysI (nearG C at_ t), rfl, .inl hgB, ?_, ?_, fun ys p perm srt np => ?_⟩
              · rw [kd_keys, keys_mapD]
              · unfold keysI
                rw [List.length_map]
                omega
              obtain rfl := sort_eq perm srt
              refine ⟨p, rfl, ⟨_, SqL.of upd_same⟩, fun D2 nD2 => ?_⟩
              have sp := same_upd (o := HO.lst ((sortI (keysI (nearG C at_ t))).map V.int)) np
              have sD := sp.trans (same_upd (o := HO.lst []) nD2)
              have nDB : HB D2 = none := sp.free nD2
              refine lc_lstO (xs := (sortI (keysI (nearG C at_ t))).map V.int) (fun i H' => Same HB H' ∧ H' p = some (.lst ((sortI (keysI (nearG C at_ t))).map V.int)) ∧ ∃ us2, H' D2 = some (.lst us2) ∧ RpAll K H' us2 ((((aheadOf C.M.b q1.1 (nearG C at_ t)).take i).filter fun e => keepB C.M.b C.over e.2).map eP)) ⟨sD, same_upd nD2 _ _ upd_same, [], upd_same, .nil⟩ (fun i H' h => SqL.of h.2.1) ?_ ?_
              · rintro i u H' hu ⟨s9, hp9, us2, hD9, hU9⟩
                obtain ⟨to, hto, rfl⟩ : ∃ to, (sortI (keysI (nearG C at_ t)))[i]? = some to ∧ u = .int to := by
                  rw [List.getElem?_map] at hu
                  obtain ⟨to, h1, h2⟩ := Option.map_eq_some_iff.mp hu
                  exact ⟨to, h1, h2.symm⟩
                have kto : to ∈ keysI (nearG C at_ t) := (sort_perm _).mem_iff.mp (List.mem_of_getElem? hto)
                obtain ⟨v, hv⟩ := Option.isSome_iff_exists.mp (getI_mem.mpr kto)
                have be := bnd _ _ hv
                have hea : (aheadOf C.M.b q1.1 (nearG C at_ t))[i]? = some (to, phi C.M.b q1.1 v) := by
                  unfold aheadOf
                  rw [List.getElem?_map, hto, Option.map_some, hv, Option.getD_some]
                  rfl
                have stepF : ((aheadOf C.M.b q1.1 (nearG C at_ t)).take (i + 1)).filter (fun e => keepB C.M.b C.over e.2) = ((aheadOf C.M.b q1.1 (nearG C at_ t)).take i).filter (fun e => keepB C.M.b C.over e.2) ++ (if keepB C.M.b C.over (phi C.M.b q1.1 v) = true then [(to, phi C.M.b q1.1 v)] else []) := by
                  rw [List.take_succ, hea, List.filter_append]
                  congr 1
                  show List.filter (fun e : Int × Int => keepB C.M.b C.over e.2) [_] = _
                  rw [List.filter_cons]
                  rfl
                have hg9 := s9 _ _ hgB
                have tbs : SqT K H' bt [.int C.over, .int C.below] := same_tup ((sE.trans back).trans s9) hbt
                refine ⟨rfl, ?_⟩
                refine ⟨_, rfl, _, rfl, g, .int _, rfl, dget (.inl hg9) hv, _, rfl, _, _, rfl, rfl, _, _, rfl, rfl, ?_, _, rfl, bt, _, 0, _, rfl, rfl, tbs, rfl, _, rfl, _, _, rfl, rfl, ?_, _, _, rfl, rfl, _, rfl, ?_⟩
                · exact wide_mul (a := 206) (b := 4) be b4 (by decide) (by decide) (by decide)
                · have p6 : (2 : Nat) ^ 100 * 2 < 2 ^ 102 := by decide +kernel
                  exact wide_mul (a := 102) (b := 4) (by omega) bb (by decide) (by decide) (by decide)
                show if keepB C.M.b C.over (phi C.M.b q1.1 v) = true then _ else _
                cases hk : keepB C.M.b C.over (phi C.M.b q1.1 v) with
                | true =>
                  refine iteT ⟨_, rfl, _, rfl, _, rfl, g, .int _, rfl, dget (.inl hg9) hv, (by show 2 ≤ sizeLine; decide), fun T2 nT => ?_⟩
                  have sT := same_upd (o := HO.tup [V.int to, V.int (phi C.M.b q1.1 v)]) nT
                  have Dp : D2 ≠ p := fun z => by rw [z, upd_same] at nD2; cases nD2
                  have hDT := sT _ _ hD9
                  refine ⟨us2, hDT, ?_, same_new (s9.trans sT) nDB, by rw [upd_ne Dp.symm]; exact sT _ _ hp9, us2 ++ [.ref T2], upd_same, ?_⟩
                  · have l1 := hU9.len
                    rw [List.length_map] at l1
                    have l2 := List.length_filter_le (fun e : Int × Int => keepB C.M.b C.over e.2) ((aheadOf C.M.b q1.1 (nearG C at_ t)).take i)
                    have l3 := List.length_take_le' i (aheadOf C.M.b q1.1 (nearG C at_ t))
                    rw [ahead_len] at l3
                    exact Nat.lt_of_le_of_lt (show _ ≤ 60 by omega) (by decide)
                  · have bt2 : TStay K (upd H' T2 (HO.tup [V.int to, V.int (phi C.M.b q1.1 v)])) (upd (upd H' T2 (HO.tup [V.int to, V.int (phi C.M.b q1.1 v)])) D2 (HO.lst (us2 ++ [V.ref T2]))) := ts_lst hDT
                    rw [stepF, if_pos hk, map_snoc]
                    exact rp_snoc (goP ((ts_same sT).trans bt2) hU9) (.tup (bt2 _ _ (SqT.of upd_same)) (.cons (.int _) (.cons (.int _) .nil)))
                | false =>
                  refine iteF ⟨s9, hp9, us2, hD9, ?_⟩
                  rw [stepF, if_neg (by rw [hk]; decide), List.append_nil]
                  exact hU9
              · rintro H' ⟨s9, hp9, us2, hD9, hU9⟩
                refine ⟨D2, us2, rfl, s9, nDB, hD9, ?_⟩
                have : ((sortI (keysI (nearG C at_ t))).map V.int).length = (aheadOf C.M.b q1.1 (nearG C at_ t)).length := by
                  unfold aheadOf
                  rw [List.length_map, List.length_map]
                rw [this, List.take_length] at hU9
                exact hU9
            rintro σ H14 ⟨D2, us3, rfl, s14, nD2, hD2, hU3⟩
            have sA : Same H1 H14 := (sE.trans back).trans s14
            have hf14 := s14 _ _ (back _ _ hr10)
            refine ⟨_, rfl, .inl ⟨rfl, _, SqL.of hf14⟩, _, rfl, ra, _, 1, _, rfl, rfl, same_tup sA hRS, rfl, _, rfl, rt, rs, t.p, _, rfl, rfl, same_tup sA hS1, hp1, _, rfl, ra2, ys2, _, _, rfl, rfl, same_tup sA hSr, hp2, _, rfl, _, rfl, D2, us3, rfl, .inl ⟨SqL.of hD2, fun t3 ht3 => ⟨(by show 3 ≤ sizeLine; decide), fun t4 ht4 => ?_⟩⟩⟩
            have x3 := same_upd (o := HO.tup us3) ht3
            have x4 := same_upd (o := HO.tup [V.int p', V.int q1.2, V.ref t3]) ht4
            have x34 := (s14.trans x3).trans x4
            have hr4 := x34 _ _ (back _ _ hr10)
            refine ⟨f, _, _, rfl, rfl, hr4, Nat.lt_of_le_of_lt lus (by decide), ?_⟩
            refine ⟨⟨_, _, _, _, _, _, _, _, _, rfl⟩, us' ++ [.ref t4], ?_, upd_same, ?_⟩
            · exact same_new (((s8.trans s10).trans back).trans x34) nc
            · have bt2 : TStay K (upd (upd H14 t3 (HO.tup us3)) t4 (HO.tup [V.int p', V.int q1.2, V.ref t3])) (upd (upd (upd H14 t3 (HO.tup us3)) t4 (HO.tup [V.int p', V.int q1.2, V.ref t3])) f (HO.lst (us' ++ [V.ref t4]))) := ts_lst hr4
              have gs : goOn C at_ t p' q1 = some ⟨p', q1.2, (aheadOf C.M.b q1.1 (nearG C at_ t)).filter fun e => keepB C.M.b C.over e.2⟩ := by
                unfold goOn
                rw [hva]
                rfl
              rw [step, gs, Option.toList_some, map_snoc]
              refine rp_snoc (rpAll_ts bt2 (r9 ((s10.trans back).trans x34)) (tOs_map enc_sg.tO _)) (.tup (bt2 _ _ (SqT.of upd_same)) (.cons (.int _) (.cons (.int _) (.cons (.tup (bt2 _ _ (SqT.of (x4 _ _ upd_same))) (goP (((ts_same x3).trans (ts_same x4)).trans bt2) hU3)) .nil))))
      · rintro σ H8 ⟨⟨l11, l12, l13, l14, l15, l16, l17, l18, l19, rfl⟩, us', s8, hr8, hU⟩
        refine ⟨⟨_, _, _, _, _, _, _, _, _, rfl⟩, us', sH.trans s8, hr8, ?_⟩
        rw [show zs.length = (chP C.M at_ t.s).length from by rw [hZ.len, List.length_map], List.take_length] at hU
        unfold succOf
        rw [hpl]
        exact hU
    rintro σ H8 ⟨⟨l11, l12, l13, l14, l15, l16, l17, l18, l19, rfl⟩, us', s8, hr8, hU⟩
    exact ⟨_, rfl, q H8 f us' s8 nf hr8 hU⟩
end
end My
/-! ### how many standings there are -/
namespace My
open PySem PySem.Spec PyProof.Rows L2 PySem.Builtin.Str
theorem len_of_sub {α : Type} [DecidableEq α] : ∀ {l m : List α}, l.Nodup → (∀ x ∈ l, x ∈ m) → l.length ≤ m.length
  | [], _, _, _ => Nat.zero_le _
  | x :: l, m, nd, h => by
    have nd2 := List.nodup_cons.mp nd
    have hx := h x (.head _)
    have ih := len_of_sub (l := l) (m := m.erase x) nd2.2 fun y hy => (List.mem_erase_of_ne (fun z => nd2.1 (by rw [← z]; exact hy))).mpr (h y (.tail _ hy))
    rw [List.length_erase_of_mem hx] at ih
    have := List.length_pos_of_mem hx
    rw [List.length_cons]
    omega
def allL (vs : List Int) : Nat → Nat → List (List (Int × Int))
  | _, 0 => [[]]
  | k, c + 1 => allL vs (k + 1) c ++ vs.flatMap fun v => (allL vs (k + 1) c).map fun L => ((k : Int), v) :: L
theorem flat_eq {α β : Type} {f : α → List β} {n : Nat} : ∀ (l : List α), (∀ x ∈ l, (f x).length = n) → (l.flatMap f).length = l.length * n
  | [], _ => by simp
  | x :: l, h => by
    rw [List.flatMap_cons, List.length_append, h x (.head _), flat_eq l fun y hy => h y (.tail _ hy), List.length_cons, Nat.succ_mul]
    exact Nat.add_comm _ _
theorem allL_len (vs : List Int) : ∀ (c k : Nat), (allL vs k c).length = (vs.length + 1) ^ c
  | 0, _ => rfl
  | c + 1, k => by
    rw [allL, List.length_append, flat_eq (n := (vs.length + 1) ^ c) vs fun v _ => by rw [List.length_map, allL_len vs c (k + 1)], allL_len vs c (k + 1), Nat.pow_succ, Nat.mul_add, Nat.mul_one, Nat.mul_comm vs.length]
    exact Nat.add_comm _ _
theorem allL_mem {vs : List Int} : ∀ (c k : Nat) (L : List (Int × Int)), (L.Pairwise fun a b => a.1 < b.1) → (∀ e ∈ L, (k : Int) ≤ e.1 ∧ e.1 < (k + c : Nat) ∧ e.2 ∈ vs) → L ∈ allL vs k c
  | 0, k, L, _, h => by
    cases L with
    | nil => exact .head _
    | cons e L =>
      have := h e (.head _)
      omega
  | c + 1, k, L, asc, h => by
    rw [allL, List.mem_append]
    by_cases z : ∃ e L', L = e :: L' ∧ e.1 = (k : Int)
    · obtain ⟨⟨e1, e2⟩, L', rfl, ek⟩ := z
      obtain rfl : e1 = (k : Int) := ek
      have p := List.pairwise_cons.mp asc
      refine .inr (List.mem_flatMap.mpr ⟨e2, (h _ (.head _)).2.2, List.mem_map.mpr ⟨L', allL_mem c (k + 1) L' p.2 fun e he => ?_, rfl⟩⟩)
      have h1 := p.1 e he
      have h2 := h e (.tail _ he)
      exact ⟨by omega, by omega, h2.2.2⟩
    · refine .inl (allL_mem c (k + 1) L asc fun e he => ?_)
      have h2 := h e he
      refine ⟨?_, by omega, h2.2.2⟩
      cases L with
      | nil => cases he
      | cons d L' =>
        have d1 : d.1 ≠ (k : Int) := fun y => z ⟨d, L', rfl, y⟩
        have d2 := h d (.head _)
        rcases List.mem_cons.mp he with rfl | h3
        · omega
        · have := (List.pairwise_cons.mp asc).1 e h3
          omega
def valsC (C : Ct) : List Int := (List.range (C.over + C.below).toNat).map fun (i : Nat) => C.M.b * ((i : Int) + 1 - C.below)
def boxC (C : Ct) : List Sg := (List.range C.R.length).flatMap fun (p : Nat) => (List.range C.M.C.length).flatMap fun (s : Nat) => (allL (valsC C) 0 C.N.C.length).map fun L => ⟨(p : Int), (s : Int), L⟩
def bndC (C : Ct) : Nat := C.R.length * (C.M.C.length * ((C.over + C.below).toNat + 1) ^ C.N.C.length) + 1
theorem boxC_len (C : Ct) : (FIRSTg :: boxC C).length = bndC C := by
  unfold bndC boxC
  rw [List.length_cons, flat_eq (n := C.M.C.length * ((C.over + C.below).toNat + 1) ^ C.N.C.length), List.length_range]
  intro p _
  rw [flat_eq (n := ((C.over + C.below).toNat + 1) ^ C.N.C.length), List.length_range]
  intro s _
  rw [List.length_map, allL_len]
  unfold valsC
  rw [List.length_map, List.length_range]
theorem vals_mem {C : Ct} (h : Cok C) {j : Int} (hv : vainB C.M.b C.below (C.M.b * j) = false) (hk : keepB C.M.b C.over (C.M.b * j) = true) : C.M.b * j ∈ valsC C := by
  have b2 := h.m.b2
  have o := over_rg h
  unfold vainB at hv
  unfold keepB at hk
  have h1 := of_decide_eq_false hv
  have h2 := of_decide_eq_true hk
  have e1 : C.M.b * j * (C.M.b - 1) ≤ C.M.b * C.over := by rw [Int.mul_comm C.M.b C.over]; exact h2
  rw [Int.mul_assoc] at e1
  have e1 := Int.le_of_mul_le_mul_left e1 (by omega)
  have e2 : C.M.b * (-j * (C.M.b - 1)) < C.M.b * C.below := by
    have : -(C.M.b * j) * (C.M.b - 1) = C.M.b * (-j * (C.M.b - 1)) := by rw [Int.neg_mul_eq_mul_neg, Int.mul_assoc]
    rw [Int.mul_comm C.M.b C.below, ← this]
    omega
  have e2 := Int.lt_of_mul_lt_mul_left e2 (by omega)
  have up : j ≤ C.over := by
    rcases Int.le_total 0 j with z | z
    · have := mul_bound b2 z
      omega
    · exact Int.le_trans z o.1
  have lo : -j < C.below := by
    rcases Int.lt_or_le 0 j with z | z
    · omega
    · have := mul_bound b2 (show 0 ≤ -j by omega)
      omega
  unfold valsC
  refine List.mem_map.mpr ⟨(j + C.below - 1).toNat, List.mem_range.mpr (by omega), ?_⟩
  congr 1
  omega
theorem go_box {C : Ct} (h : Cok C) {at_ : Nat} {t u : Sg} {p' : Int} {q : Int × Int} (e : goOn C at_ t p' q = some u) : ∀ x ∈ u.L, x.2 ∈ valsC C := by
  unfold goOn at e
  split at e
  · cases e
  · rename_i nv
    cases e
    intro x hx
    obtain ⟨h1, h2⟩ := List.mem_filter.mp hx
    have hv : vainB C.M.b C.below x.2 = false := by
      rcases SrtO.bcase (vainB C.M.b C.below x.2) with z | z
      · exact absurd (List.any_eq_true.mpr ⟨x, h1, z⟩) nv
      · exact z
    unfold aheadOf at h1
    obtain ⟨k, _, rfl⟩ := List.mem_map.mp h1
    exact vals_mem h hv h2
theorem succ_box {C : Ct} (h : Cok C) {at_ : Nat} {t u : Sg} (ht : t.L.length ≤ 60) (hu : u ∈ succOf C at_ t) : u ∈ boxC C := by
  have ok := succ_sok h ht hu
  have r1 := h.r1
  have c1 := h.m.c1
  unfold succOf at hu
  split at hu
  · cases hu
  · rename_i p' e
    obtain ⟨q, hq, e2⟩ := List.mem_filterMap.mp hu
    have bx := go_box h e2
    unfold boxC
    have p0 := ok.p0
    have p1 := ok.p1
    have s0 := ok.s0
    have s1 := ok.s1
    have g1 : u.p.toNat < C.R.length := by omega
    have g2 : u.s.toNat < C.M.C.length := by omega
    refine List.mem_flatMap.mpr ⟨u.p.toNat, List.mem_range.mpr g1, List.mem_flatMap.mpr ⟨u.s.toNat, List.mem_range.mpr g2, List.mem_map.mpr ⟨u.L, allL_mem _ _ _ ok.asc fun x hx => ?_, ?_⟩⟩⟩
    · have := ok.kin.rg x.1 (List.mem_map_of_mem (f := (·.1)) hx)
      exact ⟨by omega, by omega, bx x hx⟩
    · obtain ⟨p, s, L⟩ := u
      simp only at p0 s0 ⊢
      congr 1 <;> omega
theorem seen_box {C : Ct} (h : Cok C) : ∀ n, ∀ t ∈ seenN C n, t ∈ FIRSTg :: boxC C
  | 0, t, ht => by
    obtain rfl : t = FIRSTg := List.mem_singleton.mp ht
    exact .head _
  | n + 1, t, ht => by
    rw [seen_succ] at ht
    rcases List.mem_append.mp ht with h1 | h1
    · exact seen_box h n t h1
    · rw [lvl_succ, level_has] at h1
      obtain ⟨_, w, h2⟩ := h1
      obtain ⟨q, hq, i, _, hu, _⟩ := mem_moves.mp h2
      exact .tail _ (succ_box h (lvl_ok h n q hq).1.few hu)
theorem tot_le {C : Ct} (h : Cok C) (n : Nat) : tot C n ≤ bndC C := by
  rw [← boxC_len]
  exact len_of_sub (seen_nodup C n) (seen_box h n)
end My
/-! ### the law's levels -/
namespace My
open PySem PySem.Spec PyProof.Rows L2 PySem.Builtin.Str
abbrev sXAfter : Stmt := topS 68
theorem scXAfter : FnScope ["one", "other", "rule", "bounds", "some", "found", "standing", "at", "more"] ["one", "other", "rule", "bounds", "some"] (defScope sXAfter) := ⟨rfl, rfl, rfl, by decide +kernel, rfl, by decide +kernel, by decide +kernel⟩
structure LaTxt (K : PySem.W.Frag) (mg : Str → Option Value) (x1 x2 x3 x4 x5 : Addr) (y1 y2 y3 y4 y5 : FuncData) : Prop where
  go : GoTxt K mg x1 x2 x3 x4 y1 y2 y3 y4
  list : mg "list" = none
  FXAfter : Fun K "_law_x_after" "_law_x_after" sXAfter x5 y5
  bXAfter : Binds K y5 ["one", "other", "rule", "bounds", "some"] []
  gXAfter : mg "_law_x_after" = some (.ref x5)
def addT (l : List Sg) (t : Sg) : List Sg := if t ∈ l then l else l ++ [t]
def addTs (l ms : List Sg) : List Sg := ms.foldl addT l
theorem addT_mem {l : List Sg} {t u : Sg} : u ∈ addT l t ↔ u ∈ l ∨ u = t := by
  unfold addT
  split
  · rename_i h
    exact ⟨.inl, fun z => z.elim id fun e => by rw [e]; exact h⟩
  · rw [List.mem_append, List.mem_singleton]
theorem addTs_mem : ∀ {ms l : List Sg} {u : Sg}, u ∈ addTs l ms ↔ u ∈ l ∨ u ∈ ms
  | [], l, u => ⟨.inl, fun z => z.elim id fun e => nomatch e⟩
  | t :: ms, l, u => by
    show u ∈ addTs (addT l t) ms ↔ _
    rw [addTs_mem, addT_mem, List.mem_cons, or_assoc]
theorem addT_nodup {l : List Sg} {t : Sg} (nd : l.Nodup) : (addT l t).Nodup := by
  unfold addT
  split
  · exact nd
  · rename_i h
    rw [List.nodup_append]
    exact ⟨nd, (by simp), fun a ha b hb => by
      rw [List.mem_singleton.mp hb]
      rintro rfl
      exact h ha⟩
theorem addTs_nodup : ∀ {ms l : List Sg}, l.Nodup → (addTs l ms).Nodup
  | [], _, nd => nd
  | t :: ms, l, nd => addTs_nodup (ms := ms) (l := addT l t) (addT_nodup nd)
theorem addT_len (l : List Sg) (t : Sg) : (addT l t).length ≤ l.length + 1 := by
  unfold addT
  split
  · exact Nat.le_succ _
  · rw [List.length_append]
    exact Nat.le_refl _
theorem addTs_len : ∀ {ms l : List Sg}, (addTs l ms).length ≤ l.length + ms.length
  | [], _ => Nat.le_refl _
  | t :: ms, l => by
    have h1 := addTs_len (ms := ms) (l := addT l t)
    have h2 := addT_len l t
    show (addTs (addT l t) ms).length ≤ _
    rw [List.length_cons]
    omega
theorem addTs_app {a b l : List Sg} : addTs l (a ++ b) = addTs (addTs l a) b := List.foldl_append
theorem vT_add (l : List Sg) (t : Sg) : putA (vT l) t (.bl true) = vT (addT l t) := by
  unfold putA addT
  rw [vT_get]
  by_cases h : t ∈ l
  · rw [decide_eq_true h, if_pos rfl, if_pos h]
    unfold vT
    rw [List.map_map]
    refine List.map_congr_left fun u _ => ?_
    show (if u = t then (u, V.bl true) else (u, V.bl true)) = _
    split <;> rfl
  · rw [decide_eq_false h, if_neg h]
    unfold vT
    rw [List.map_append]
    rfl
/-- the successors at all letters -/
def onAll (C : Ct) (t : Sg) : List Sg := (List.range C.M.z.length).flatMap fun i => succOf C i t
def sucs (C : Ct) (ts : List Sg) : List Sg := addTs [] (ts.flatMap (onAll C))
theorem mem_sucs {C : Ct} {ts : List Sg} {u : Sg} : u ∈ sucs C ts ↔ ∃ t ∈ ts, ∃ i, i < C.M.z.length ∧ u ∈ succOf C i t := by
  unfold sucs
  rw [addTs_mem]
  constructor
  · rintro (h | h)
    · cases h
    · obtain ⟨t, ht, h⟩ := List.mem_flatMap.mp h
      obtain ⟨i, hi, h⟩ := List.mem_flatMap.mp h
      exact ⟨t, ht, i, List.mem_range.mp hi, h⟩
  · rintro ⟨t, ht, i, hi, h⟩
    exact .inr (List.mem_flatMap.mpr ⟨t, ht, List.mem_flatMap.mpr ⟨i, List.mem_range.mpr hi, h⟩⟩)
theorem sucs_nodup (C : Ct) (ts : List Sg) : (sucs C ts).Nodup := addTs_nodup List.nodup_nil
theorem onAll_len {C : Ct} (h : Cok C) (t : Sg) : (onAll C t).length ≤ 9 := by
  have h3 := (ltr_pos h.m.ltr).2
  have := flat_len (g := fun i => succOf C i t) (n := 3) (List.range C.M.z.length) fun i _ => succ_len h
  rw [List.length_range] at this
  unfold onAll
  omega
theorem sucs_len {C : Ct} (h : Cok C) (ts : List Sg) : (sucs C ts).length ≤ 9 * ts.length := by
  have h1 := addTs_len (ms := ts.flatMap (onAll C)) (l := [])
  have h2 := flat_len (g := onAll C) (n := 9) ts fun t _ => onAll_len h t
  rw [List.length_nil] at h1
  unfold sucs
  omega
def spXAfter (K : PySem.W.Frag) : Sp := fun vs H Q _ => ∃ (x y r : V) (d e : PyData) (C : Ct) (bt l : Addr) (us : List V) (ts : List Sg), vs = [x, y, r, .ref bt, .ref l] ∧ Rp K H x d ∧ Side d C.M ∧ Rp K H y e ∧ Side e C.N ∧ Cok C ∧ Rp K H r (.tuple [.str C.M.z, .tuple (rowsD C.R)]) ∧ SqT K H bt [.int C.over, .int C.below] ∧ H l = some (.lst us) ∧ RpAll K H us (ts.map eSg) ∧ (∀ t ∈ ts, Sok C t) ∧ ts.length ≤ 1000 ∧
  ∀ H' p vs, Same H H' → H p = none → H' p = some (.lst vs) → RpAll K H' vs ((sortE eSg (sucs C ts)).map eSg) → Q (.ref p) H'
section
variable {P : Program} {w : World} {K : PySem.W.Frag} {mg : Str → Option Value} {base : Heap} {x1 x2 x3 x4 x5 : Addr} {y1 y2 y3 y4 y5 : FuncData}
theorem ok_xAfter (T : LaTxt K mg x1 x2 x3 x4 x5 y1 y2 y3 y4 y5) {k : Nat} : FnOk P w K mg base CX0 (k + 3) x5 y5 ["one", "other", "rule", "bounds", "some"] (spXAfter K) := by
  have GG : FnOk P w K mg base CX0 (k + 2) x4 y4 ["one", "other", "rule", "bounds", "standing", "at"] (spGoes K) := ok_xGoes T.go
  refine T.FXAfter.ok scXAfter (fun vs H Q E h => ?_) (fun cdv A outer s H vs Q E hr h => ?_)
  · obtain ⟨x, y, r, d, e, C, bt, l, us, ts, rfl, _⟩ := h
    rfl
  · obtain ⟨x, y, r, d, e, C, bt, l, us, ts, rfl, hx, hd, hy, he, hC, hr3, hbt, hl, hU, hts, lts, q⟩ := h
    have hu16 : (A.deeper (envOfC "_law_x_after" (defScope sXAfter) s.heap.objs.size x5 cdv)).units + 16 < cLine := by have := hr.un; omega
    have hu9 : (A.deeper (envOfC "_law_x_after" (defScope sXAfter) s.heap.objs.size x5 cdv)).units + 9 < cLine := by omega
    refine ⟨_, (Evl.pss_cut (ps_set (i := 5) scXAfter.nd rfl (.inl rfl) pe_enew)
 (Evl.pss_cut (ps_for PassesOwn.never rfl (pi_list (pv 4)) (pg_name (i := 6) scXAfter.nd rfl (.inl rfl))
 (pss_one (ps_for PassesOwn.never rfl (pi_range1 (by rfl) T.go.f1.range (pa_cons (pe_callB call_len_str (by rfl) T.go.f1.len PySem.boot_len (pa_cons (pe_ix ix_tup (pv 0) pe_int (fun _ _ => rfl)) pa_nil)) pa_nil)) (pg_name (i := 7) scXAfter.nd rfl (.inl rfl))
 (pss_one (ps_for PassesOwn.never rfl (pi_list (pe_call GG hr (by rfl) T.go.gXGoes T.go.FXGoes.kp T.go.bXGoes .nil pass0 (pa_cons (pv 0) (pa_cons (pv 1) (pa_cons (pv 2) (pa_cons (pv 3) (pa_cons (pv 6) (pa_cons (pv 7) pa_nil)))))))) (pg_name (i := 8) scXAfter.nd rfl (.inl rfl))
 (pss_one (ps_eput hu9 (pv 5) (pv 8) pe_bl rfl)))))))
 (pss_one (ps_ret (pe_callB (cr_sortE hu16) (by rfl) T.go.sorted (by decide +kernel) (pa_cons (pe_callTy (cr_listN rfl) (by rfl) T.list (by decide +kernel) (pa_cons (pv 5) pa_nil)) pa_nil)))))), ?_⟩
    have hx0 := hx
    obtain ⟨oa, osa, oxs, rfl, hoS, _, _, _⟩ := side_top hd hx
    have roomL : ∀ {m : Nat}, m ≤ 100000 → m < sizeLine := fun h => Nat.lt_of_le_of_lt h (by decide)
    have z3 := (ltr_pos hC.m.ltr).2
    refine ⟨fun σ H1 => ∃ f, σ = [some (.ref oa), some y, some r, some (.ref bt), some (.ref l), some (.ref f), none, none, none] ∧ Same H H1 ∧ H f = none ∧ ED P w K eSg H1 f (vT []), ?_, ?_⟩
    · exact fun f nf => ⟨f, rfl, same_upd nf, nf, ED.nil upd_same⟩
    rintro σ H1 ⟨f, rfl, s1, nf, hf1⟩
    refine ⟨fun σ H2 => ∃ l6 l7 l8, σ = [some (.ref oa), some y, some r, some (.ref bt), some (.ref l), some (.ref f), l6, l7, l8] ∧ Same H H2 ∧ ED P w K eSg H2 f (vT (sucs C ts)), ?_, ?_⟩
    · refine ⟨_, rfl, l, rfl, ⟨us, SqL.of (s1 _ _ hl)⟩, ?_⟩
      refine for_list (K := K) (a := l) (xs := us) (fun i σ H2 => ∃ l6 l7 l8, σ = [some (.ref oa), some y, some r, some (.ref bt), some (.ref l), some (.ref f), l6, l7, l8] ∧ Same H H2 ∧ ED P w K eSg H2 f (vT (addTs [] ((ts.take i).flatMap (onAll C))))) ⟨none, none, none, rfl, s1, hf1⟩ (fun i σ H2 _ ⟨_, _, _, _, s2, _⟩ => SqL.of (s2 _ _ hl)) ?_ ?_
      · rintro i v σ H2 hv ⟨l6, l7, l8, rfl, s2, hf2⟩
        obtain ⟨t, htt, rp⟩ := rpAll_back hU hv
        have memt : t ∈ ts := List.mem_of_getElem? htt
        obtain ⟨ta, _, _, rfl, _⟩ := sg_top rp
        have li := List.length_take_le' i ts
        have lD := addTs_len (ms := (ts.take i).flatMap (onAll C)) (l := [])
        have lf := flat_len (g := onAll C) (n := 9) (ts.take i) fun t _ => onAll_len hC t
        have nxt : addTs [] ((ts.take (i + 1)).flatMap (onAll C)) = addTs (addTs [] ((ts.take i).flatMap (onAll C))) (onAll C t) := by
          rw [List.take_succ, htt, List.flatMap_append, addTs_app, Option.toList_some, List.flatMap_singleton]
        rw [List.length_nil] at lD
        generalize addTs [] ((ts.take i).flatMap (onAll C)) = D at hf2 lD nxt
        refine ⟨_, rfl, oa, _, 1, _, rfl, rfl, same_tup s2 hoS, rfl, C.M.z, rfl, (by exact Nat.le_trans z3 (by decide)), _, rfl, by omega, by omega, ?_⟩
        refine for_range (lo := 0) (n := (C.M.z.length : Int).toNat) (fun j σ H3 => ∃ l7 l8, σ = [some (.ref oa), some y, some r, some (.ref bt), some (.ref l), some (.ref f), some (.ref ta), l7, l8] ∧ Same H H3 ∧ ED P w K eSg H3 f (vT (addTs D ((List.range j).flatMap fun i => succOf C i t)))) ⟨l7, l8, rfl, s2, hf2⟩ ?_ ?_
        · rintro j σ H3 hj ⟨l7, l8, rfl, s3, hf3⟩
          have lj := flat_len (g := fun i => succOf C i t) (n := 3) (List.range j) fun i _ => succ_len hC
          rw [List.length_range] at lj
          have lE := addTs_len (ms := (List.range j).flatMap fun i => succOf C i t) (l := D)
          have nxj : addTs D ((List.range (j + 1)).flatMap fun i => succOf C i t) = addTs (addTs D ((List.range j).flatMap fun i => succOf C i t)) (succOf C j t) := by
            rw [List.range_succ, List.flatMap_append, addTs_app, List.flatMap_singleton]
          generalize addTs D ((List.range j).flatMap fun i => succOf C i t) = D2 at hf3 lE nxj
          have tt := ts_same (K := K) s3
          refine ⟨_, rfl, _, rfl, _, rfl, _, rfl, _, rfl, _, rfl, .ref oa, y, r, .ref ta, d, e, C, t, j, bt, (by rw [show (0 : Int) + (j : Nat) = (j : Nat) by omega]; rfl), hx0.go s3, hd, hy.go s3, he, hC, hr3.go s3, same_tup s3 hbt, rp_ts tt rp (enc_sg.tO _), hts t memt, by omega, fun H4 zl zs s4 nz hz hZ => ?_⟩
          obtain ⟨φ, hφ⟩ := (hf3.same enc_sg s4).mut
          obtain ⟨Hc, nc, sc, sc2, hcne, tsc⟩ := hide (K := K) hφ (fun _ z => nomatch z) (fun _ _ z => nomatch z)
          obtain ⟨φ3, hφ3⟩ := hf3.mut
          have zf : zl ≠ f := (ne_of_none hφ3 nz).symm
          have sH : Same H Hc := sc2 _ (s3.trans s4) nf
          have hzc : Hc zl = some (.lst zs) := by rw [hcne _ zf]; exact hz
          have hZc := rpAll_ts tsc hZ (tOs_map enc_sg.tO _)
          refine ⟨zl, rfl, ⟨_, SqL.of hz⟩, ?_⟩
          refine for_list (K := K) (a := zl) (xs := zs) (fun m σ H5 => ∃ l8, σ = [some (.ref oa), some y, some r, some (.ref bt), some (.ref l), some (.ref f), some (.ref ta), some (.int (j : Nat)), l8] ∧ Same Hc H5 ∧ ED P w K eSg H5 f (vT (addTs D2 ((succOf C j t).take m)))) ⟨l8, by rw [show (0 : Int) + (j : Nat) = (j : Nat) by omega]; rfl, sc, hf3.same enc_sg s4⟩ (fun m σ H5 _ ⟨_, _, s5, _⟩ => SqL.of (s5 _ _ hzc)) ?_ ?_
          · rintro m v σ H5 hv ⟨l8, rfl, s5, hf5⟩
            obtain ⟨u, hu, rpu⟩ := rpAll_back hZc hv
            obtain ⟨ua, _, _, rfl, _⟩ := sg_top rpu
            have l3 := succ_len hC (at_ := j) (t := t)
            have lm := List.length_take_le' m (succOf C j t)
            have lF := addTs_len (ms := (succOf C j t).take m) (l := D2)
            obtain ⟨φ2, p1, p2⟩ := hf5.put enc_sg (rp_ts (ts_same s5) rpu (enc_sg.tO _)) (by
              unfold vT
              rw [List.length_map]
              exact roomL (by omega)) (.bl true)
            refine ⟨_, rfl, _, rfl, _, p1, ⟨_, rfl, same_new s5 nc, ?_⟩⟩
            rw [vT_add] at p2
            rw [List.take_succ, hu, addTs_app]
            exact p2
          · rintro σ H5 ⟨l8, rfl, s5, hf5⟩
            refine ⟨_, _, rfl, sH.trans s5, ?_⟩
            rw [nxj]
            rw [show zs.length = (succOf C j t).length from by rw [hZ.len, List.length_map], List.take_length] at hf5
            exact hf5
        · rintro σ H3 ⟨l7, l8, rfl, s3, hf3⟩
          refine ⟨_, _, _, rfl, s3, ?_⟩
          rw [nxt]
          exact hf3
      · rintro σ H2 ⟨l6, l7, l8, rfl, s2, hf2⟩
        refine ⟨_, _, _, rfl, s2, ?_⟩
        rw [show us.length = ts.length from by rw [hU.len, List.length_map], List.take_length] at hf2
        exact hf2
    rintro σ H2 ⟨l6, l7, l8, rfl, s2, hf2⟩
    have lS := sucs_len hC ts
    have lS2 : (vT (sucs C ts)).length ≤ sizeLine := by
      unfold vT
      rw [List.length_map]
      exact Nat.le_trans (show _ ≤ 9000 by omega) (by decide)
    refine ⟨_, rfl, f, Sg, eSg, _, rfl, hf2.r, lS2, fun p vs np hvs => ?_⟩
    have sp := same_upd (o := HO.lst vs) np
    refine ⟨p, Sg, eSg, vs, sucs C ts, rfl, SqL.of upd_same, ?_, enc_sg, fun p2 vs2 np2 hvs2 => ?_⟩
    · have e : keysA (vT (sucs C ts)) = sucs C ts := by
        unfold keysA vT
        rw [List.map_map]
        exact List.map_id _
      rw [e] at hvs
      exact rpAll_ts (ts_same sp) hvs (tOs_map enc_sg.tO _)
    have x12 := (sp.trans (same_upd (o := HO.lst vs2) np2))
    exact q _ p2 vs2 (s2.trans x12) ((s2.trans sp).free np2) upd_same (rpAll_ts (ts_same (same_upd np2)) hvs2 (tOs_map enc_sg.tO _))
end
end My
/-! ### a list is empty -/
namespace My
open PySem PySem.Spec PyProof.Rows L2 PySem.Builtin.Str
theorem op_eqNil {X : Cx} (hu : X.A.units < cLine) : OpR X (compareOp .Eq) (fun x y H Q => ∃ a b xs, x = .ref a ∧ y = .ref b ∧ SqL X.K H a xs ∧ SqL X.K H b [] ∧ Q (.bl (decide (xs.length = 0))) H) := by
  intro pins s σ H x y v u Q I rx ry h
  obtain ⟨a, b, xs, rfl, rfl, h1, h2, q⟩ := h
  cases rx
  cases ry
  obtain ⟨its, r, pl, hz⟩ := I.list h1
  obtain ⟨its2, r2, pl2, hz2⟩ := I.list h2
  have l1 := r.length
  have l2 := r2.length
  have e2 : its2.toArray.size = 0 := by rw [List.size_toArray, ← l2]; rfl
  have e1 : its.toArray.size = xs.length := by rw [List.size_toArray, ← l1]
  by_cases z : xs.length = 0
  · refine SeqAt.eq_listAt (e := fun _ => true) pl.isList pl2.isList (by rw [e1, e2, z]) hu (fun j h1 h2 => absurd h2 (by rw [e2]; exact Nat.not_lt_zero _)) ⟨.bl true, H, I, ?_, ?_⟩
    · rw [e1, z]
      rfl
    · rw [decide_eq_true z] at q
      exact q
  · refine SeqAt.eq_list_lengthsAt pl.isList pl2.isList ?_ hu ⟨.bl false, H, I, rfl, ?_⟩
    · rw [e1, e2, bne_iff_ne]
      exact z
    · rw [decide_eq_false z] at q
      exact q
end My
/-! ### the law's levels -/
namespace My
open PySem PySem.Spec PyProof.Rows L2 PySem.Builtin.Str
abbrev sXLevels : Stmt := topS 69
theorem scXLevels : FnScope ["one", "other", "rule", "bounds", "first", "levels", "seen", "more", "new", "standing"] ["one", "other", "rule"] (defScope sXLevels) := ⟨rfl, rfl, rfl, by decide +kernel, rfl, by decide +kernel, by decide +kernel⟩
structure LlTxt (K : PySem.W.Frag) (mg : Str → Option Value) (x1 x2 x3 x4 x5 x6 : Addr) (y1 y2 y3 y4 y5 y6 : FuncData) : Prop where
  la : LaTxt K mg x1 x2 x3 x4 x5 y1 y2 y3 y4 y5
  FXLevels : Fun K "_law_x_levels" "_law_x_levels" sXLevels x6 y6
  bXLevels : Binds K y6 ["one", "other", "rule"] []
  gXLevels : mg "_law_x_levels" = some (.ref x6)
theorem filter_sorted {l : List Sg} {f : Sg → Bool} (h : l.Pairwise fun a b => PySem.W.dataLe false eSg a b = true) : (l.filter f).Pairwise fun a b => PySem.W.dataLe false eSg a b = true := h.filter f
theorem sLv_mem {C : Ct} {n : Nat} {t : Sg} : t ∈ sLv C n ↔ t ∈ keysA (lvl C n) := (sortE_perm _).mem_iff
theorem sLv_nodup (C : Ct) (n : Nat) : (sLv C n).Nodup := (sortE_perm _).nodup_iff.mpr (lvl_nodup C n)
theorem sLv_len (C : Ct) (n : Nat) : (sLv C n).length = (lvl C n).length := by
  unfold sLv
  rw [(sortE_perm _).length_eq]
  exact List.length_map _
theorem next_mem {C : Ct} {n : Nat} {t : Sg} : t ∈ keysA (lvl C (n + 1)) ↔ t ∉ seenN C n ∧ ∃ u ∈ keysA (lvl C n), ∃ i, i < C.M.z.length ∧ t ∈ succOf C i u := by
  rw [lvl_succ, level_has]
  unfold okS
  rw [decide_eq_true_eq]
  refine and_congr_right fun _ => ⟨?_, ?_⟩
  · rintro ⟨w, h⟩
    obtain ⟨q, hq, i, hi, hu, _⟩ := mem_moves.mp h
    exact ⟨q.1, List.mem_map_of_mem (f := (·.1)) hq, i, hi, hu⟩
  · rintro ⟨u, hu, i, hi, h⟩
    obtain ⟨q, hq, rfl⟩ := List.mem_map.mp hu
    exact ⟨_, mem_moves.mpr ⟨q, hq, i, hi, h, rfl⟩⟩
theorem lvl_next (C : Ct) (n : Nat) : (sortE eSg (sucs C (sLv C n))).filter (fun t => decide (t ∉ seenN C n)) = sLv C (n + 1) := by
  refine sortE_eq enc_sg ?_ (filter_sorted (sortE_pair _))
  refine (List.perm_ext_iff_of_nodup (((sortE_perm _).nodup_iff.mpr (sucs_nodup C _)).filter _) (lvl_nodup C (n + 1))).mpr fun t => ?_
  rw [List.mem_filter, (sortE_perm _).mem_iff, mem_sucs, next_mem, decide_eq_true_eq, and_comm]
  refine and_congr_right fun _ => ?_
  constructor
  · rintro ⟨u, hu, h⟩
    exact ⟨u, sLv_mem.mp hu, h⟩
  · rintro ⟨u, hu, h⟩
    exact ⟨u, sLv_mem.mpr hu, h⟩
theorem sLv_ok {C : Ct} (h : Cok C) (n : Nat) : ∀ t ∈ sLv C n, Sok C t := fun t ht => by
  obtain ⟨q, hq, rfl⟩ := List.mem_map.mp (sLv_mem.mp ht)
  exact (lvl_ok h n q hq).1
theorem sLv_won (C : Ct) (n : Nat) : (sLv C n).any wonG = wonN C n := (sortE_perm _).any_eq
/-- what the law has seen -/
def seenS (C : Ct) : Nat → List Sg
  | 0 => [FIRSTg]
  | n + 1 => seenS C n ++ sLv C (n + 1)
theorem seenS_mem {C : Ct} : ∀ {n : Nat} {t : Sg}, t ∈ seenS C n ↔ t ∈ seenN C n
  | 0, _ => Iff.rfl
  | n + 1, t => by
    rw [seenS, seen_succ, List.mem_append, List.mem_append, seenS_mem, sLv_mem]
theorem seenS_len (C : Ct) : ∀ n, (seenS C n).length = tot C n
  | 0 => rfl
  | n + 1 => by
    rw [seenS, List.length_append, seenS_len C n, sLv_len, tot_succ]
theorem sLv_zero (C : Ct) : sLv C 0 = [FIRSTg] := (sortE_eq enc_sg (.refl _) (by simp [keysA, lvl, lvN])).symm
theorem LsL.get {K : PySem.W.Frag} {H : Hp} {a : Addr} {rs : List Addr} {C : Ct} {n i : Nat} (h : LsL K H a rs ((List.range (n + 1)).map (sLv C))) (hi : i ≤ n) : ∃ r us, rs[i]? = some r ∧ H r = some (.lst us) ∧ RpAll K H us ((sLv C i).map eSg) := by
  have l1 := Paired.length h.2
  rw [List.length_map, List.length_range] at l1
  have hr : rs[i]? = some rs[i] := List.getElem?_eq_getElem (by omega)
  obtain ⟨lv, e4, us, e5, e6⟩ := LiI.paired_get h.2 hr
  rw [List.getElem?_map, List.getElem?_range (by omega)] at e4
  obtain rfl := Option.some.inj e4
  exact ⟨_, us, hr, e5, e6⟩
theorem LsL.len {K : PySem.W.Frag} {H : Hp} {a : Addr} {rs : List Addr} {C : Ct} {n : Nat} (h : LsL K H a rs ((List.range n).map (sLv C))) : rs.length = n := by
  have l1 := Paired.length h.2
  rw [List.length_map, List.length_range] at l1
  exact l1
theorem LsL.move {K : PySem.W.Frag} {H H' : Hp} {a : Addr} {rs : List Addr} {tss : List (List Sg)} (h : LsL K H a rs tss) (t : TStay K H H') (ka : ∀ o, H a = some o → H' a = some o) (kr : ∀ r ∈ rs, ∀ o, H r = some o → H' r = some o) : LsL K H' a rs tss := by
  refine ⟨ka _ h.1, ?_⟩
  have : ∀ {rs : List Addr} {tss : List (List Sg)}, (∀ r ∈ rs, ∀ o, H r = some o → H' r = some o) → Paired (fun (r : Addr) (ts : List Sg) => ∃ us, H r = some (.lst us) ∧ RpAll K H us (ts.map eSg)) rs tss → Paired (fun (r : Addr) (ts : List Sg) => ∃ us, H' r = some (.lst us) ∧ RpAll K H' us (ts.map eSg)) rs tss := fun {rs tss} kr h => by
    induction h with
    | nil => exact .nil
    | cons h1 _ ih =>
      obtain ⟨us, e1, e2⟩ := h1
      exact .cons ⟨us, kr _ (.head _) _ e1, rpAll_ts t e2 (tOs_map enc_sg.tO _)⟩ (ih fun r hr => kr r (.tail _ hr))
  exact this kr h.2
theorem LsL.push {K : PySem.W.Frag} {H : Hp} {a r : Addr} {rs : List Addr} {tss : List (List Sg)} {us : List V} {ts : List Sg} (h : LsL K H a rs tss) (na : a ∉ rs) (hr : H r = some (.lst us)) (hu : RpAll K H us (ts.map eSg)) (ne : r ≠ a) : LsL K (upd H a (.lst (rs.map V.ref ++ [V.ref r]))) a (rs ++ [r]) (tss ++ [ts]) := by
  have t : TStay K H (upd H a (.lst (rs.map V.ref ++ [V.ref r]))) := ts_lst h.1
  refine ⟨by rw [upd_same, List.map_append]; rfl, ?_⟩
  have : ∀ {rs2 : List Addr} {tss : List (List Sg)}, a ∉ rs2 → Paired (fun (r : Addr) (ts : List Sg) => ∃ us, H r = some (.lst us) ∧ RpAll K H us (ts.map eSg)) rs2 tss → Paired (fun (r2 : Addr) (ts : List Sg) => ∃ us, (upd H a (.lst (rs.map V.ref ++ [V.ref r]))) r2 = some (.lst us) ∧ RpAll K (upd H a (.lst (rs.map V.ref ++ [V.ref r]))) us (ts.map eSg)) rs2 tss := fun {rs2 tss} na h => by
    induction h with
    | nil => exact .nil
    | cons h1 _ ih =>
      obtain ⟨us, e1, e2⟩ := h1
      exact .cons ⟨us, by rw [upd_ne (fun z => na (by rw [← z]; exact .head _))]; exact e1, rpAll_ts t e2 (tOs_map enc_sg.tO _)⟩ (ih fun hr => na (.tail _ hr))
  exact Paired.snoc (this na h.2) ⟨us, by rw [upd_ne ne]; exact hr, rpAll_ts t hu (tOs_map enc_sg.tO _)⟩
/-- the state of the loop -/
structure Lz (P : Program) (w : World) (K : PySem.W.Frag) (C : Ct) (H H' : Hp) (bt a sd : Addr) (rs : List Addr) (n : Nat) : Prop where
  sm : Same H H'
  na : H a = none
  nsd : H sd = none
  nrs : ∀ r ∈ rs, H r = none
  anr : a ∉ rs
  sdr : sd ∉ rs
  bt : SqT K H' bt [.int C.over, .int C.below]
  ll : LsL K H' a rs ((List.range (n + 1)).map (sLv C))
  es : ED P w K eSg H' sd (vT (seenS C n))
theorem Lz.same {P : Program} {w : World} {K : PySem.W.Frag} {C : Ct} {H H' H2 : Hp} {bt a sd : Addr} {rs : List Addr} {n : Nat} (h : Lz P w K C H H' bt a sd rs n) (s : Same H' H2) : Lz P w K C H H2 bt a sd rs n :=
  ⟨h.sm.trans s, h.na, h.nsd, h.nrs, h.anr, h.sdr, same_tup s h.bt, h.ll.same s, h.es.same enc_sg s⟩
def spXLevels (K : PySem.W.Frag) : Sp := fun vs H Q _ => ∃ (x y r : V) (d e : PyData) (C : Ct), vs = [x, y, r] ∧ Rp K H x d ∧ Side d C.M ∧ Rp K H y e ∧ Side e C.N ∧ Cok C ∧ Rp K H r (.tuple [.str C.M.z, .tuple (rowsD C.R)]) ∧ bndC C ≤ 700 ∧
  ∀ n H' a rs, EndsN C n → Same H H' → H a = none → (∀ r ∈ rs, H r = none) → a ∉ rs → LsL K H' a rs ((List.range (n + 1)).map (sLv C)) → Q (.ref a) H'
/-- a test's reading, weakened: whoever reads it may ask for less -/
def tMonoT (t : TT) : TT := fun σ H Q => ∃ Q0 : Bool → Hp → Prop, t σ H Q0 ∧ ∀ b H1, Q0 b H1 → Q b H1
theorem pt_monoT {X : Cx} {e : Expr} {t : TT} (h : PT X e t) : PT X e (tMonoT t) := by
  refine ⟨fun pins s σ H Q I q => ?_⟩
  obtain ⟨Q0, q0, w⟩ := q
  exact thn (h.run pins s σ H Q0 I q0) fun u s1 ⟨H1, I1, q1⟩ => ⟨H1, I1, w u H1 q1⟩
theorem op_eqDK {X : Cx} {K : PySem.W.Frag} (e : X.K = K) (hu : X.A.units + 64 < cLine) : OpR X (compareOp .Eq) (rEqD K) := by
  subst e
  exact op_eqD hu
theorem pc_enotinK {X : Cx} {P : Program} {w : World} {K : PySem.W.Frag} {o i : Expr} {td ty : TE} (h1 : X.prog = P) (h2 : X.w = w) (h3 : X.K = K) (hu : X.A.units + 9 < cLine) (hi : PE X i ty) (ho : PE X o td) : PC X .NotIn i o (tENotIn P w K ty td) := by
  subst h1 h2 h3
  exact pc_enotin hu hi ho
section
variable {P : Program} {w : World} {K : PySem.W.Frag} {mg : Str → Option Value} {base : Heap} {x1 x2 x3 x4 x5 x6 : Addr} {y1 y2 y3 y4 y5 y6 : FuncData}
theorem ok_xLevels (T : LlTxt K mg x1 x2 x3 x4 x5 x6 y1 y2 y3 y4 y5 y6) {k : Nat} : FnOk P w K mg base CX0 (k + 4) x6 y6 ["one", "other", "rule"] (spXLevels K) := by
  have GB : FnOk P w K mg base CX0 (k + 3) x3 y3 ["one", "other"] (spBounds K) := ok_xBounds T.la.go
  have GA : FnOk P w K mg base CX0 (k + 3) x5 y5 ["one", "other", "rule", "bounds", "some"] (spXAfter K) := ok_xAfter T.la
  refine T.FXLevels.ok scXLevels (fun vs H Q E h => ?_) (fun cdv A outer s H vs Q E hr h => ?_)
  · obtain ⟨x, y, r, d, e, C, rfl, _⟩ := h
    rfl
  · obtain ⟨x, y, r, d, e, C, rfl, hx, hd, hy, he, hC, hr3, bnd, q⟩ := h
    have hu : (A.deeper (envOfC "_law_x_levels" (defScope sXLevels) s.heap.objs.size x6 cdv)).units + 64 < cLine := by have := hr.un; omega
    have hu9 : (A.deeper (envOfC "_law_x_levels" (defScope sXLevels) s.heap.objs.size x6 cdv)).units + 9 < cLine := by omega
    have hu0 : (A.deeper (envOfC "_law_x_levels" (defScope sXLevels) s.heap.objs.size x6 cdv)).units < cLine := by omega
    refine ⟨_, (Evl.pss_cut (ps_par (i := 3) (j := 4) (by rfl) scXLevels.nd rfl rfl (by decide) rfl rfl (pa_cons (pe_call GB hr (by rfl) T.la.go.gXBounds T.la.go.FXBounds.kp T.la.go.bXBounds .nil pass0 (pa_cons (pv 0) (pa_cons (pv 1) pa_nil))) (pa_cons (pe_tup (pa_cons pe_int (pa_cons pe_int (pa_cons (pe_tup (pa_cons (pe_tup (pa_cons pe_int (pa_cons pe_int pa_nil))) pa_nil)) pa_nil)))) pa_nil)) (by rfl))
 (Evl.pss_cut (ps_asg (pe_tup (pa_cons (pe_lst (pa_cons (pe_lst (pa_cons (pv 4) pa_nil)) pa_nil)) (pa_cons (pe_ndisp hu9 (pv 4) pe_bl) pa_nil))) (pg_tup rfl (pgs_cons (pg_name (i := 5) scXLevels.nd rfl (.inl rfl)) (pgs_cons (pg_name (i := 6) scXLevels.nd rfl (.inr rfl)) pgs_nil))))
 (Evl.pss_cut (ps_while PassesOwn.never (pt_monoT (pt_cmpR op_notIn_seq pe_bl (pe_lc (own := [("standing", 9)]) (g := gName 9) (tt := tYes) (by rfl) scXLevels.nd (pi_list (pe_ix ix_list (pv 5) (pe_un un_neg pe_int) (fun _ _ => rfl))) (blkOk_by (N := ["one", "other", "rule", "bounds", "first", "levels", "seen", "more", "new", "standing"]) (sc := defScope sXLevels) (by decide +kernel)) (fun _ _ _ _ _ => pg_name (i := 9) scXLevels.nd rfl (Or.inl rfl)) (fun _ _ _ _ _ => pts_nil) (fun _ _ _ _ _ => (pe_cmpR (op_eqDK (K := K) rfl hu) (pe_ix (ixT (K := K) rfl) (pv 9) pe_int (fun _ _ => rfl)) (pe_tup pa_nil) (nomark _)))) (by rfl)))
 (Evl.pss_cut (ps_setLc (i := 8) (own := [("more", 7)]) (g := gName 7) (by rfl) scXLevels.nd rfl rfl (sw_true rfl rfl rfl (by decide +kernel)) (pi_list (pe_call GA hr (by rfl) T.la.gXAfter T.la.FXAfter.kp T.la.bXAfter .nil pass0 (pa_cons (pv 0) (pa_cons (pv 1) (pa_cons (pv 2) (pa_cons (pv 3) (pa_cons (pe_ix ix_list (pv 5) (pe_un un_neg pe_int) (fun _ _ => rfl)) pa_nil))))))) (blkOk_by (N := ["one", "other", "rule", "bounds", "first", "levels", "seen", "more", "new", "standing"]) (sc := defScope sXLevels) (by decide +kernel)) (fun _ _ _ _ _ => pg_name (i := 7) scXLevels.nd rfl (Or.inl rfl)) (fun _ _ _ _ _ => (pts_one (pt_cmp (pc_enotinK (P := P) (w := w) (K := K) rfl rfl rfl hu9 (pv 7) (pv 6))))) (fun _ _ _ _ _ => (pv 7)))
 (Evl.pss_cut (ps_if (pt_cmpR (op_eqNil hu0) (pv 8) (pe_lst pa_nil) (nomark _)) (pss_one (ps_ret (pv 5))) pss_nil)
 (Evl.pss_cut (ps_for PassesOwn.never rfl (pi_list (pv 8)) (pg_name (i := 7) scXLevels.nd rfl (.inl rfl))
 (pss_one (ps_eput hu9 (pv 6) (pv 7) pe_bl rfl)))
 (pss_one (ps_expr (pe_bm PySem.F.plainAttrs_list PySem.F.slot_list_append PySem.F.type_list_append mt_append (pv 5) (pa_cons (pv 8) pa_nil))))))))
 (pss_one (ps_ret (pv 5)))))), ?_⟩
    have roomL : ∀ {m : Nat}, m ≤ 100000 → m < sizeLine := fun h => Nat.lt_of_le_of_lt h (by decide)
    refine ⟨fun σ H1 => ∃ bt ft, σ = [some x, some y, some r, some (.ref bt), some (.ref ft)] ++ List.replicate 5 none ∧ Same H H1 ∧ SqT K H1 bt [.int C.over, .int C.below] ∧ Rp K H1 (.ref ft) (eSg FIRSTg), ?_, ?_⟩
    · refine ⟨_, rfl, _, rfl, x, y, d, e, C.M, C.N, rfl, hx, hd, hy, he, fun H1 bt R s1 nb hb => ?_⟩
      refine ⟨(by show 2 ≤ sizeLine; decide), fun t1 n1 => ⟨(by show 1 ≤ sizeLine; decide), fun t2 n2 => ⟨(by show 3 ≤ sizeLine; decide), fun t3 n3 => ⟨_, _, rfl, bt, t3, rfl, ?_⟩⟩⟩⟩
      have x1 := same_upd (o := HO.tup [V.int 0, .int 0]) n1
      have x2 := same_upd (o := HO.tup [V.ref t1]) n2
      have x3 := same_upd (o := HO.tup [V.int 0, .int 0, V.ref t2]) n3
      refine ⟨((s1.trans x1).trans x2).trans x3, same_tup ((x1.trans x2).trans x3) (SqT.of hb), ?_⟩
      exact .tup (SqT.of upd_same) (.cons (.int _) (.cons (.int _) (.cons (.tup (SqT.of (x3 _ _ upd_same)) (.cons (.tup (SqT.of (x3 _ _ (x2 _ _ upd_same))) (.cons (.int _) (.cons (.int _) .nil))) .nil)) .nil)))
    rintro σ H1 ⟨bt, ft, rfl, s1, hbt, hft⟩
    refine ⟨fun σ H2 => ∃ a sd rs, σ = [some x, some y, some r, some (.ref bt), some (.ref ft), some (.ref a), some (.ref sd), none, none, none] ∧ Lz P w K C H H2 bt a sd rs 0, ?_, ?_⟩
    · refine ⟨_, rfl, (by show 1 ≤ sizeLine; decide), fun r0 n0 => ⟨(by show 1 ≤ sizeLine; decide), fun a na => ?_⟩⟩
      have x1 := same_upd (o := HO.lst [V.ref ft]) n0
      have x2 := same_upd (o := HO.lst [V.ref r0]) na
      have x12 := x1.trans x2
      have ra : r0 ≠ a := ne_of_none upd_same na
      refine fun sd nsd => ⟨_, rfl, ft, eSg FIRSTg, rfl, hft.go (x12.trans (same_upd nsd)), enc_sg.tO _, enc_sg.kd _, upd_same, (by show 2 ≤ sizeLine; decide), fun u nu => ⟨u, _, rfl, SqT.of upd_same, rfl, _, _, rfl, _, _, rfl, rfl, a, sd, [r0], rfl, ?_⟩⟩
      have x3 := same_new (o := NdO P w sd [(keyN (eSg FIRSTg), ft, .bl true)]) (same_upd (o := NdO P w sd []) nsd) nsd
      have x4 := same_upd (o := HO.tup [V.ref a, .ref sd]) nu
      have x34 := x3.trans x4
      have xA := x12.trans x34
      refine ⟨s1.trans xA, (s1.trans x1).free na, (s1.trans x12).free nsd, fun r1 hr1 => ?_, fun h => ra (List.mem_singleton.mp h).symm, fun h => ?_, same_tup xA hbt, ⟨x34 _ _ upd_same, .cons ⟨[.ref ft], x34 _ _ (x2 _ _ upd_same), ?_⟩ .nil⟩, ⟨_, x4 _ _ upd_same, .cons ⟨rfl, hft.go xA, rfl⟩ .nil⟩⟩
      · rw [List.mem_singleton.mp hr1]
        exact s1.free n0
      · rw [List.mem_singleton.mp h] at nsd
        have := x2 _ _ (upd_same (H := H1) (a := r0) (o := HO.lst [V.ref ft]))
        rw [this] at nsd
        cases nsd
      · rw [sLv_zero]
        exact .cons (hft.go xA) .nil
    rintro σ H2 ⟨a, sd, rs0, rfl, k2⟩
    refine ⟨fun σ H3 => ∃ n rs l7 l8 l9, σ = [some x, some y, some r, some (.ref bt), some (.ref ft), some (.ref a), some (.ref sd), l7, l8, l9] ∧ Lz P w K C H H3 bt a sd rs n ∧ EndsN C n, ?_, ?_⟩
    · refine while_by (fun σ H3 => ∃ n rs l7 l8 l9, σ = [some x, some y, some r, some (.ref bt), some (.ref ft), some (.ref a), some (.ref sd), l7, l8, l9] ∧ Lz P w K C H H3 bt a sd rs n ∧ Pre C n) (fun _ H' => 3000 - lenU H' a) ⟨0, rs0, none, none, none, rfl, k2, fun m h => absurd h (Nat.not_lt_zero m)⟩ ?_ ?_
      · rintro σ H5 ⟨n, rs, l7, l8, l9, rfl, k5, pre⟩
        have pt := pre_tot pre
        have tb := tot_le hC n
        have tb1 := tot_le hC (n + 1)
        have lle := lvl_len_le C n
        have lse := sLv_len C n
        obtain ⟨r1, us, hr1, hu1, hU1⟩ := k5.ll.get (Nat.le_refl n)
        have lrs := k5.ll.len
        obtain ⟨v1, e1, e2⟩ := atI_end (xs := rs.map V.ref) (n := n) (by rw [List.length_map]; exact lrs)
        rw [List.getElem?_map, hr1] at e1
        obtain rfl : V.ref r1 = v1 := Option.some.inj e1
        refine ⟨_, ?_, fun _ _ h => h⟩
        refine ⟨_, rfl, 1, rfl, a, _, -1, .ref r1, rfl, rfl, SqL.of k5.ll.1, e2, r1, rfl, ⟨us, SqL.of hu1⟩, fun D nD => ?_⟩
        refine lc_lstO (xs := us) (fun i H' => Same H5 H' ∧ H' D = some (.lst ((((sLv C n).take i).map wonG).map V.bl))) ⟨same_upd nD, upd_same⟩ (fun i H' h => SqL.of (h.1 _ _ hu1)) ?_ ?_
        · rintro i u H' hu9 ⟨s6, hD⟩
          obtain ⟨t, htt, rp⟩ := rpAll_back hU1 hu9
          obtain ⟨ta, la, vs, rfl, hS4, hS5, hA5⟩ := sg_top rp
          refine ⟨rfl, ?_⟩
          refine ⟨_, rfl, ta, _, 2, _, rfl, rfl, same_tup s6 hS4, rfl, by show 0 ≤ sizeLine; decide, fun e0 ne0 => ?_⟩
          have sn := same_upd (o := HO.tup []) ne0
          refine ⟨_, _, (Rp.tup (same_tup (s6.trans sn) hS5) (rpAll_ts (ts_same (s6.trans sn)) hA5 (tOs_map tO_eP _))).dp ?_, (Rp.tup (SqT.of upd_same) .nil).dp (by simp [PyData.hasDict, PyData.hasDictAll]), shaped_L t.L, rfl, _, sn _ _ hD, ?_, same_new (s6.trans sn) nD, ?_⟩
          · rw [PyData.hasDict]
            exact (lay_eP t.L).2.2
          · rw [List.length_map, List.length_map]
            have := List.length_take_le' i (sLv C n)
            exact roomL (by omega)
          · rw [upd_same, List.take_succ, htt, eqv_nil]
            simp [wonG]
        · rintro H6 ⟨s6, hD⟩
          rw [show us.length = (sLv C n).length from by rw [hU1.len, List.length_map], List.take_length] at hD
          refine ⟨D, _, rfl, .inl (SqL.of hD), rfl, flat_bools _, _, rfl, ?_⟩
          have k6 := k5.same s6
          have anyE : inV (V.bl true) (((sLv C n).map wonG).map V.bl) = wonN C n := by
            rw [in_bools, List.any_map, ← sLv_won]
            rfl
          rw [anyE]
          cases hw : wonN C n with
          | true => exact iteF ⟨n, rs, _, _, _, rfl, k6, pre, .inl hw⟩
          | false =>
          refine iteT ?_
          refine ⟨fun σ H7 => ∃ nl us2 l7, σ = [some x, some y, some r, some (.ref bt), some (.ref ft), some (.ref a), some (.ref sd), l7, some (.ref nl), l9] ∧ Same H6 H7 ∧ H6 nl = none ∧ H7 nl = some (.lst us2) ∧ RpAll K H7 us2 ((sLv C (n + 1)).map eSg), ?_, ?_⟩
          · refine ⟨_, rfl, _, rfl, _, rfl, _, rfl, _, rfl, 1, rfl, a, _, -1, .ref r1, rfl, rfl, SqL.of k6.ll.1, e2, x, y, r, d, e, C, bt, r1, us, sLv C n, rfl, hx.go k6.sm, hd, hy.go k6.sm, he, hC, hr3.go k6.sm, k6.bt, s6 _ _ hu1, rpAll_ts (ts_same s6) hU1 (tOs_map enc_sg.tO _), sLv_ok hC n, by omega, fun H7 p vs s7 np hp hvs => ?_⟩
            refine ⟨p, rfl, ⟨vs, SqL.of hp⟩, fun D2 nD2 => ?_⟩
            refine lc_lstO (xs := vs) (fun i H' => Same H7 H' ∧ ∃ us2, H' D2 = some (.lst us2) ∧ RpAll K H' us2 ((((sortE eSg (sucs C (sLv C n))).take i).filter fun t => decide (t ∉ seenN C n)).map eSg)) ⟨same_upd nD2, [], upd_same, .nil⟩ (fun i H' h => SqL.of (h.1 _ _ hp)) ?_ ?_
            · rintro i u H' hu9 ⟨s8, us2, hD2, hU2⟩
              obtain ⟨t, htt, rp⟩ := rpAll_back hvs hu9
              obtain ⟨ta, _, _, rfl, _⟩ := sg_top rp
              have rp8 := rp_ts (ts_same (K := K) s8) rp (enc_sg.tO _)
              have i1 := ((k6.same (s7.trans s8)).es.r).in_ enc_sg rp8
              rw [vT_get] at i1
              have stepF : ((sortE eSg (sucs C (sLv C n))).take (i + 1)).filter (fun t => decide (t ∉ seenN C n)) = ((sortE eSg (sucs C (sLv C n))).take i).filter (fun t => decide (t ∉ seenN C n)) ++ (if decide (t ∉ seenN C n) = true then [t] else []) := by
                rw [List.take_succ, htt, List.filter_append]
                congr 1
                show List.filter (fun t => decide (t ∉ seenN C n)) [t] = _
                rw [List.filter_cons]
                rfl
              have l1 := hU2.len
              rw [List.length_map] at l1
              have l2 := List.length_filter_le (fun t => decide (t ∉ seenN C n)) ((sortE eSg (sucs C (sLv C n))).take i)
              have l3 := List.length_take_le' i (sortE eSg (sucs C (sLv C n)))
              have l4 := (sortE_perm (enc := eSg) (sucs C (sLv C n))).length_eq
              have l5 := sucs_len hC (sLv C n)
              refine ⟨rfl, ?_⟩
              refine ⟨_, rfl, _, rfl, _, i1, _, rfl, ?_⟩
              by_cases z : t ∈ seenS C n
              · rw [decide_eq_true z]
                refine iteF ⟨s8, us2, hD2, ?_⟩
                rw [stepF, if_neg (by rw [decide_eq_true_eq]; exact fun h => h (seenS_mem.mp z)), List.append_nil]
                exact hU2
              · rw [decide_eq_false z]
                refine iteT ⟨_, rfl, us2, hD2, roomL (by omega), same_new s8 nD2, us2 ++ [.ref ta], upd_same, ?_⟩
                have bt2 : TStay K H' (upd H' D2 (HO.lst (us2 ++ [V.ref ta]))) := ts_lst hD2
                rw [stepF, if_pos (decide_eq_true (show ¬ t ∈ seenN C n from fun h => z (seenS_mem.mpr h))), map_snoc]
                exact rp_snoc (rpAll_ts bt2 hU2 (tOs_map enc_sg.tO _)) (rp_ts bt2 rp8 (enc_sg.tO _))
            · rintro H' ⟨s8, us2, hD2, hU2⟩
              rw [show vs.length = (sortE eSg (sucs C (sLv C n))).length from by rw [hvs.len, List.length_map], List.take_length, lvl_next] at hU2
              exact ⟨D2, us2, _, rfl, s7.trans s8, s7.free nD2, hD2, hU2⟩
          rintro σ H7 ⟨nl, us2, l7, rfl, s7, nnl, hnl, hU2⟩
          have k7 := k6.same s7
          have l2 := hU2.len
          rw [List.length_map, sLv_len] at l2
          refine ⟨fun σ H8 => σ = [some x, some y, some r, some (.ref bt), some (.ref ft), some (.ref a), some (.ref sd), l7, some (.ref nl), l9] ∧ Same H7 H8 ∧ lvl C (n + 1) ≠ [], ?_, ?_⟩
          · refine ⟨_, rfl, (by show 0 ≤ sizeLine; decide), fun e0 ne0 => ⟨nl, e0, us2, rfl, rfl, SqL.of (same_upd ne0 _ _ hnl), SqL.of upd_same, _, rfl, ?_⟩⟩
            cases h0 : lvl C (n + 1) with
            | nil =>
              rw [l2, h0]
              have k8 := k7.same (same_upd (o := HO.lst []) ne0)
              exact iteT ⟨_, rfl, q n _ a rs ⟨pre, .inr h0⟩ k8.sm k8.na k8.nrs k8.anr k8.ll⟩
            | cons z zs =>
              rw [l2, h0]
              exact iteF ⟨rfl, same_upd ne0, fun z => nomatch z⟩
          rintro σ H8 ⟨rfl, s8, ne8⟩
          have k8 := k7.same s8
          have hnl8 := s8 _ _ hnl
          have hU8 := rpAll_ts (ts_same s8) hU2 (tOs_map enc_sg.tO _)
          obtain ⟨φ, hφ⟩ := k8.es.mut
          have nsdl : sd ≠ nl := fun z => by
            rw [z, hnl8] at hφ
            cases hφ
          have pre1 : Pre C (n + 1) := fun m hm => by
            by_cases z : m < n
            · exact pre m z
            · obtain rfl : m = n := by omega
              exact ⟨hw, ne8⟩
          have ts1 := tot_succ C n
          refine ⟨fun σ H9 => (∃ l7, σ = [some x, some y, some r, some (.ref bt), some (.ref ft), some (.ref a), some (.ref sd), l7, some (.ref nl), l9]) ∧ Keep sd H8 H9 ∧ ED P w K eSg H9 sd (vT (seenS C (n + 1))), ?_, ?_⟩
          · refine ⟨_, rfl, nl, rfl, ⟨us2, SqL.of hnl8⟩, ?_⟩
            refine for_list (K := K) (a := nl) (xs := us2) (fun i σ H9 => (∃ l7, σ = [some x, some y, some r, some (.ref bt), some (.ref ft), some (.ref a), some (.ref sd), l7, some (.ref nl), l9]) ∧ Keep sd H8 H9 ∧ ED P w K eSg H9 sd (vT (seenS C n ++ (sLv C (n + 1)).take i))) ⟨⟨_, rfl⟩, fun _ _ _ e => e, by rw [List.take_zero, List.append_nil]; exact k8.es⟩ (fun i σ H9 _ h => SqL.of (h.2.1 _ _ nsdl.symm hnl8)) ?_ ?_
            · rintro i v σ H9 hv ⟨⟨l7, rfl⟩, kp, es⟩
              obtain ⟨t, htt, rp⟩ := rpAll_back hU8 hv
              obtain ⟨ta, _, _, rfl, _⟩ := sg_top rp
              have tk := ts_keep (K := K) hφ kp
              have notin : t ∉ seenS C n ++ (sLv C (n + 1)).take i := fun hm => by
                rcases List.mem_append.mp hm with h | h
                · exact lvl_new C n t (sLv_mem.mp (List.mem_of_getElem? htt)) (seenS_mem.mp h)
                · obtain ⟨j, hj, e2⟩ := List.getElem_of_mem h
                  rw [List.length_take] at hj
                  rw [List.getElem_take] at e2
                  have e3 : (sLv C (n + 1))[j]? = some t := by rw [List.getElem?_eq_getElem (by omega), e2]
                  have := (List.getElem?_inj (by omega) (sLv_nodup C (n + 1))).mp (e3.trans htt.symm)
                  omega
              obtain ⟨φ2, p1, p2⟩ := es.put enc_sg (rp_ts tk rp (enc_sg.tO _)) (by
                unfold vT
                rw [List.length_map, List.length_append, seenS_len]
                have l2 := List.length_take_le' i (sLv C (n + 1))
                have l3 := sLv_len C (n + 1)
                exact roomL (by omega)) (.bl true)
              refine ⟨_, rfl, _, rfl, _, p1, ⟨_, rfl⟩, fun b o nb eb => ?_, ?_⟩
              · rw [upd_ne nb]
                exact kp b o nb eb
              · rw [vT_put notin] at p2
                rw [List.take_succ, htt, ← List.append_assoc]
                exact p2
            · rintro σ H9 ⟨⟨l7, rfl⟩, kp, es⟩
              rw [show us2.length = (sLv C (n + 1)).length from by rw [hU2.len, List.length_map], List.take_length] at es
              exact ⟨⟨_, rfl⟩, kp, es⟩
          rintro σ H9 ⟨⟨l7, rfl⟩, kp, es⟩
          have tk := ts_keep (K := K) hφ kp
          have nasd : a ≠ sd := fun z => by
            rw [← z, k8.ll.1] at hφ
            cases hφ
          have nlH : H nl = none := k6.sm.free nnl
          have nla : nl ≠ a := fun z => by
            rw [z, k6.ll.1] at nnl
            cases nnl
          have ll9 := k8.ll.move tk (fun o e => kp _ _ nasd e) (fun r hr o e => kp _ _ (fun z => k8.sdr (by rw [← z]; exact hr)) e)
          have hnl9 := kp _ _ nsdl.symm hnl8
          refine ⟨_, rfl, .inl ⟨rfl, _, SqL.of ll9.1⟩, _, rfl, a, _, _, rfl, rfl, ll9.1, roomL (by rw [List.length_map, lrs]; omega), ⟨n + 1, rs ++ [nl], _, _, _, rfl, ?_, pre1⟩, ?_⟩
          · have psh := ll9.push k8.anr hnl9 (rpAll_ts tk hU8 (tOs_map enc_sg.tO _)) nla
            have tl : TStay K H9 (upd H9 a (.lst (rs.map V.ref ++ [V.ref nl]))) := ts_lst ll9.1
            refine ⟨fun b o eb => ?_, k8.na, k8.nsd, fun r hr => ?_, fun hm => ?_, fun hm => ?_, tl _ _ (tk _ _ k8.bt), ?_, ?_⟩
            · rw [upd_ne (ne_of_none eb k8.na)]
              exact kp _ _ (ne_of_none eb k8.nsd) (k8.sm _ _ eb)
            · rcases List.mem_append.mp hr with h | h
              · exact k8.nrs r h
              · rw [List.mem_singleton.mp h]
                exact nlH
            · rcases List.mem_append.mp hm with h | h
              · exact k8.anr h
              · exact nla (List.mem_singleton.mp h).symm
            · rcases List.mem_append.mp hm with h | h
              · exact k8.sdr h
              · exact nsdl (List.mem_singleton.mp h)
            · rw [range_snoc]
              exact psh
            · exact ed_upd es ll9.1 (fun _ z => nomatch z) (fun _ _ z => nomatch z) nasd.symm
          · have e5 : lenU H5 a = n + 1 := by
              unfold lenU
              rw [k5.ll.1]
              show (rs.map V.ref).length = n + 1
              rw [List.length_map, lrs]
            have e6 : lenU (upd H9 a (.lst (rs.map V.ref ++ [V.ref nl]))) a = n + 2 := by
              unfold lenU
              rw [upd_same]
              show (rs.map V.ref ++ [V.ref nl]).length = n + 2
              rw [List.length_append, List.length_map, lrs]
              rfl
            have p2 := pre_tot pre1
            rw [e5, e6]
            omega
      · rintro σ H Q1 Q2 hq ⟨Q0, h1, h2⟩
        exact ⟨Q0, h1, fun b H1 h => hq b H1 (h2 b H1 h)⟩
    rintro σ H3 ⟨n, rs, l7, l8, l9, rfl, k3, en⟩
    exact ⟨_, rfl, q n H3 a rs en k3.sm k3.na k3.nrs k3.anr k3.ll⟩
end
end My
/-! ### the law's won word -/
namespace My
open PySem PySem.Spec PyProof.Rows L2 PySem.Builtin.Str
abbrev sXWon : Stmt := topS 70
theorem scXWon : FnScope ["one", "other", "rule", "levels", "bounds", "words", "level", "later", "standing", "at", "letter", "word", "more", "won"] ["one", "other", "rule", "levels"] (defScope sXWon) := ⟨rfl, rfl, rfl, by decide +kernel, rfl, by decide +kernel, by decide +kernel⟩
structure LnTxt (K : PySem.W.Frag) (mg : Str → Option Value) (x1 x2 x3 x4 x5 x6 x7 : Addr) (y1 y2 y3 y4 y5 y6 y7 : FuncData) : Prop where
  ll : LlTxt K mg x1 x2 x3 x4 x5 x6 y1 y2 y3 y4 y5 y6
  enumerate : mg "enumerate" = none
  FXWon : Fun K "_law_x_won" "_law_x_won" sXWon x7 y7
  bXWon : Binds K y7 ["one", "other", "rule", "levels"] []
  gXWon : mg "_law_x_won" = some (.ref x7)
theorem lay_sg (t : Sg) : PyData.canLay0 (eSg t) = true ∧ (eSg t).depth ≤ 3 ∧ (eSg t).hasDict = false := by
  have l := lay_eP t.L
  have l2 := l.2.1
  refine ⟨by simp [eSg, PyData.canLay0, PyData.canLayAll0, l.1], ?_, by simp [eSg, PyData.hasDict, PyData.hasDictAll, l.2.2]⟩
  simp only [eSg, PyData.depth, PyData.depthAll]
  omega
theorem lay_sgs : ∀ ts : List Sg, PyData.canLayAll0 (ts.map eSg) = true ∧ PyData.depthAll (ts.map eSg) ≤ 3 ∧ PyData.hasDictAll (ts.map eSg) = false
  | [] => by simp [PyData.canLayAll0, PyData.depthAll, PyData.hasDictAll]
  | t :: ts => by
    have ih := lay_sgs ts
    have h := lay_sg t
    refine ⟨by simp [PyData.canLayAll0, ih.1, h.1], ?_, by simp [PyData.hasDictAll, ih.2.2, h.2.2]⟩
    rw [List.map_cons, PyData.depthAll]
    omega
theorem eqv_pairs_self : ∀ l : List (Int × Int), PyData.eqvAll (l.map eP) (l.map eP) = true
  | [] => rfl
  | a :: l => by
    rw [List.map_cons, PyData.eqvAll, eqv_eP, eqv_pairs_self l]
    simp
theorem eqv_sg (u t : Sg) : PyData.eqv (eSg u) (eSg t) = decide (u = t) := by
  by_cases e : u = t
  · subst e
    rw [decide_eq_true rfl]
    simp [eSg, PyData.eqv, PyData.eqvAll, eqv_pairs_self]
  · rw [decide_eq_false e]
    rcases SrtO.bcase (PyData.eqv (eSg u) (eSg t)) with h | h
    · exact absurd (enc_sg.eqv _ _ h) e
    · exact h
theorem any_sg (ts : List Sg) (t : Sg) : ((ts.map eSg).any fun z => PyData.eqv z (eSg t)) = decide (t ∈ ts) := by
  rw [List.any_map, Bool.eq_iff_iff, List.any_eq_true, decide_eq_true_eq]
  constructor
  · rintro ⟨u, hu, h⟩
    have h : PyData.eqv (eSg u) (eSg t) = true := h
    rw [eqv_sg, decide_eq_true_eq] at h
    rw [← h]
    exact hu
  · intro h
    refine ⟨t, h, ?_⟩
    show PyData.eqv (eSg t) (eSg t) = true
    rw [eqv_sg]
    exact decide_eq_true rfl
def okL (ts : List Sg) (t : Sg) : Bool := decide (t ∈ ts)
def wrdN (C : Ct) : Nat → Lv
  | 0 => [(FIRSTg, ("" : Str))]
  | n + 1 => levelOn C (okL (sLv C (n + 1))) (wrdN C n)
theorem wrd_nodup (C : Ct) : ∀ n, (keysA (wrdN C n)).Nodup
  | 0 => by simp [wrdN, keysA]
  | n + 1 => foldW_nodup (by simp [keysA])
theorem wrd_get (C : Ct) : ∀ n t, getA (wrdN C n) t = getA (lvl C n) t
  | 0, _ => rfl
  | n + 1, t => by
    rw [lvl_succ]
    show getA (foldW _ (movesOf C (wrdN C n)) []) t = getA (foldW _ (movesOf C (lvl C n)) []) t
    refine foldW_ext fun w => ?_
    have mem : ∀ q, q ∈ wrdN C n ↔ q ∈ lvl C n := fun q => by
      have h := wrd_get C n q.1
      constructor
      · intro hq
        have := mem_getA (wrd_nodup C n) (show (q.1, q.2) ∈ wrdN C n from hq)
        rw [h] at this
        exact getA_mem this
      · intro hq
        have := mem_getA (lvl_nodup C n) (show (q.1, q.2) ∈ lvl C n from hq)
        rw [← h] at this
        exact getA_mem this
    have mv : ((t, w) ∈ movesOf C (wrdN C n)) ↔ ((t, w) ∈ movesOf C (lvl C n)) := by
      rw [mem_moves, mem_moves]
      constructor
      · rintro ⟨q, hq, r⟩
        exact ⟨q, (mem q).mp hq, r⟩
      · rintro ⟨q, hq, r⟩
        exact ⟨q, (mem q).mpr hq, r⟩
    rw [mv]
    refine and_congr_left fun hm => ?_
    unfold okL
    rw [decide_eq_true_eq, sLv_mem, lvl_succ, level_has]
    exact ⟨fun h => h.1, fun h => ⟨h, w, hm⟩⟩
theorem wrd_mem {C : Ct} {n : Nat} {q : Sg × Str} : q ∈ wrdN C n ↔ q ∈ lvl C n := by
  have h := wrd_get C n q.1
  constructor
  · intro hq
    have := mem_getA (wrd_nodup C n) (show (q.1, q.2) ∈ wrdN C n from hq)
    rw [h] at this
    exact getA_mem this
  · intro hq
    have := mem_getA (lvl_nodup C n) (show (q.1, q.2) ∈ lvl C n from hq)
    rw [← h] at this
    exact getA_mem this
theorem wrd_len (C : Ct) (n : Nat) : (wrdN C n).length ≤ (lvl C n).length := by
  have h := len_of_sub (l := keysA (wrdN C n)) (m := keysA (lvl C n)) (wrd_nodup C n) fun t ht => by
    obtain ⟨q, hq, rfl⟩ := List.mem_map.mp ht
    exact List.mem_map_of_mem (f := (·.1)) (wrd_mem.mp hq)
  unfold keysA at h
  rw [List.length_map, List.length_map] at h
  exact h
theorem op_inDK {X : Cx} {K : PySem.W.Frag} (e : X.K = K) (hu : X.A.units + 65 < cLine) : OpR X (compareOp .In) (rInD K) := by
  subst e
  exact op_inD hu
theorem cut_drop0 (xs : List V) (i : Nat) (h : i ≤ xs.length) : cutV xs (some (i : Int)) none = xs.drop i := by
  show (xs.drop _).take _ = _
  rw [HT.sIx_nat, show HT.sIx xs.length xs.length none = xs.length from rfl, Nat.min_eq_left h]
  exact List.take_of_length_le (by rw [List.length_drop]; omega)
theorem step_ifL {P : Program} {w : World} {K : PySem.W.Frag} {iT iS iL iW : Nat} {D : Ends} {σ : L2.St} {H : Hp} {b lr g : Addr} {t : Sg} {wd : Str} {lv : Lv} {ts : List Sg}
    (e1 : σ[iT]? = some (some (.ref b))) (e2 : σ[iS]? = some (some (.ref lr))) (e3 : σ[iL]? = some (some (.ref g))) (e4 : σ[iW]? = some (some (.str wd)))
    (hb : Rp K H (.ref b) (eSg t)) (hs : Dp K H (.ref lr) (.list (ts.map eSg))) (hg : ED P w K eSg H g (vW lv)) (hl : lv.length < sizeLine)
    (h : ∀ H', (H' = H ∨ ∃ φ, H' = upd H g (.ext φ)) → ED P w K eSg H' g (vW (stepW (okL ts) lv (t, wd))) → D.nx σ H') :
    tIfS (tAnd (tTest (tOp (rInD K) (tVar iT) (tVar iS))) (tOr (tB (tENotIn P w K (tVar iT) (tVar iL))) (tTest (tOp (fun x y H Q => ∃ i j, x = V.str i ∧ y = V.str j ∧ Q (.bl (decide (i.cps.toList < j.cps.toList))) H) (tVar iW) (tEGet P w K (tVar iL) (tVar iT)))))) (sEPut P w K (tVar iL) (tVar iT) (tVar iW)) tNext D σ H := by
  have put : upWd lv t wd = putA lv t wd → okL ts t = true → sEPut P w K (tVar iL) (tVar iT) (tVar iW) D σ H := fun e o => by
    obtain ⟨φ, h1, h2⟩ := hg.put enc_sg hb (by rw [vW_len]; exact hl) (.str wd)
    refine ⟨_, e4, _, e3, _, e1, _, h1, h _ (.inr ⟨φ, rfl⟩) ?_⟩
    rw [vW_put] at h2
    unfold stepW
    rw [if_pos o, e]
    exact h2
  have stay : stepW (okL ts) lv (t, wd) = lv → D.nx σ H := fun e => h H (.inl rfl) (by rw [e]; exact hg)
  have l1 := lay_sg t
  have l2 := lay_sgs ts
  refine ⟨_, e1, _, e2, eSg t, ts.map eSg, hb.dp l1.2.2, hs, ?_, ?_, _, rfl, ?_⟩
  · have d1 : (eSg t).depth ≤ 64 := by omega
    simp only [SeqAt.shaped, Bool.and_eq_true, decide_eq_true_eq]
    exact ⟨l1.1, d1⟩
  · have d2 : PyData.depthAll (ts.map eSg) ≤ 3 := l2.2.1
    have d3 : (PyData.list (ts.map eSg)).depth ≤ 64 := by
      simp only [PyData.depth]
      omega
    simp only [SeqAt.shaped, Bool.and_eq_true, decide_eq_true_eq]
    exact ⟨l2.1, d3⟩
  rw [any_sg]
  by_cases o : t ∈ ts
  · rw [decide_eq_true o]
    have ok : okL ts t = true := decide_eq_true o
    have i2 := hg.r.in_ enc_sg hb
    rw [vW_get, Option.isSome_map] at i2
    refine iteT ⟨_, e1, _, e3, _, i2, _, rfl, ?_⟩
    cases hv : getA lv t with
    | none => exact iteT (iteT (put (by unfold upWd; rw [hv]) ok))
    | some v =>
      refine iteF ⟨_, e4, _, e3, _, e1, .str v, hg.r.get enc_sg hb (by rw [vW_get, hv]; rfl), _, _, rfl, rfl, _, rfl, ?_⟩
      show if wlt wd v = true then _ else _
      cases l : wlt wd v with
      | true => exact iteT (put (by unfold upWd; rw [hv]; exact if_pos l) ok)
      | false =>
        refine iteF (stay ?_)
        unfold stepW
        rw [if_pos ok]
        unfold upWd
        rw [hv]
        exact if_neg (by rw [l]; decide)
  · rw [decide_eq_false o]
    exact iteF (iteF (stay (by unfold stepW okL; rw [decide_eq_false o]; rfl)))
def spXWon (K : PySem.W.Frag) : Sp := fun vs H Q _ => ∃ (x y r : V) (d e : PyData) (C : Ct) (a : Addr) (rs : List Addr) (n : Nat), vs = [x, y, r, .ref a] ∧ Rp K H x d ∧ Side d C.M ∧ Rp K H y e ∧ Side e C.N ∧ Cok C ∧ Rp K H r (.tuple [.str C.M.z, .tuple (rowsD C.R)]) ∧ bndC C ≤ 700 ∧ LsL K H a rs ((List.range (n + 1)).map (sLv C)) ∧ Pre C n ∧
  ∀ H' v, WonV C n v → Same H H' → Q v H'
section
variable {P : Program} {w : World} {K : PySem.W.Frag} {mg : Str → Option Value} {base : Heap} {x1 x2 x3 x4 x5 x6 x7 : Addr} {y1 y2 y3 y4 y5 y6 y7 : FuncData}
theorem ok_xWon (T : LnTxt K mg x1 x2 x3 x4 x5 x6 x7 y1 y2 y3 y4 y5 y6 y7) {k : Nat} : FnOk P w K mg base CX0 (k + 4) x7 y7 ["one", "other", "rule", "levels"] (spXWon K) := by
  have GB : FnOk P w K mg base CX0 (k + 3) x3 y3 ["one", "other"] (spBounds K) := ok_xBounds T.ll.la.go
  have GG : FnOk P w K mg base CX0 (k + 3) x4 y4 ["one", "other", "rule", "bounds", "standing", "at"] (spGoes K) := ok_xGoes T.ll.la.go
  refine T.FXWon.ok scXWon (fun vs H Q E h => ?_) (fun cdv A outer s H vs Q E hr h => ?_)
  · obtain ⟨x, y, r, d, e, C, a, rs, n, rfl, _⟩ := h
    rfl
  · obtain ⟨x, y, r, d, e, C, a, rs, n, rfl, hx, hd, hy, he, hC, hr3, bnd, hll, pre, q⟩ := h
    have hu65 : (A.deeper (envOfC "_law_x_won" (defScope sXWon) s.heap.objs.size x7 cdv)).units + 65 < cLine := by have := hr.un; omega
    have hu : (A.deeper (envOfC "_law_x_won" (defScope sXWon) s.heap.objs.size x7 cdv)).units + 64 < cLine := by omega
    have hu16 : (A.deeper (envOfC "_law_x_won" (defScope sXWon) s.heap.objs.size x7 cdv)).units + 16 < cLine := by omega
    have hu9 : (A.deeper (envOfC "_law_x_won" (defScope sXWon) s.heap.objs.size x7 cdv)).units + 9 < cLine := by omega
    have hu0 : (A.deeper (envOfC "_law_x_won" (defScope sXWon) s.heap.objs.size x7 cdv)).units < cLine := by omega
    refine ⟨_, (Evl.pss_cut (ps_asg (pe_tup (pa_cons (pe_call GB hr (by rfl) T.ll.la.go.gXBounds T.ll.la.go.FXBounds.kp T.ll.la.go.bXBounds .nil pass0 (pa_cons (pv 0) (pa_cons (pv 1) pa_nil))) (pa_cons (pe_ndisp hu9 (pe_ix ix_list (pe_ix ix_list (pv 3) pe_int (fun _ _ => rfl)) pe_int (fun _ _ => rfl)) pe_str) pa_nil))) (pg_tup rfl (pgs_cons (pg_name (i := 4) scXWon.nd rfl (.inl rfl)) (pgs_cons (pg_name (i := 5) scXWon.nd rfl (.inr rfl)) pgs_nil))))
 (Evl.pss_cut (ps_for PassesOwn.never rfl (pi_list (pe_slice sl_list (pv 3) (po_some pe_int) po_none)) (pg_name (i := 6) scXWon.nd rfl (.inl rfl))
 (Evl.pss_cut (ps_set (i := 7) scXWon.nd rfl (.inl rfl) pe_enew)
 (Evl.pss_cut (ps_lock (ps_for PassesOwn.never rfl (pi_nkeys (pv 5)) (pg_name (i := 8) scXWon.nd rfl (.inl rfl))
 (pss_one (ps_for PassesOwn.never rfl (pi_enumS (by rfl) T.enumerate (pa_cons (pe_ix ix_tup (pv 0) pe_int (fun _ _ => rfl)) pa_nil)) (pg_tup rfl (pgs_cons (pg_name (i := 9) scXWon.nd rfl (.inl rfl)) (pgs_cons (pg_name (i := 10) scXWon.nd rfl (.inl rfl)) pgs_nil)))
 (Evl.pss_cut (ps_set (i := 11) scXWon.nd rfl (.inl rfl) (pe_op op_add_str (pe_egetK (P := P) (w := w) (K := K) rfl rfl rfl hu9 (pv 5) (pv 8) (fun _ _ => rfl)) (pv 10)))
 (pss_one (ps_for PassesOwn.never rfl (pi_list (pe_call GG hr (by rfl) T.ll.la.go.gXGoes T.ll.la.go.FXGoes.kp T.ll.la.go.bXGoes .nil pass0 (pa_cons (pv 0) (pa_cons (pv 1) (pa_cons (pv 2) (pa_cons (pv 4) (pa_cons (pv 8) (pa_cons (pv 9) pa_nil)))))))) (pg_name (i := 12) scXWon.nd rfl (.inl rfl))
 (pss_one (ps_if (PW.pt (pw_and (pt_cmpR (op_inDK (K := K) rfl hu65) (pv 12) (pv 6) (by rfl)) (pw_and1 (PW.pt (pw_or (pt_cmp (pc_enotin hu9 (pv 12) (pv 7))) (pw_or1 (pt_cmpR op_lt_str (pv 11) (pe_eget hu9 (pv 7) (pv 12) (fun _ _ => rfl)) (nomark _)))))))) (pss_one (ps_eput hu9 (pv 7) (pv 12) (pv 11) rfl)) pss_nil)))))))))
 (pss_one (ps_set (i := 5) scXWon.nd rfl (.inr rfl) (pv 7))))))
 (Evl.pss_cut (ps_set (i := 13) scXWon.nd rfl (.inl rfl) (pe_callB (cr_sortS hu16) (by rfl) T.ll.la.go.sorted (by decide +kernel) (pa_cons (pe_lock (pe_lc (own := [("standing", 8)]) (g := gName 8) (by rfl) scXWon.nd (pi_nkeys (pv 5)) (blkOk_by (N := ["one", "other", "rule", "levels", "bounds", "words", "level", "later", "standing", "at", "letter", "word", "more", "won"]) (sc := defScope sXWon) (by decide +kernel)) (fun _ _ _ _ _ => pg_name (i := 8) scXWon.nd rfl (Or.inl rfl)) (fun _ _ _ _ _ => (pts_one (pt_cmpR (op_eqDK (K := K) rfl hu) (pe_ix (ixT (K := K) rfl) (pv 8) pe_int (fun _ _ => rfl)) (pe_tup pa_nil) (nomark _)))) (fun _ _ _ _ _ => (pe_egetK (P := P) (w := w) (K := K) rfl rfl rfl hu9 (pv 5) (pv 8) (fun _ _ => rfl))))) pa_nil)))
 (pss_one (ps_ret (pe_ifExp (pt_cmpR (op_eqNil hu0) (pv 13) (pe_lst pa_nil) (nomark _)) pe_non (pe_ix ix_list (pv 13) pe_int (fun _ _ => rfl)))))))), ?_⟩
    have hx0 := hx
    obtain ⟨oa, osa, oxs, rfl, hoS, _, _, _⟩ := side_top hd hx
    have z3 := (ltr_pos hC.m.ltr).2
    have lrs := hll.len
    have tb0 := tot_le hC
    have lvb : ∀ m, (lvl C m).length ≤ 700 := fun m => Nat.le_trans (lvl_len_le C m) (Nat.le_trans (tot_le hC m) bnd)
    have pt := pre_tot pre
    have tn := tot_le hC n
    refine ⟨fun σ H1 => ∃ bt d, σ = [some (.ref oa), some y, some r, some (.ref a), some (.ref bt), some (.ref d)] ++ List.replicate 8 none ∧ Same H H1 ∧ SqT K H1 bt [.int C.over, .int C.below] ∧ ED P w K eSg H1 d (vW (wrdN C 0)), ?_, ?_⟩
    · obtain ⟨r0, us0, hr0, hu0, hU0⟩ := hll.get (Nat.zero_le n)
      rw [sLv_zero] at hU0
      obtain ⟨v0, hv0, rp0⟩ : ∃ v0, us0 = [v0] ∧ Rp K H v0 (eSg FIRSTg) := by
        cases hU0 with
        | cons h1 h2 =>
          cases h2
          exact ⟨_, rfl, h1⟩
      obtain ⟨ft, _, _, rfl, _⟩ := sg_top rp0
      subst hv0
      refine ⟨_, rfl, _, rfl, .ref oa, y, d, e, C.M, C.N, rfl, hx0, hd, hy, he, fun H1 bt R s1 nb hb => fun sd nsd => ?_⟩
      have x1 := s1.trans (same_upd (o := NdO P w sd []) nsd)
      have at0 : atI (rs.map V.ref) (0 : Int) = some (.ref r0) := atI_nat (j := 0) (by rw [List.getElem?_map, hr0]; rfl)
      refine ⟨_, rfl, a, _, 0, .ref r0, rfl, rfl, SqL.of (x1 _ _ hll.1), at0, r0, _, 0, .ref ft, rfl, rfl, SqL.of (x1 _ _ hu0), rfl, ft, eSg FIRSTg, rfl, rp0.go x1, enc_sg.tO _, enc_sg.kd _, upd_same, (by show 2 ≤ sizeLine; decide), fun u nu => ⟨u, _, rfl, SqT.of upd_same, rfl, _, _, rfl, _, _, rfl, rfl, bt, sd, rfl, ?_⟩⟩
      have x3 := same_new (o := NdO P w sd [(keyN (eSg FIRSTg), ft, .str "")]) (same_upd (o := NdO P w sd []) nsd) nsd
      have x4 := same_upd (o := HO.tup [V.ref bt, .ref sd]) nu
      have x34 := x3.trans x4
      exact ⟨s1.trans x34, same_tup x34 (SqT.of hb), ⟨_, x4 _ _ upd_same, .cons ⟨rfl, rp0.go (s1.trans x34), rfl⟩ .nil⟩⟩
    rintro σ H1 ⟨bt, d0, rfl, s1, hbt, hd0⟩
    refine ⟨fun σ H2 => ∃ d l6 l7 l8 l9 l10 l11 l12, σ = [some (.ref oa), some y, some r, some (.ref a), some (.ref bt), some (.ref d), l6, l7, l8, l9, l10, l11, l12, none] ∧ Same H1 H2 ∧ ED P w K eSg H2 d (vW (wrdN C n)), ?_, ?_⟩
    · refine ⟨_, rfl, 1, rfl, a, _, rfl, SqL.of (s1 _ _ hll.1), fun zl nz => ?_⟩
      have xz := same_upd (o := HO.lst (cutV (rs.map V.ref) (some 1) none)) nz
      have cut : cutV (rs.map V.ref) (some 1) none = (rs.drop 1).map V.ref := by
        exact (cut_drop0 (rs.map V.ref) 1 (by rw [List.length_map]; omega)).trans List.map_drop.symm
      rw [cut] at xz ⊢
      have hz : (upd H1 zl (HO.lst ((rs.drop 1).map V.ref))) zl = some (.lst ((rs.drop 1).map V.ref)) := upd_same
      generalize upd H1 zl (HO.lst ((rs.drop 1).map V.ref)) = H2 at xz hz ⊢
      refine ⟨zl, rfl, ⟨_, SqL.of hz⟩, ?_⟩
      refine for_list (K := K) (a := zl) (xs := (rs.drop 1).map V.ref) (fun i σ H3 => ∃ d l6 l7 l8 l9 l10 l11 l12, σ = [some (.ref oa), some y, some r, some (.ref a), some (.ref bt), some (.ref d), l6, l7, l8, l9, l10, l11, l12, none] ∧ Same H2 H3 ∧ ED P w K eSg H3 d (vW (wrdN C i))) ⟨d0, none, none, none, none, none, none, none, rfl, Same.refl _, hd0.same enc_sg xz⟩ (fun i σ H3 _ ⟨_, _, _, _, _, _, _, _, _, s3, _⟩ => SqL.of (s3 _ _ hz)) ?_ ?_
      · rintro i v σ H3 hv ⟨d', l6, l7, l8, l9, l10, l11, l12, rfl, s3, hd3⟩
        have hi : i < n := by
          have := (List.getElem?_eq_some_iff.mp hv).1
          rw [List.length_map, List.length_drop] at this
          omega
        obtain ⟨lr, us, hlr, hu1, hU1⟩ := hll.get (show i + 1 ≤ n by omega)
        rw [List.getElem?_map, List.getElem?_drop, Nat.add_comm, hlr] at hv
        obtain rfl : V.ref lr = v := Option.some.inj hv
        have sA : Same H H3 := (s1.trans xz).trans s3
        refine ⟨fun σ H4 => ∃ g, σ = [some (.ref oa), some y, some r, some (.ref a), some (.ref bt), some (.ref d'), some (.ref lr), some (.ref g), l8, l9, l10, l11, l12, none] ∧ H3 g = none ∧ H4 = upd H3 g (NdO P w g []), ?_, ?_⟩
        · exact fun g ng => ⟨g, rfl, ng, rfl⟩
        rintro σ H4 ⟨g, rfl, ng, rfl⟩
        obtain ⟨xd, hxd, kx⟩ := hd3
        have dg : d' ≠ g := ne_of_none hxd ng
        refine ⟨fun σ H5 => (∃ l8 l9 l10 l11 l12, σ = [some (.ref oa), some y, some r, some (.ref a), some (.ref bt), some (.ref d'), some (.ref lr), some (.ref g), l8, l9, l10, l11, l12, none]) ∧ Same H3 H5 ∧ ED P w K eSg H5 g (vW (wrdN C (i + 1))), ?_, ?_⟩
        · refine ⟨d', NdO P w d' xd, (by rw [upd_ne dg]; exact hxd), trivial, fun od => ?_⟩
          refine ⟨_, rfl, d', od, xd, rfl, upd_same, ?_⟩
          have sb : Same (upd H3 d' (.frz od (NdO P w d' xd))) (upd (upd H3 g (NdO P w g [])) d' (.frz od (NdO P w d' xd))) := fun b o e => by
            by_cases z : b = d'
            · rw [z, upd_same] at e ⊢
              exact e
            · rw [upd_ne z] at e ⊢
              rw [upd_ne (fun y => by rw [y, ng] at e; cases e)]
              exact e
          generalize hHb : upd H3 d' (.frz od (NdO P w d' xd)) = Hb at sb
          have nb : Hb g = none := by rw [← hHb, upd_ne (Ne.symm dg)]; exact ng
          have hbr : Hb d' = some (.frz od (NdO P w d' xd)) := by rw [← hHb]; exact upd_same
          have tb : TStay K H3 Hb := by
            rw [← hHb]
            exact ts_upd hxd (fun _ z => nomatch z) (fun _ _ z => nomatch z)
          have back : ∀ H5, Same Hb H5 → Same H3 (upd H5 d' (NdO P w d' xd)) := fun H5 s5 b o e => by
            by_cases z : b = d'
            · rw [z, upd_same, ← hxd, ← z, e]
            · rw [upd_ne z]
              refine s5 b o ?_
              rw [← hHb, upd_ne z]
              exact e
          have lrd : lr ≠ d' := fun z => by
            have := sA _ _ hu1
            rw [z, hxd] at this
            cases this
          have hlb : Hb lr = some (.lst us) := by
            rw [← hHb, upd_ne lrd]
            exact sA _ _ hu1
          have tA : TStay K H Hb := (ts_same sA).trans tb
          have hUb := rpAll_ts tA hU1 (tOs_map enc_sg.tO _)
          have hdb : EDr P w K eSg Hb d' (vW (wrdN C i)) := ⟨xd, .inr ⟨od, hbr⟩, kx.ts enc_sg tb⟩
          have lw := wrd_len C i
          have lb := lvb i
          have lx : xd.length = (wrdN C i).length := by
            have := Paired.length kx
            rw [vW_len] at this
            exact this
          have flen : ∀ ps : Lv, ps.length ≤ 9 * (wrdN C i).length + 20 → (foldW (okL (sLv C (i + 1))) ps []).length < sizeLine := fun ps hp => by
            have := foldW_len (ok := okL (sLv C (i + 1))) (ps := ps) (D := [])
            rw [List.length_nil] at this
            exact Nat.lt_of_le_of_lt (show _ ≤ 1000000 by omega) (by decide)
          refine for_it walk_nkeys (fun m σ H5 => (∃ l8 l9 l10 l11 l12, σ = [some (.ref oa), some y, some r, some (.ref a), some (.ref bt), some (.ref d'), some (.ref lr), some (.ref g), l8, l9, l10, l11, l12, none]) ∧ Same Hb H5 ∧ ED P w K eSg H5 g (vW (foldW (okL (sLv C (i + 1))) (movesOf C ((wrdN C i).take m)) []))) ⟨⟨_, _, _, _, _, rfl⟩, sb, .nil (by rw [upd_ne (Ne.symm dg)]; exact upd_same)⟩ (fun i σ H5 _ h => h.2.1 _ _ hbr) ?_ ?_
          · rintro m x σ H5 H5' hm ⟨⟨l8, l9, l10, l11, l12, rfl⟩, s5, hg5⟩ ⟨rfl, ee, hee, rfl⟩
            obtain ⟨p, hp, rp⟩ := kx.at hee
            obtain ⟨qq, hq, rfl⟩ : ∃ qq : Sg × Str, (wrdN C i)[m]? = some qq ∧ p = (qq.1, V.str qq.2) := by
              unfold vW at hp
              rw [List.getElem?_map] at hp
              obtain ⟨qq, h1, h2⟩ := Option.map_eq_some_iff.mp hp
              exact ⟨qq, h1, h2.symm⟩
            have memq : qq ∈ wrdN C i := List.mem_of_getElem? hq
            obtain ⟨sk, wl⟩ := lvl_ok hC i qq (wrd_mem.mp memq)
            have rpb : Rp K Hb (.ref ee.2.1) (eSg qq.1) := rp_ts tb rp (enc_sg.tO _)
            have gq : getA (vW (wrdN C i)) qq.1 = some (.str qq.2) := by
              rw [vW_get, mem_getA (wrd_nodup C i) (show (qq.1, qq.2) ∈ wrdN C i from memq)]
              rfl
            refine ⟨_, rfl, oa, _, 1, _, rfl, rfl, (tA.trans (ts_same s5)) _ _ hoS, rfl, C.M.z, rfl, ?_⟩
            refine for_it walk_enumS (fun j σ H6 => (∃ l9 l10 l11 l12, σ = [some (.ref oa), some y, some r, some (.ref a), some (.ref bt), some (.ref d'), some (.ref lr), some (.ref g), some (.ref ee.2.1), l9, l10, l11, l12, none]) ∧ Same Hb H6 ∧ ED P w K eSg H6 g (vW (foldW (okL (sLv C (i + 1))) (movesOf C ((wrdN C i).take m) ++ ((List.range C.M.z.length).take j).flatMap (stepsOf C qq)) []))) ⟨⟨_, _, _, _, rfl⟩, s5, by rw [List.take_zero, List.flatMap_nil, List.append_nil]; exact hg5⟩ (fun _ _ _ _ _ => trivial) ?_ ?_
            · rintro j u σ H6 H7 hj ⟨⟨l9, l10, l11, l12, rfl⟩, s6, hg6⟩ ⟨T2, cc, rfl, nT, rfl, hcc⟩
              have sT := same_upd (o := HO.tup [.int (j : Nat), .str ⟨#[cc]⟩]) nT
              have s7 := s6.trans sT
              have hg7 := hg6.same enc_sg sT
              have hj2 : j < C.M.z.length := hj
              have el : ltrS C.M.z j = ⟨#[cc]⟩ := by
                unfold ltrS
                rw [Array.getD_eq_getD_getElem?, hcc]
                rfl
              refine ⟨T2, _, rfl, SqT.of upd_same, rfl, _, _, rfl, _, _, rfl, rfl, ?_⟩
              refine ⟨fun σ H8 => σ = [some (.ref oa), some y, some r, some (.ref a), some (.ref bt), some (.ref d'), some (.ref lr), some (.ref g), some (.ref ee.2.1), some (.int (j : Nat)), some (.str ⟨#[cc]⟩), some (.str (qq.2 ++ ⟨#[cc]⟩)), l12, none] ∧ H8 = upd H6 T2 (HO.tup [.int (j : Nat), .str ⟨#[cc]⟩]), ?_, ?_⟩
              · refine ⟨_, rfl, _, rfl, .str qq.2, (hdb.same enc_sg s7).get enc_sg (rp_ts (ts_same s7) rpb (enc_sg.tO _)) gq, _, rfl, _, _, rfl, rfl, ?_, rfl, rfl⟩
                rw [wl]
                exact Nat.le_trans (show i + 1 ≤ 100001 by omega) (by decide)
              rintro σ H8 ⟨rfl, rfl⟩
              generalize upd H6 T2 (HO.tup [.int (j : Nat), .str ⟨#[cc]⟩]) = H8 at s7 hg7 ⊢
              have t8 : TStay K H H8 := tA.trans (ts_same s7)
              refine ⟨_, rfl, _, rfl, _, rfl, _, rfl, _, rfl, _, rfl, .ref oa, y, r, .ref ee.2.1, d, e, C, qq.1, j, bt, rfl, rp_ts t8 hx0 (side_tO hd), hd, rp_ts t8 hy (side_tO he), he, hC, rp_ts t8 hr3 (by simp only [tO, tOs, Bool.true_and, Bool.and_true]; exact tOs_rowsD C.R), (ts_same ((xz.trans s3))).trans (tb.trans (ts_same s7)) _ _ hbt, rp_ts (ts_same s7) rpb (enc_sg.tO _), sk, hj2, fun H9 l us2 s9 nl hl9 hU => ?_⟩
              refine ⟨l, rfl, ⟨_, SqL.of hl9⟩, ?_⟩
              have s9' := s7.trans s9
              have hg9 := hg7.same enc_sg s9
              have gl : g ≠ l := by
                obtain ⟨φ, hφ⟩ := hg7.mut
                exact ne_of_none hφ nl
              refine for_list (K := K) (a := l) (xs := us2) (fun m2 σ H10 => (∃ l12, σ = [some (.ref oa), some y, some r, some (.ref a), some (.ref bt), some (.ref d'), some (.ref lr), some (.ref g), some (.ref ee.2.1), some (.int (j : Nat)), some (.str ⟨#[cc]⟩), some (.str (qq.2 ++ ⟨#[cc]⟩)), l12, none]) ∧ Same Hb H10 ∧ H10 l = some (.lst us2) ∧ RpAll K H10 us2 ((succOf C j qq.1).map eSg) ∧ ED P w K eSg H10 g (vW (foldW (okL (sLv C (i + 1))) ((movesOf C ((wrdN C i).take m) ++ ((List.range C.M.z.length).take j).flatMap (stepsOf C qq)) ++ (stepsOf C qq j).take m2) []))) ⟨⟨_, rfl⟩, s9', hl9, hU, by rw [List.take_zero, List.append_nil]; exact hg9⟩ (fun m σ H10 _ h => SqL.of h.2.2.1) ?_ ?_
              · rintro m2 v σ H10 hv2 ⟨⟨l12, rfl⟩, s10, hl10, hU10, hg10⟩
                obtain ⟨t, ht, rt2⟩ := rpAll_back hU10 hv2
                obtain ⟨tb2, _, _, rfl, _⟩ := sg_top rt2
                have tk : (stepsOf C qq j)[m2]? = some (t, qq.2 ++ ⟨#[cc]⟩) := by
                  unfold stepsOf
                  rw [List.getElem?_map, ht, ← el]
                  rfl
                refine step_ifL (iT := 12) (iS := 6) (iL := 7) (iW := 11) (ts := sLv C (i + 1)) rfl rfl rfl rfl rt2 (.lst (SqL.of (s10 _ _ hlb)) (RpAll.dp (rpAll_ts (ts_same s10) hUb (tOs_map enc_sg.tO _)) (lay_sgs _).2.2)) hg10 (flen _ ?_) fun H11 how hg11 => ?_
                · have h1 := moves_len hC ((wrdN C i).take m)
                  have h2 := List.length_take_le' m (wrdN C i)
                  have h3 := flat_len (g := stepsOf C qq) (n := 3) ((List.range C.M.z.length).take j) fun i _ => by
                    unfold stepsOf
                    rw [List.length_map]
                    exact succ_len hC
                  have h4 := List.length_take_le' j (List.range C.M.z.length)
                  rw [List.length_range] at h4
                  have h6 := List.length_take_le' m2 (stepsOf C qq j)
                  have h7 : (stepsOf C qq j).length ≤ 3 := by
                    unfold stepsOf
                    rw [List.length_map]
                    exact succ_len hC
                  rw [List.length_append, List.length_append]
                  omega
                · have st : foldW (okL (sLv C (i + 1))) ((movesOf C ((wrdN C i).take m) ++ ((List.range C.M.z.length).take j).flatMap (stepsOf C qq)) ++ (stepsOf C qq j).take (m2 + 1)) [] = stepW (okL (sLv C (i + 1))) (foldW (okL (sLv C (i + 1))) ((movesOf C ((wrdN C i).take m) ++ ((List.range C.M.z.length).take j).flatMap (stepsOf C qq)) ++ (stepsOf C qq j).take m2) []) (t, qq.2 ++ ⟨#[cc]⟩) := by
                    rw [List.take_succ, tk, ← List.append_assoc, foldW_app]
                    rfl
                  rw [← st] at hg11
                  rcases how with rfl | ⟨φ, rfl⟩
                  · exact ⟨⟨_, rfl⟩, s10, hl10, hU10, hg11⟩
                  · obtain ⟨φ2, hφ⟩ := hg10.mut
                    exact ⟨⟨_, rfl⟩, same_put s10 nb, by rw [upd_ne gl.symm]; exact hl10, rpAll_ts (ts_upd hφ (fun _ z => nomatch z) (fun _ _ z => nomatch z)) hU10 (tOs_map enc_sg.tO _), hg11⟩
              · rintro σ H10 ⟨⟨l12, rfl⟩, s10, hl10, hU10, hg10⟩
                refine ⟨⟨_, _, _, _, rfl⟩, s10, ?_⟩
                have : us2.length = (stepsOf C qq j).length := by
                  unfold stepsOf
                  rw [hU10.len, List.length_map, List.length_map]
                rw [this, List.take_length] at hg10
                rw [from_take hj2, ← List.append_assoc]
                exact hg10
            · rintro σ H6 ⟨⟨l9, l10, l11, l12, rfl⟩, s6, hg6⟩
              refine ⟨⟨_, _, _, _, _, rfl⟩, s6, ?_⟩
              rw [moves_take hq]
              have : (List.range C.M.z.length).take C.M.z.cps.size = List.range C.M.z.length := List.take_of_length_le (by rw [List.length_range]; exact Nat.le_refl _)
              rw [this] at hg6
              exact hg6
          · rintro σ H5 ⟨⟨l8, l9, l10, l11, l12, rfl⟩, s5, hg5⟩
            refine ⟨s5 _ _ hbr, ⟨_, _, _, _, _, rfl⟩, back H5 s5, ?_⟩
            rw [lx, List.take_length] at hg5
            exact hg5.ts enc_sg (ts_upd (s5 _ _ hbr) (fun _ z => nomatch z) (fun _ _ z => by cases z)) fun o e => by rw [upd_ne (Ne.symm dg)]; exact e
        rintro σ H5 ⟨⟨l8, l9, l10, l11, l12, rfl⟩, s5, hg5⟩
        exact ⟨_, rfl, g, _, _, _, _, _, _, _, rfl, s3.trans s5, hg5⟩
      · rintro σ H3 ⟨d', l6, l7, l8, l9, l10, l11, l12, rfl, s3, hd3⟩
        refine ⟨d', _, _, _, _, _, _, _, rfl, xz.trans s3, ?_⟩
        rw [show ((rs.drop 1).map V.ref).length = n by rw [List.length_map, List.length_drop]; omega] at hd3
        exact hd3
    rintro σ H2 ⟨d', l6, l7, l8, l9, l10, l11, l12, rfl, s2, hd2⟩
    refine ⟨fun σ H3 => ∃ (wl : Addr) (ys : List Str) (l8 : Option V), σ = [some (.ref oa), some y, some r, some (.ref a), some (.ref bt), some (.ref d'), l6, l7, l8, l9, l10, l11, l12, some (.ref wl)] ∧ Same H2 H3 ∧ H3 wl = some (.lst (ys.map V.str)) ∧ ys.Perm (((wrdN C n).filter fun q => wonG q.1).map (·.2)) ∧ ys.Pairwise fun a b => wlt b a = false, ?_, ?_⟩
    · obtain ⟨xd, hxd, kx⟩ := hd2
      refine ⟨d', NdO P w d' xd, hxd, trivial, fun od => ?_⟩
      refine ⟨_, rfl, d', od, xd, rfl, upd_same, fun D nD => ?_⟩
      have dD : d' ≠ D := ne_of_none (o := .frz od (NdO P w d' xd)) upd_same nD
      have nD0 : H2 D = none := by rw [upd_ne dD.symm] at nD; exact nD
      have tb : TStay K H2 (upd H2 d' (.frz od (NdO P w d' xd))) := ts_upd hxd (fun _ z => nomatch z) (fun _ _ z => nomatch z)
      have hdb : EDr P w K eSg (upd H2 d' (.frz od (NdO P w d' xd))) d' (vW (wrdN C n)) := ⟨xd, .inr ⟨od, upd_same⟩, kx.ts enc_sg tb⟩
      have lx : xd.length = (wrdN C n).length := by
        have := Paired.length kx
        rw [vW_len] at this
        exact this
      have lw := wrd_len C n
      have lb := lvb n
      refine lc_it walk_nkeys (fun i H' => Same (upd H2 d' (.frz od (NdO P w d' xd))) H' ∧ H' D = some (.lst (((((wrdN C n).take i).filter fun q => wonG q.1).map (·.2)).map V.str))) ⟨same_upd nD, upd_same⟩ (fun i H' _ h => h.1 _ _ upd_same) ?_ ?_
      · rintro i u H' H2' hi ⟨s5, hD⟩ ⟨rfl, ee, hee, rfl⟩
        obtain ⟨p, hp, rp⟩ := kx.at hee
        obtain ⟨qq, hq, rfl⟩ : ∃ qq : Sg × Str, (wrdN C n)[i]? = some qq ∧ p = (qq.1, V.str qq.2) := by
          unfold vW at hp
          rw [List.getElem?_map] at hp
          obtain ⟨qq, h1, h2⟩ := Option.map_eq_some_iff.mp hp
          exact ⟨qq, h1, h2.symm⟩
        have rpb := rp_ts (tb.trans (ts_same s5)) rp (enc_sg.tO _)
        obtain ⟨sa, la, vs, e9, hS4, hS5, hA5⟩ := sg_top rpb
        have gq : getA (vW (wrdN C n)) qq.1 = some (.str qq.2) := by
          rw [vW_get, mem_getA (wrd_nodup C n) (show (qq.1, qq.2) ∈ wrdN C n from List.mem_of_getElem? hq)]
          rfl
        have stepF : ((wrdN C n).take (i + 1)).filter (fun q => wonG q.1) = ((wrdN C n).take i).filter (fun q => wonG q.1) ++ (if wonG qq.1 = true then [qq] else []) := by
          rw [List.take_succ, hq, List.filter_append]
          congr 1
          show List.filter (fun q : Sg × Str => wonG q.1) [qq] = _
          rw [List.filter_cons]
          rfl
        refine ⟨rfl, ?_⟩
        refine ⟨_, rfl, sa, _, 2, _, e9, rfl, hS4, rfl, by show 0 ≤ sizeLine; decide, fun e0 ne0 => ?_⟩
        have sn := same_upd (o := HO.tup []) ne0
        refine ⟨_, _, (Rp.tup (same_tup sn hS5) (rpAll_ts (ts_same sn) hA5 (tOs_map tO_eP _))).dp (by rw [PyData.hasDict]; exact (lay_eP qq.1.L).2.2), (Rp.tup (SqT.of upd_same) .nil).dp (by simp [PyData.hasDict, PyData.hasDictAll]), shaped_L qq.1.L, rfl, _, rfl, ?_⟩
        rw [eqv_nil]
        show if wonG qq.1 = true then _ else _
        cases hw : wonG qq.1 with
        | true =>
          refine iteT ⟨_, rfl, _, rfl, .str qq.2, (hdb.same enc_sg (s5.trans sn)).get enc_sg (rp_ts (ts_same sn) rpb (enc_sg.tO _)) gq, _, sn _ _ hD, ?_, same_new (s5.trans sn) nD, ?_⟩
          · rw [List.length_map, List.length_map]
            have h1 := List.length_filter_le (fun q : Sg × Str => wonG q.1) ((wrdN C n).take i)
            have h2 := List.length_take_le' i (wrdN C n)
            exact Nat.lt_of_le_of_lt (show _ ≤ 2000 by omega) (by decide)
          · rw [upd_same, stepF, if_pos hw, List.map_append, List.map_append]
            rfl
        | false =>
          refine iteF ⟨s5.trans sn, ?_⟩
          rw [stepF, if_neg (by rw [hw]; decide), List.append_nil]
          exact sn _ _ hD
      · rintro H' ⟨s5, hD⟩
        rw [lx, List.take_length] at hD
        have backD : Same H2 (upd H' d' (NdO P w d' xd)) := fun b o e => by
          by_cases z : b = d'
          · rw [z, upd_same, ← hxd, ← z, e]
          · rw [upd_ne z]
            exact s5 b o (by rw [upd_ne z]; exact e)
        exact ⟨s5 _ _ upd_same, D, _, rfl, SqL.of (by rw [upd_ne dD.symm]; exact hD), fun ys p perm srt np => ⟨p, ys, l8, rfl, backD.trans (same_upd np), upd_same, perm, srt⟩⟩
    rintro σ H3 ⟨wl, ys, l8', rfl, s3, hwl, perm, srt⟩
    have sZ : Same H H3 := (s1.trans s2).trans s3
    have memW : ∀ w, w ∈ ys ↔ ∃ t, (t, w) ∈ lvl C n ∧ wonG t = true := fun w => by
      rw [perm.mem_iff]
      constructor
      · intro h
        obtain ⟨q, h1, rfl⟩ := List.mem_map.mp h
        obtain ⟨h2, h3⟩ := List.mem_filter.mp h1
        exact ⟨q.1, wrd_mem.mp h2, h3⟩
      · rintro ⟨t, h1, h2⟩
        exact List.mem_map.mpr ⟨(t, w), List.mem_filter.mpr ⟨wrd_mem.mpr h1, h2⟩, rfl⟩
    refine ⟨_, rfl, (by show 0 ≤ sizeLine; decide), fun e0 ne0 => ⟨wl, e0, _, rfl, rfl, SqL.of (same_upd ne0 _ _ hwl), SqL.of upd_same, _, rfl, ?_⟩⟩
    have sn := same_upd (o := HO.lst []) ne0
    cases ys with
    | nil =>
      refine iteT (q _ .non (.inl ⟨?_, rfl⟩) (sZ.trans sn))
      rcases SrtO.bcase (wonN C n) with z | z
      · obtain ⟨t, h1, h2⟩ := List.any_eq_true.mp z
        obtain ⟨p, hp, rfl⟩ := List.mem_map.mp h1
        have := (memW p.2).mpr ⟨p.1, hp, h2⟩
        cases this
      · exact z
    | cons m ys =>
      refine iteF ⟨_, rfl, wl, _, 0, .str m, rfl, rfl, SqL.of (sn _ _ hwl), atI_nat (j := 0) rfl, q _ (.str m) (.inr ⟨m, rfl, (memW m).mp (.head _), fun t w' h1 h2 => ?_⟩) (sZ.trans sn)⟩
      rcases List.mem_cons.mp ((memW w').mpr ⟨t, h1, h2⟩) with rfl | h3
      · exact wlt_irrefl _
      · exact (List.pairwise_cons.mp srt).1 _ h3
end
end My
/-! ### the law's sides -/
namespace My
open PySem PySem.Spec PyProof.Rows L2 PySem.Builtin.Str
abbrev sXSides : Stmt := topS 67
theorem scXSides : FnScope ["pen", "letters", "base", "most", "wide", "found", "many", "machine"] ["pen"] (defScope sXSides) := ⟨rfl, rfl, rfl, by decide +kernel, rfl, by decide +kernel, by decide +kernel⟩
structure SiTxt (K : PySem.W.Frag) (mg : Str → Option Value) (x1 x2 x8 xl xm xp xf xs : Addr) (y1 y2 y8 yl ym yp yf ys : FuncData) : Prop where
  bl : BlTxt K mg xm xp xf xs ym yp yf ys
  let_ : LetTxt K mg x1 y1
  rul : RulTxt K mg x2 y2
  max : mg "max" = none
  min : mg "min" = none
  FXSides : Fun K "_law_x_sides" "_law_x_sides" sXSides x8 y8
  bXSides : Binds K y8 ["pen"] []
  gXSides : mg "_law_x_sides" = some (.ref x8)
def PayIn (wd : Int) (M : Mc) : Prop := ∀ cs ∈ M.C, ∀ ps ∈ cs, ∀ p ∈ ps, -wd ≤ p.1 ∧ p.1 ≤ wd
theorem pays_in {wd : Int} {M : Mc} (h : PayIn wd M) : ∀ y ∈ paysL M, -wd ≤ y ∧ y ≤ wd := fun y hy => by
  unfold paysL at hy
  obtain ⟨cs, hcs, hy⟩ := List.mem_flatMap.mp hy
  obtain ⟨ps, hps, hy⟩ := List.mem_flatMap.mp hy
  obtain ⟨p, hp, rfl⟩ := List.mem_map.mp hy
  exact h cs hcs ps hps p hp
theorem bnd_le {C : Ct} (h : Cok C) {wd : Int} (hm : PayIn wd C.M) (hn : PayIn wd C.N) (w0 : 0 ≤ wd) {r a c : Nat} (hr : C.R.length ≤ r) (ha : C.M.C.length ≤ a) (hc : C.N.C.length ≤ c) : bndC C ≤ r * (a * ((4 * wd).toNat + 1) ^ c) + 1 := by
  have a1 := pays_in hm _ (maxL_mem (pays_ne h.m))
  have a2 := pays_in hm _ (minL_mem (pays_ne h.m))
  have a3 := pays_in hn _ (maxL_mem (pays_ne h.n))
  have a4 := pays_in hn _ (minL_mem (pays_ne h.n))
  have b : (C.over + C.below).toNat + 1 ≤ (4 * wd).toNat + 1 := by
    unfold Ct.over Ct.below
    omega
  unfold bndC
  refine Nat.succ_le_succ (Nat.mul_le_mul hr (Nat.mul_le_mul ha ?_))
  exact Nat.le_trans (Nat.pow_le_pow_left b _) (Nat.pow_le_pow_right (Nat.succ_pos _) hc)
/-- the sizes and pays that the law draws -/
inductive Szs : Int → Int → Prop
  | a : Szs 1 20
  | b : Szs 2 2
  | c : Szs 3 1
  | d : Szs 2 1
  | e : Szs 4 1
def secM (most : Int) : Int := max 1 (min most (5 - most))
def rulM (most : Int) : Int := [4, 4, 2, 1].getD (most - 1).toNat 0
theorem szs_le {most wide : Int} (s : Szs most wide) {C : Ct} (h : Cok C) (hm : PayIn wide C.M) (hn : PayIn wide C.N) (hr : (C.R.length : Int) ≤ rulM most) (hs : (C.M.C.length : Int) ≤ most ∧ (C.N.C.length : Int) ≤ secM most ∨ (C.M.C.length : Int) ≤ secM most ∧ (C.N.C.length : Int) ≤ most) : bndC C ≤ 700 := by
  cases s with
  | a =>
    have e1 : rulM 1 = 4 := by decide
    have e2 : secM 1 = 1 := by decide
    rw [e1] at hr
    rw [e2] at hs
    exact Nat.le_trans (bnd_le h hm hn (by decide) (r := 4) (a := 1) (c := 1) (by omega) (by omega) (by omega)) (by decide)
  | b =>
    have e1 : rulM 2 = 4 := by decide
    have e2 : secM 2 = 2 := by decide
    rw [e1] at hr
    rw [e2] at hs
    exact Nat.le_trans (bnd_le h hm hn (by decide) (r := 4) (a := 2) (c := 2) (by omega) (by omega) (by omega)) (by decide)
  | c =>
    have e1 : rulM 3 = 2 := by decide
    have e2 : secM 3 = 2 := by decide
    rw [e1] at hr
    rw [e2] at hs
    rcases hs with hs | hs
    · exact Nat.le_trans (bnd_le h hm hn (by decide) (r := 2) (a := 3) (c := 2) (by omega) (by omega) (by omega)) (by decide)
    · exact Nat.le_trans (bnd_le h hm hn (by decide) (r := 2) (a := 2) (c := 3) (by omega) (by omega) (by omega)) (by decide)
  | d =>
    have e1 : rulM 2 = 4 := by decide
    have e2 : secM 2 = 2 := by decide
    rw [e1] at hr
    rw [e2] at hs
    exact Nat.le_trans (bnd_le h hm hn (by decide) (r := 4) (a := 2) (c := 2) (by omega) (by omega) (by omega)) (by decide)
  | e =>
    have e1 : rulM 4 = 1 := by decide
    have e2 : secM 4 = 1 := by decide
    rw [e1] at hr
    rw [e2] at hs
    rcases hs with hs | hs
    · exact Nat.le_trans (bnd_le h hm hn (by decide) (r := 1) (a := 4) (c := 1) (by omega) (by omega) (by omega)) (by decide)
    · exact Nat.le_trans (bnd_le h hm hn (by decide) (r := 1) (a := 1) (c := 4) (by omega) (by omega) (by omega)) (by decide)
/-- a small contest -/
structure Sml (C : Ct) : Prop where
  m4 : C.M.C.length ≤ 4
  n4 : C.N.C.length ≤ 4
  ov : C.over ≤ 40
  bl : C.below ≤ 40
theorem szs_sml {most wide : Int} (s : Szs most wide) {C : Ct} (h : Cok C) (hm : PayIn wide C.M) (hn : PayIn wide C.N) (hs : (C.M.C.length : Int) ≤ most ∧ (C.N.C.length : Int) ≤ secM most ∨ (C.M.C.length : Int) ≤ secM most ∧ (C.N.C.length : Int) ≤ most) : Sml C := by
  have g : most ≤ 4 ∧ secM most ≤ 4 ∧ wide ≤ 20 := by cases s <;> decide
  have a1 := pays_in hm _ (maxL_mem (pays_ne h.m))
  have a2 := pays_in hm _ (minL_mem (pays_ne h.m))
  have a3 := pays_in hn _ (maxL_mem (pays_ne h.n))
  have a4 := pays_in hn _ (minL_mem (pays_ne h.n))
  refine ⟨by omega, by omega, ?_, ?_⟩
  · unfold Ct.over
    omega
  · unfold Ct.below
    omega
theorem letters_take {l : List Nat} (h : lettersL l = true) : lettersL (l.take 2) = true := by
  match l, h with
  | [a], h => exact h
  | [a, b], h => exact h
  | [a, b, c], h =>
    simp only [lettersL, Bool.and_eq_true, decide_eq_true_eq] at h
    simp only [List.take_succ_cons, List.take_zero, lettersL, Bool.and_eq_true, decide_eq_true_eq]
    omega
theorem letters_cut {z : Str} (h : lettersL z.cps.toList = true) : lettersL (cutS z none (some 2)).cps.toList = true := by
  have e : (cutS z none (some 2)).cps.toList = z.cps.toList.take 2 := by
    have l : z.cps.toList.length = z.length := Array.length_toList
    show ((((z.cps.toList.drop (HT.sIx z.length 0 none)).take (HT.sIx z.length z.length (some 2) - HT.sIx z.length 0 none)).toArray)).toList = _
    rw [show HT.sIx z.length 0 none = 0 from rfl, show (2 : Int) = ((2 : Nat) : Int) from rfl, HT.sIx_nat, List.drop_zero, Nat.sub_zero]
    rcases Nat.le_total 2 z.length with q | q
    · rw [Nat.min_eq_left q]
    · rw [Nat.min_eq_right q, List.take_of_length_le (by omega), List.take_of_length_le (by omega)]
  rw [e]
  exact letters_take h
/-- one side: what stands at t -/
structure Sde (K : PySem.W.Frag) (H : Hp) (b : Int) (z : Str) (wide : Int) (x : V) (d : PyData) (M : Mc) : Prop where
  r : Rp K H x d
  s : Side d M
  b : M.b = b
  z : M.z = z
  w : PayIn wide M
def spSides (K : PySem.W.Frag) : Sp := fun vs H Q _ => ∃ (p : Addr) (n : Nat), vs = [.ref p] ∧ Pen H p n ∧ n < 1044000 ∧
  ∀ (H' : Hp) (t : Addr) (x y r : V) (d e : PyData) (C : Ct), But p H H' → Pen H' p (n + 400) → t ≠ p → H' t = some (.tup [x, y, r]) → Rp K H' x d → Side d C.M → Rp K H' y e → Side e C.N → Rp K H' r (.tuple [.str C.M.z, .tuple (rowsD C.R)]) → rulD (.tuple [.str C.M.z, .tuple (rowsD C.R)]) = true → Cok C → bndC C ≤ 700 → Sml C → Q (.ref t) H'
section
variable {P : Program} {w : World} {K : PySem.W.Frag} {mg : Str → Option Value} {base : Heap} {f1 f2 f3 f4 : Addr} {d1 d2 d3 d4 : FuncData} {x1 x2 x8 xl xm xp xf xs : Addr} {y1 y2 y8 yl ym yp yf ys : FuncData}
theorem ok_sides (TP : PenTxt K mg f1 f2 f3 f4 d1 d2 d3 d4) (T : SiTxt K mg x1 x2 x8 xl xm xp xf xs y1 y2 y8 yl ym yp yf ys) {k : Nat} : FnOk P w K mg base CX0 (k + 6) x8 y8 ["pen"] (spSides K) := by
  have GT : FnOk P w K mg base CX0 (k + 5) f3 d3 ["pen", "many"] spTakeC := ok_takeC TP (k := k + 3)
  have GP : FnOk P w K mg base CX0 (k + 5) f4 d4 ["pen", "some"] (spPick K) := ok_pick TP (k := k + 2)
  have GM : FnOk P w K mg base CX0 (k + 5) xm ym ["pen", "base", "letters", "most", "wide"] (spMach3 K) := ok_mach3 TP T.bl (k := k + 1)
  have GL : FnOk P w K mg base CX0 (k + 5) xp yp ["pen", "base", "letters", "most", "wide"] (spPln3 K) := ok_pln3 TP T.bl (k := k + 1)
  have GX : FnOk P w K mg base CX0 (k + 5) x1 y1 ["pen"] spXLetters := ok_xLetters TP T.let_ (k := k + 1)
  have GR : FnOk P w K mg base CX0 (k + 5) x2 y2 ["pen", "letters", "most"] (spXRule K) := ok_xRule TP T.rul (k := k + 1)
  refine T.FXSides.ok scXSides (fun vs H Q E h => ?_) (fun cdv A outer s H vs Q E hr h => ?_)
  · obtain ⟨p, n, rfl, _⟩ := h
    rfl
  · obtain ⟨p, n, rfl, hP, hn, q⟩ := h
    refine ⟨_, (Evl.pss_cut (ps_par (i := 1) (j := 2) (by rfl) scXSides.nd rfl rfl (by decide) rfl rfl (pa_cons (pe_call GX hr (by rfl) T.let_.gXLetters T.let_.FXLetters.kp T.let_.bXLetters .nil pass0 (pa_cons (pv 0) pa_nil)) (pa_cons (pe_call GP hr (by rfl) TP.gPick TP.FPick.kp TP.bPick .nil pass0 (pa_cons (pv 0) (pa_cons (pe_lst (pa_cons pe_int (pa_cons pe_int (pa_cons pe_int (pa_cons pe_int (pa_cons pe_int pa_nil)))))) pa_nil))) pa_nil)) (by rfl))
 (Evl.pss_cut (ps_asg (pe_call GP hr (by rfl) TP.gPick TP.FPick.kp TP.bPick .nil pass0 (pa_cons (pv 0) (pa_cons (pe_lst (pa_cons (pe_tup (pa_cons pe_int (pa_cons pe_int pa_nil))) (pa_cons (pe_tup (pa_cons pe_int (pa_cons pe_int pa_nil))) (pa_cons (pe_tup (pa_cons pe_int (pa_cons pe_int pa_nil))) (pa_cons (pe_tup (pa_cons pe_int (pa_cons pe_int pa_nil))) (pa_cons (pe_tup (pa_cons pe_int (pa_cons pe_int pa_nil))) (pa_cons (pe_tup (pa_cons pe_int (pa_cons pe_int pa_nil))) pa_nil))))))) pa_nil))) (pg_tup rfl (pgs_cons (pg_name (i := 3) scXSides.nd rfl (.inl rfl)) (pgs_cons (pg_name (i := 4) scXSides.nd rfl (.inl rfl)) pgs_nil))))
 (Evl.pss_cut (ps_par (i := 1) (j := 5) (by rfl) scXSides.nd rfl rfl (by decide) rfl rfl (pa_cons (pe_ifExp (pt_cmpR op_eq (pv 3) pe_int (nomark _)) (pv 1) (pe_slice sl_str (pv 1) po_none (po_some pe_int))) (pa_cons (pe_lst pa_nil) pa_nil)) (by rfl))
 (Evl.pss_cut (ps_for PassesOwn.never rfl (pi_list (pe_lst (pa_cons (pv 3) (pa_cons (pe_callB (cr_max rfl) (by rfl) T.max (by decide +kernel) (pa_cons (pe_lst (pa_cons pe_int (pa_cons (pe_callB (cr_min rfl) (by rfl) T.min (by decide +kernel) (pa_cons (pe_lst (pa_cons (pv 3) (pa_cons (pe_op op_sub pe_int (pv 3)) pa_nil))) pa_nil)) pa_nil))) pa_nil)) pa_nil)))) (pg_name (i := 6) scXSides.nd rfl (.inl rfl))
 (Evl.pss_cut (ps_set (i := 7) scXSides.nd rfl (.inl rfl) (pe_call GM hr (by rfl) T.bl.gXMachineB T.bl.FXMachineB.kp T.bl.bXMachineB .nil pass0 (pa_cons (pv 0) (pa_cons (pv 2) (pa_cons (pv 1) (pa_cons (pv 6) (pa_cons (pv 4) pa_nil)))))))
 (Evl.pss_cut (ps_if (pt_cmpR op_eq (pe_call GT hr (by rfl) TP.gTake TP.FTake.kp TP.bTake .nil pass0 (pa_cons (pv 0) (pa_cons pe_int pa_nil))) pe_int (nomark _)) (pss_one (ps_set (i := 7) scXSides.nd rfl (.inl rfl) (pe_call GL hr (by rfl) T.bl.gXPlainB T.bl.FXPlainB.kp T.bl.bXPlainB .nil pass0 (pa_cons (pv 0) (pa_cons (pv 2) (pa_cons (pv 1) (pa_cons (pv 6) (pa_cons (pv 4) pa_nil)))))))) pss_nil)
 (pss_one (ps_expr (pe_bm PySem.F.plainAttrs_list PySem.F.slot_list_append PySem.F.type_list_append mt_append (pv 5) (pa_cons (pv 7) pa_nil)))))))
 (Evl.pss_cut (ps_if (pt_cmpR op_eq (pe_call GT hr (by rfl) TP.gTake TP.FTake.kp TP.bTake .nil pass0 (pa_cons (pv 0) (pa_cons pe_int pa_nil))) pe_int (nomark _)) (pss_one (ps_set (i := 5) scXSides.nd rfl (.inl rfl) (pe_revL (pv 5)))) pss_nil)
 (Evl.pss_cut (ps_if (PW.pt (pw_and (pt_cmpR op_lt (pv 3) pe_int (nomark _)) (pw_and1 (pt_cmpR op_eq (pe_call GT hr (by rfl) TP.gTake TP.FTake.kp TP.bTake .nil pass0 (pa_cons (pv 0) (pa_cons pe_int pa_nil))) pe_int (nomark _))))) (pss_one (ps_asg (pe_ix ix_list (pv 5) pe_int (fun _ _ => rfl)) (pg_sub (pv 5) pe_int set_list))) pss_nil)
 (pss_one (ps_ret (pe_tup (pa_cons (pe_ix ix_list (pv 5) pe_int (fun _ _ => rfl)) (pa_cons (pe_ix ix_list (pv 5) pe_int (fun _ _ => rfl)) (pa_cons (pe_call GR hr (by rfl) T.rul.gXRule T.rul.FXRule.kp T.rul.bXRule .nil pass0 (pa_cons (pv 0) (pa_cons (pv 1) (pa_cons (pe_ix ix_list (pe_lst (pa_cons pe_int (pa_cons pe_int (pa_cons pe_int (pa_cons pe_int pa_nil))))) (pe_op op_sub (pv 3) pe_int) (fun _ _ => rfl)) pa_nil)))) pa_nil)))))))))))), ?_⟩
    have sL : ∀ {m : Nat}, m ≤ 1000 → m ≤ sizeLine := fun h => Nat.le_trans h (by decide)
    refine ⟨fun σ H' => ∃ (z : Str) (b : Int), σ = [some (.ref p), some (.str z), some (.int b)] ++ List.replicate 5 none ∧ lettersL z.cps.toList = true ∧ 2 ≤ b ∧ b ≤ 9 ∧ But p H H' ∧ Pen H' p (n + 5), ?_, ?_⟩
    · refine ⟨_, rfl, p, n, rfl, hP, by omega, fun H1 z b1 hP1 l1 => ⟨_, rfl, (by show 5 ≤ sizeLine; decide), fun L nL => ?_⟩⟩
      have xL := same_upd (o := HO.lst [V.int 2, .int 2, .int 3, .int 5, .int 9]) nL
      refine ⟨p, L, _, _, rfl, hP1.same xL, by omega, SqL.of upd_same, new_ne hP1 nL, (by show 0 < 5; decide), (by show 5 ≤ 1000; decide), fun H2 m v b2 hP2 hm => ?_⟩
      have hv : ∃ b : Int, v = .int b ∧ 2 ≤ b ∧ b ≤ 9 := by
        match m, hm with
        | 0, hm => exact ⟨2, (Option.some.inj hm).symm, by omega⟩
        | 1, hm => exact ⟨2, (Option.some.inj hm).symm, by omega⟩
        | 2, hm => exact ⟨3, (Option.some.inj hm).symm, by omega⟩
        | 3, hm => exact ⟨5, (Option.some.inj hm).symm, by omega⟩
        | 4, hm => exact ⟨9, (Option.some.inj hm).symm, by omega⟩
        | m + 5, hm => exact absurd hm (by simp)
      obtain ⟨b, rfl, b20, b90⟩ := hv
      exact ⟨_, _, rfl, z, b, rfl, l1, b20, b90, b1.trans ((But.of xL).trans b2), hP2⟩
    rintro σ H1 ⟨z0, b, rfl, l0, b20, b90, b1, hP1⟩
    refine ⟨fun σ H' => ∃ mo wi : Int, σ = [some (.ref p), some (.str z0), some (.int b), some (.int mo), some (.int wi), none, none, none] ∧ Szs mo wi ∧ But p H H' ∧ Pen H' p (n + 6), ?_, ?_⟩
    · refine ⟨_, rfl, (by show 2 ≤ sizeLine; decide), fun t1 h1 => ⟨(by show 2 ≤ sizeLine; decide), fun t2 h2 => ⟨(by show 2 ≤ sizeLine; decide), fun t3 h3 => ⟨(by show 2 ≤ sizeLine; decide), fun t4 h4 => ⟨(by show 2 ≤ sizeLine; decide), fun t5 h5 => ⟨(by show 2 ≤ sizeLine; decide), fun t6 h6 => ⟨(by show 6 ≤ sizeLine; decide), fun L hL => ?_⟩⟩⟩⟩⟩⟩⟩
      have x1 := same_upd (o := HO.tup [.int 1, .int 20]) h1
      have x2 := same_upd (o := HO.tup [.int 2, .int 2]) h2
      have x3 := same_upd (o := HO.tup [.int 2, .int 2]) h3
      have x4 := same_upd (o := HO.tup [.int 3, .int 1]) h4
      have x5 := same_upd (o := HO.tup [.int 2, .int 1]) h5
      have x6 := same_upd (o := HO.tup [.int 4, .int 1]) h6
      have xL := same_upd (o := HO.lst [.ref t1, .ref t2, .ref t3, .ref t4, .ref t5, .ref t6]) hL
      have y6 := x6.trans xL
      have y5 := x5.trans y6
      have y4 := x4.trans y5
      have y3 := x3.trans y4
      have y2 := x2.trans y3
      have y1 := x1.trans y2
      have hPL := hP1.same y1
      have hP7 := hP1.same (x1.trans (x2.trans (x3.trans (x4.trans (x5.trans x6)))))
      refine ⟨p, L, _, _, rfl, hPL, by omega, SqL.of upd_same, new_ne hP7 hL, (by show 0 < 6; decide), (by show 6 ≤ 1000; decide), fun H2 m v b2 hP2 hm => ?_⟩
      have tp : ∀ t o, (∃ mo wi : Int, o = HO.tup [.int mo, .int wi]) → (upd _ L (HO.lst [.ref t1, .ref t2, .ref t3, .ref t4, .ref t5, .ref t6])) t = some o → H2 t = some o := fun t o ho e => b2 _ _ (fun z => by
        obtain ⟨ys, hp⟩ := hPL.ls
        rw [z, hp] at e
        obtain ⟨mo, wi, rfl⟩ := ho
        cases e) e
      have hv : ∃ (t : Addr) (mo wi : Int), v = .ref t ∧ H2 t = some (.tup [.int mo, .int wi]) ∧ Szs mo wi := by
        match m, hm with
        | 0, hm => exact ⟨t1, 1, 20, (Option.some.inj hm).symm, tp _ _ ⟨_, _, rfl⟩ (y2 _ _ upd_same), .a⟩
        | 1, hm => exact ⟨t2, 2, 2, (Option.some.inj hm).symm, tp _ _ ⟨_, _, rfl⟩ (y3 _ _ upd_same), .b⟩
        | 2, hm => exact ⟨t3, 2, 2, (Option.some.inj hm).symm, tp _ _ ⟨_, _, rfl⟩ (y4 _ _ upd_same), .b⟩
        | 3, hm => exact ⟨t4, 3, 1, (Option.some.inj hm).symm, tp _ _ ⟨_, _, rfl⟩ (y5 _ _ upd_same), .c⟩
        | 4, hm => exact ⟨t5, 2, 1, (Option.some.inj hm).symm, tp _ _ ⟨_, _, rfl⟩ (y6 _ _ upd_same), .d⟩
        | 5, hm => exact ⟨t6, 4, 1, (Option.some.inj hm).symm, tp _ _ ⟨_, _, rfl⟩ (xL _ _ upd_same), .e⟩
        | m + 6, hm => exact absurd hm (by simp)
      obtain ⟨t, mo, wi, rfl, ht, sz⟩ := hv
      exact ⟨t, _, rfl, SqT.of ht, rfl, _, _, rfl, _, _, rfl, rfl, mo, wi, rfl, sz, b1.trans ((But.of y1).trans b2), hP2⟩
    rintro σ H2 ⟨mo, wi, rfl, sz, b2, hP2⟩
    have mor : 1 ≤ mo ∧ mo ≤ 4 ∧ 1 ≤ wi ∧ wi ≤ 20 ∧ 1 ≤ secM mo ∧ secM mo ≤ 4 ∧ 1 ≤ rulM mo ∧ rulM mo ≤ 4 := by cases sz <;> decide
    have mo3 : mo < 3 → secM mo = mo := fun h => by cases sz <;> first | decide | exact absurd h (by decide)
    have rat : atI [V.int 4, .int 4, .int 2, .int 1] (mo - 1) = some (.int (rulM mo)) := by cases sz <;> rfl
    obtain ⟨m1, m4, w1, w20, c1, c4, r1, r4⟩ := mor
    have wN : wi ≤ wideN := by
      have : (20 : Int) ≤ wideN := by decide +kernel
      omega
    obtain ⟨c, hPC⟩ := hP2.at
    obtain ⟨_, _, _, _, hpc, _⟩ := id hPC.ex
    refine ⟨fun σ H' => ∃ (z : Str) (f : Addr), σ = [some (.ref p), some (.str z), some (.int b), some (.int mo), some (.int wi), some (.ref f), none, none] ∧ lettersL z.cps.toList = true ∧ But p H H' ∧ PenC H' p c (n + 6) ∧ f ≠ p ∧ f ≠ c ∧ H f = none ∧ H' f = some (.lst []), ?_, ?_⟩
    · have fin : ∀ z, lettersL z.cps.toList = true → tLst tNil [some (V.ref p), some (.str z0), some (.int b), some (.int mo), some (.int wi), none, none, none] H2 fun u H3 => tNil [some (V.ref p), some (.str z0), some (.int b), some (.int mo), some (.int wi), none, none, none] H3 fun us H4 => ∃ x y, (V.str z :: u :: us) = [x, y] ∧ ∃ (z : Str) (f : Addr), (([some (V.ref p), some (.str z0), some (.int b), some (.int mo), some (.int wi), none, none, none] : L2.St).set 1 (some x)).set 5 (some y) = [some (.ref p), some (.str z), some (.int b), some (.int mo), some (.int wi), some (.ref f), none, none] ∧ lettersL z.cps.toList = true ∧ But p H H4 ∧ PenC H4 p c (n + 6) ∧ f ≠ p ∧ f ≠ c ∧ H f = none ∧ H4 f = some (.lst []) := fun z lz => ⟨(by show 0 ≤ sizeLine; decide), fun f nf => ⟨_, _, rfl, z, f, rfl, lz, b2.trans (But.of (same_upd nf)), hPC.same (same_upd nf), new_ne hP2 nf, (ne_of_none hpc nf).symm, butNone b2 (new_ne hP2 nf) nf, upd_same⟩⟩
      refine ⟨_, rfl, rfl, _, rfl, ite2 (fun _ => ?_) (fun _ => ?_)⟩
      · exact ⟨_, rfl, fin z0 l0⟩
      · refine ⟨_, rfl, 2, rfl, z0, rfl, ?_, fin _ (letters_cut l0)⟩
        have := (ltr_pos l0).2
        exact sL (by omega)
    rintro σ H3 ⟨z, f, rfl, lz, b3, hP3, fp, fc, nf, hf3⟩
    refine ⟨fun σ H' => ∃ l6 l7 v0 d0 M0 v1 d1 M1, σ = [some (.ref p), some (.str z), some (.int b), some (.int mo), some (.int wi), some (.ref f), l6, l7] ∧ But p H H' ∧ PenC H' p c (n + 308) ∧ H' f = some (.lst [v0, v1]) ∧ Sde K H' b z wi v0 d0 M0 ∧ Sde K H' b z wi v1 d1 M1 ∧ (M0.C.length : Int) ≤ mo ∧ (M1.C.length : Int) ≤ secM mo, ?_, ?_⟩
    · refine ⟨_, rfl, _, rfl, _, rfl, _, _, rfl, rfl, (by show 2 ≤ sizeLine; decide), fun l1 n1 => ⟨l1, [mo, 5 - mo], rfl, SqL.of upd_same, (by show 0 < 2; decide), fun mi hmi lei => ⟨(by show 2 ≤ sizeLine; decide), fun l2 n2 => ⟨l2, [1, mi], rfl, SqL.of upd_same, (by show 0 < 2; decide), fun ma hma gea => ⟨(by show 2 ≤ sizeLine; decide), fun l3 n3 => ?_⟩⟩⟩⟩⟩
      have x1 := same_upd (o := HO.lst [V.int mo, .int (5 - mo)]) n1
      have x2 := same_upd (o := HO.lst [V.int 1, .int mi]) n2
      have x3 := same_upd (o := HO.lst [V.int mo, .int ma]) n3
      have x123 := (x1.trans x2).trans x3
      have eMa : ma = secM mo := by
        have g1 := lei mo (.head _)
        have g2 := lei (5 - mo) (.tail _ (.head _))
        have g3 := gea 1 (.head _)
        have g4 := gea mi (.tail _ (.head _))
        have h1 : mi = mo ∨ mi = 5 - mo := by simpa using hmi
        have h2 : ma = 1 ∨ ma = mi := by simpa using hma
        unfold secM
        omega
      subst eMa
      have f3 : f ≠ l3 := ne_of_none ((x1.trans x2) _ _ hf3) n3
      have p3 : l3 ≠ p := new_ne (hP3.same (x1.trans x2)).pen n3
      refine ⟨l3, rfl, ⟨_, SqL.of upd_same⟩, ?_⟩
      refine for_list (K := K) (a := l3) (xs := [V.int mo, .int (secM mo)]) (fun i σ H' => ∃ (l6 l7 : Option V) (ss : List (V × PyData × Mc)), σ = [some (.ref p), some (.str z), some (.int b), some (.int mo), some (.int wi), some (.ref f), l6, l7] ∧ But p H H' ∧ PenC H' p c (n + 6 + 151 * i) ∧ H' l3 = some (.lst [V.int mo, .int (secM mo)]) ∧ H' f = some (.lst (ss.map fun s => s.1)) ∧ ss.length = i ∧ (∀ s ∈ ss, Sde K H' b z wi s.1 s.2.1 s.2.2) ∧ ∀ (j : Nat) (s : V × PyData × Mc) (mx : Int), ss[j]? = some s → [mo, secM mo][j]? = some mx → (s.2.2.C.length : Int) ≤ mx) ⟨none, none, [], rfl, b3.trans (But.of x123), hP3.same x123, upd_same, x123 _ _ hf3, rfl, (fun _ h => nomatch h), fun j s mx h => by simp at h⟩ (fun i σ H' _ ⟨_, _, _, _, _, _, h, _⟩ => SqL.of h) ?_ ?_
      · rintro i v σ H4 hv ⟨l6, l7, ss, rfl, b4, hP4, h34, hf4, ls, hss, hsz⟩
        have hi : i < 2 := (List.getElem?_eq_some_iff.mp hv).1
        obtain ⟨mx, hmx, rfl, mx1, mx4⟩ : ∃ mx : Int, [mo, secM mo][i]? = some mx ∧ v = .int mx ∧ 1 ≤ mx ∧ mx ≤ 4 := by
          match i, hv with
          | 0, hv => exact ⟨mo, rfl, (Option.some.inj hv).symm, m1, m4⟩
          | 1, hv => exact ⟨secM mo, rfl, (Option.some.inj hv).symm, c1, c4⟩
          | m + 2, hv => exact absurd hv (by simp)
        -- what is added
        have add : ∀ {H5 : Hp} {t : Addr} {d : PyData} {M : Mc} {l6 : Option V}, But p H4 H5 → PenC H5 p c (n + 6 + 151 * i + 151) → Sde K H5 b z wi (.ref t) d M → (M.C.length : Int) ≤ mx → tDrop (tBM K "list" rAppend (tVar 5) (tCons (tVar 7) tNil)) { nx := fun σ H' => ∃ (l6 l7 : Option V) (ss : List (V × PyData × Mc)), σ = [some (.ref p), some (.str z), some (.int b), some (.int mo), some (.int wi), some (.ref f), l6, l7] ∧ But p H H' ∧ PenC H' p c (n + 6 + 151 * (i + 1)) ∧ H' l3 = some (.lst [V.int mo, .int (secM mo)]) ∧ H' f = some (.lst (ss.map fun s => s.1)) ∧ ss.length = i + 1 ∧ (∀ s ∈ ss, Sde K H' b z wi s.1 s.2.1 s.2.2) ∧ ∀ (j : Nat) (s : V × PyData × Mc) (mx : Int), ss[j]? = some s → [mo, secM mo][j]? = some mx → (s.2.2.C.length : Int) ≤ mx, rt := Q } [some (.ref p), some (.str z), some (.int b), some (.int mo), some (.int wi), some (.ref f), l6, some (.ref t)] H5 := fun {H5 t d M l6} b5 hP5 sd lm => by
          have hf5 := b5 _ _ fp hf4
          have tl : TStay K H5 (upd H5 f (.lst (ss.map (fun s => s.1) ++ [.ref t]))) := ts_lst hf5
          have t5 : TStay K H4 H5 := ts_but hP4.pen b5
          refine ⟨_, rfl, .inl ⟨rfl, _, SqL.of hf5⟩, _, rfl, f, _, _, rfl, rfl, hf5, (by rw [List.length_map, ls]; exact Nat.lt_of_le_of_lt (show i ≤ 1000 by omega) (by decide)), _, _, ss ++ [(.ref t, d, M)], rfl, fun b2 o nb e => ?_, ?_, ?_, ?_, ?_, ?_, ?_⟩
          · rw [upd_ne (ne_of_none e nf)]
            exact b5 _ _ nb (b4 _ _ nb e)
          · exact (hP5.keep (fun o e => by rw [upd_ne fp.symm]; exact e) (fun o e => by rw [upd_ne fc.symm]; exact e)).mono (by omega)
          · rw [upd_ne f3.symm]
            exact b5 _ _ p3 h34
          · rw [upd_same, List.map_append]
            rfl
          · rw [List.length_append, ls]
            rfl
          · intro s hs
            rcases List.mem_append.mp hs with h | h
            · have g := hss s h
              exact ⟨rp_ts (t5.trans tl) g.r (side_tO g.s), g.s, g.b, g.z, g.w⟩
            · rw [List.mem_singleton.mp h]
              exact ⟨rp_ts tl sd.r (side_tO sd.s), sd.s, sd.b, sd.z, sd.w⟩
          · intro j s my hs hmy
            by_cases e : j < ss.length
            · rw [List.getElem?_append_left e] at hs
              exact hsz j s my hs hmy
            · have : j = i := by
                have := (List.getElem?_eq_some_iff.mp hs).1
                rw [List.length_append, List.length_singleton] at this
                omega
              subst this
              rw [List.getElem?_append_right (by omega), ls, Nat.sub_self] at hs
              obtain rfl := Option.some.inj hs
              rw [hmx] at hmy
              obtain rfl := Option.some.inj hmy
              exact lm
        refine ⟨fun σ H5 => ∃ t d M, σ = [some (.ref p), some (.str z), some (.int b), some (.int mo), some (.int wi), some (.ref f), some (.int mx), some (.ref t)] ∧ But p H4 H5 ∧ PenC H5 p c (n + 6 + 151 * i + 100) ∧ Sde K H5 b z wi (.ref t) d M ∧ (M.C.length : Int) ≤ mx, ?_, ?_⟩
        · exact ⟨_, rfl, _, rfl, _, rfl, _, rfl, _, rfl, p, c, _, b, z, mx, wi, rfl, hP4, by omega, lz, b20, b90, mx1, mx4, w1, w20, fun H5 t M b5 hP5 nt rp sd eb ez lm pin => ⟨t, _, M, rfl, b5, hP5, ⟨rp, sd, eb, ez, pin⟩, lm⟩⟩
        rintro σ H5 ⟨t, d, M, rfl, b5, hP5, sd, lm⟩
        refine ⟨fun σ H6 => ∃ t d M, σ = [some (.ref p), some (.str z), some (.int b), some (.int mo), some (.int wi), some (.ref f), some (.int mx), some (.ref t)] ∧ But p H4 H6 ∧ PenC H6 p c (n + 6 + 151 * i + 151) ∧ Sde K H6 b z wi (.ref t) d M ∧ (M.C.length : Int) ≤ mx, ?_, ?_⟩
        · refine ⟨_, rfl, p, c, 4, _, rfl, hP5, by omega, by decide, by decide, fun H6 k2 b6 hP6 k20 k21 => ⟨rfl, _, rfl, ?_⟩⟩
          refine ite2 (fun _ => ?_) (fun _ => ?_)
          · exact ⟨_, rfl, _, rfl, _, rfl, _, rfl, _, rfl, p, c, _, b, z, mx, wi, rfl, hP6, by omega, lz, b20, b90, mx1, by omega, w1, wN, fun H7 t M b7 hP7 nt rp sd eb ez lm pin => ⟨t, _, M, rfl, b5.trans (b6.trans b7), hP7.mono (by omega), ⟨rp, sd, eb, ez, pin⟩, lm⟩⟩
          · exact ⟨t, d, M, rfl, b5.trans b6, hP6.mono (by omega), ⟨rp_ts (ts_but hP5.pen b6) sd.r (side_tO sd.s), sd.s, sd.b, sd.z, sd.w⟩, lm⟩
        rintro σ H6 ⟨t, d, M, rfl, b6, hP6, sd, lm⟩
        exact add b6 hP6 sd lm
      · rintro σ H4 ⟨l6, l7, ss, rfl, b4, hP4, h34, hf4, ls, hss, hsz⟩
        match ss, ls, hf4, hss, hsz with
        | [s0, s1], _, hf4, hss, hsz => exact ⟨_, _, s0.1, s0.2.1, s0.2.2, s1.1, s1.2.1, s1.2.2, rfl, b4, hP4, hf4, hss s0 (.head _), hss s1 (.tail _ (.head _)), hsz 0 s0 mo rfl rfl, hsz 1 s1 (secM mo) rfl rfl⟩
    rintro σ H4 ⟨l6, l7, v0, d0, M0, v1, d1, M1, rfl, b4, hP4, hf4, sd0, sd1, lm0, lm1⟩
    refine ⟨fun σ H' => ∃ g v0 d0 M0 v1 d1 M1, σ = [some (.ref p), some (.str z), some (.int b), some (.int mo), some (.int wi), some (.ref g), l6, l7] ∧ But p H H' ∧ PenC H' p c (n + 309) ∧ g ≠ p ∧ g ≠ c ∧ H g = none ∧ H' g = some (.lst [v0, v1]) ∧ Sde K H' b z wi v0 d0 M0 ∧ Sde K H' b z wi v1 d1 M1 ∧ ((M0.C.length : Int) ≤ mo ∧ (M1.C.length : Int) ≤ secM mo ∨ (M0.C.length : Int) ≤ secM mo ∧ (M1.C.length : Int) ≤ mo), ?_, ?_⟩
    · refine ⟨_, rfl, p, c, 2, _, rfl, hP4, by omega, by decide, by decide, fun H5 k2 b5 hP5 k20 k21 => ⟨rfl, _, rfl, ?_⟩⟩
      have t5 := ts_but (K := K) hP4.pen b5
      have hf5 := b5 _ _ fp hf4
      refine ite2 (fun _ => ?_) (fun _ => ?_)
      · refine ⟨_, rfl, f, _, rfl, SqL.of hf5, fun g ng => ⟨g, v1, d1, M1, v0, d0, M0, rfl, ?_⟩⟩
        have xg := same_upd (o := HO.lst [v1, v0]) ng
        have t6 := t5.trans (ts_same xg)
        have gp := new_ne hP5.pen ng
        obtain ⟨_, _, _, _, hpc5, _⟩ := hP5.ex
        exact ⟨b4.trans (b5.trans (But.of xg)), (hP5.same xg).mono (by omega), gp, (ne_of_none hpc5 ng).symm, butNone (b4.trans b5) gp ng, upd_same, ⟨rp_ts t6 sd1.r (side_tO sd1.s), sd1.s, sd1.b, sd1.z, sd1.w⟩, ⟨rp_ts t6 sd0.r (side_tO sd0.s), sd0.s, sd0.b, sd0.z, sd0.w⟩, .inr ⟨lm1, lm0⟩⟩
      · exact ⟨f, v0, d0, M0, v1, d1, M1, rfl, b4.trans b5, hP5.mono (by omega), fp, fc, nf, hf5, ⟨rp_ts t5 sd0.r (side_tO sd0.s), sd0.s, sd0.b, sd0.z, sd0.w⟩, ⟨rp_ts t5 sd1.r (side_tO sd1.s), sd1.s, sd1.b, sd1.z, sd1.w⟩, .inl ⟨lm0, lm1⟩⟩
    clear sd0 sd1 lm0 lm1 hf4 hP4 b4
    rintro σ H5 ⟨g, v0, d0, M0, v1, d1, M1, rfl, b5, hP5, gp, gc, ng, hg5, sd0, sd1, lms⟩
    refine ⟨fun σ H' => ∃ v0 d0 M0 v1 d1 M1, σ = [some (.ref p), some (.str z), some (.int b), some (.int mo), some (.int wi), some (.ref g), l6, l7] ∧ But p H H' ∧ PenC H' p c (n + 310) ∧ H' g = some (.lst [v0, v1]) ∧ Sde K H' b z wi v0 d0 M0 ∧ Sde K H' b z wi v1 d1 M1 ∧ ((M0.C.length : Int) ≤ mo ∧ (M1.C.length : Int) ≤ secM mo ∨ (M0.C.length : Int) ≤ secM mo ∧ (M1.C.length : Int) ≤ mo), ?_, ?_⟩
    · refine ⟨_, rfl, _, _, rfl, rfl, _, rfl, ?_⟩
      by_cases m3 : mo < 3
      · rw [decide_eq_true m3]
        refine iteT ⟨_, rfl, p, c, 5, _, rfl, hP5, by omega, by decide, by decide, fun H6 k2 b6 hP6 k20 k21 => ⟨rfl, _, rfl, ?_⟩⟩
        have t6 := ts_but (K := K) hP5.pen b6
        have hg6 := b6 _ _ gp hg5
        refine ite2 (fun _ => ?_) (fun _ => ?_)
        · refine ⟨_, rfl, g, _, 0, v0, rfl, rfl, SqL.of hg6, atI_nat (j := 0) rfl, _, rfl, g, _, 1, 1, rfl, rfl, hg6, rfl, v0, d0, M0, v0, d0, M0, rfl, fun b2 o nb e => ?_, ?_, upd_same, ?_⟩
          · rw [upd_ne (ne_of_none e ng)]
            exact b6 _ _ nb (b5 _ _ nb e)
          · exact (hP6.keep (fun o e => by rw [upd_ne gp.symm]; exact e) (fun o e => by rw [upd_ne gc.symm]; exact e)).mono (by omega)
          · have tl : TStay K H6 (upd H6 g (.lst ([v0, v1].set 1 v0))) := ts_lst hg6
            have s0 : Sde K (upd H6 g (.lst ([v0, v1].set 1 v0))) b z wi v0 d0 M0 := ⟨rp_ts (t6.trans tl) sd0.r (side_tO sd0.s), sd0.s, sd0.b, sd0.z, sd0.w⟩
            have := mo3 m3
            exact ⟨s0, s0, by rw [this] at lms ⊢; omega⟩
        · exact ⟨v0, d0, M0, v1, d1, M1, rfl, b5.trans b6, hP6.mono (by omega), hg6, ⟨rp_ts t6 sd0.r (side_tO sd0.s), sd0.s, sd0.b, sd0.z, sd0.w⟩, ⟨rp_ts t6 sd1.r (side_tO sd1.s), sd1.s, sd1.b, sd1.z, sd1.w⟩, lms⟩
      · rw [decide_eq_false m3]
        exact iteF (iteF ⟨v0, d0, M0, v1, d1, M1, rfl, b5, hP5.mono (by omega), hg5, sd0, sd1, lms⟩)
    clear sd0 sd1 lms hg5 hP5 b5
    rintro σ H6 ⟨v0, d0, M0, v1, d1, M1, rfl, b6, hP6, hg6, sd0, sd1, lms⟩
    refine ⟨_, rfl, g, _, 0, v0, rfl, rfl, SqL.of hg6, atI_nat (j := 0) rfl, _, rfl, g, _, 1, v1, rfl, rfl, SqL.of hg6, atI_nat (j := 1) rfl, _, rfl, _, rfl, (by show 4 ≤ sizeLine; decide), fun l nl => ⟨_, rfl, _, _, rfl, rfl, l, _, mo - 1, .int (rulM mo), rfl, rfl, SqL.of upd_same, rat, p, _, z, rulM mo, rfl, (hP6.same (same_upd nl)).pen, by omega, lz, r1, r4, fun H7 t rows b7 hP7 rs rd rw1 rwm rok => ⟨(by show 3 ≤ sizeLine; decide), fun u nu => ?_⟩⟩⟩
    have xl := same_upd (o := HO.lst [V.int 4, .int 4, .int 2, .int 1]) nl
    have xu := same_upd (o := HO.tup [v0, v1, V.ref t]) nu
    have t7 : TStay K H6 (upd H7 u (.tup [v0, v1, V.ref t])) := (ts_same xl).trans ((ts_but (hP6.same xl).pen b7).trans (ts_same xu))
    obtain ⟨q0, s0, e0, z0', p0⟩ := sd0
    obtain ⟨q1, s1, e1, z1, p1⟩ := sd1
    subst z0'
    subst e0
    have hC : Cok ⟨M0, M1, rows⟩ := ⟨s0.1.ok, s1.1.ok, e1, z1, rw1, (by show rows.length ≤ 4; omega), rok⟩
    exact q _ u v0 v1 (.ref t) d0 d1 ⟨M0, M1, rows⟩ (b6.trans ((But.of xl).trans (b7.trans (But.of xu)))) ((hP7.same xu).mono (by omega)) (new_ne hP7 nu) upd_same (rp_ts t7 q0 (side_tO s0)) s0 (rp_ts t7 q1 (side_tO s1)) s1 (rs.rp.go xu) rd hC (szs_le sz hC p0 p1 rwm lms) (szs_sml sz hC p0 p1 lms)
end
end My
/-! ### standings, to be shown; what the acts tell -/
namespace My
open PySem PySem.Spec PyProof.Rows L2 PySem.Builtin.Str
theorem sd_small {i : Int} (h : i.natAbs ≤ 1000) : Sd 0 10 (.int i) := by
  have s := sd_int (i := i) (Nat.lt_of_le_of_lt h (by decide))
  refine ⟨s.sh, s.dp, s.lv, ?_⟩
  rw [PyData.weight]
  split
  · omega
  · exact log_le (Nat.lt_of_le_of_lt h (by decide)) (by decide)
theorem allL_of {vs : List Int} : ∀ (c k : Nat) (L : List (Int × Int)), L ∈ allL vs k c → L.length ≤ c ∧ ∀ e ∈ L, (k : Int) ≤ e.1 ∧ e.1 < (k + c : Nat) ∧ e.2 ∈ vs
  | 0, k, L, h => by
    rw [allL] at h
    rw [List.mem_singleton.mp h]
    exact ⟨Nat.le_refl _, fun e he => nomatch he⟩
  | c + 1, k, L, h => by
    rw [allL, List.mem_append] at h
    rcases h with h | h
    · obtain ⟨h1, h2⟩ := allL_of c (k + 1) L h
      refine ⟨by omega, fun e he => ?_⟩
      have := h2 e he
      exact ⟨by omega, by omega, this.2.2⟩
    · obtain ⟨v, hv, h⟩ := List.mem_flatMap.mp h
      obtain ⟨L', hL', rfl⟩ := List.mem_map.mp h
      obtain ⟨h1, h2⟩ := allL_of c (k + 1) L' hL'
      refine ⟨by rw [List.length_cons]; omega, fun e he => ?_⟩
      rcases List.mem_cons.mp he with rfl | he
      · exact ⟨Int.le_refl _, by show (k : Int) < _; omega, hv⟩
      · have := h2 e he
        exact ⟨by omega, by omega, this.2.2⟩
theorem vals_small {C : Ct} (h : Cok C) (s : Sml C) {v : Int} (hv : v ∈ valsC C) : v.natAbs ≤ 1000 := by
  unfold valsC at hv
  obtain ⟨i, hi, rfl⟩ := List.mem_map.mp hv
  have hi2 := List.mem_range.mp hi
  have o := s.ov
  have b := s.bl
  have g := over_rg h
  have b2 := h.m.b2
  have b9 := h.m.b9
  have j1 : ((i : Int) + 1 - C.below).natAbs ≤ 41 := by omega
  rw [Int.natAbs_mul]
  have := Nat.mul_le_mul (show C.M.b.natAbs ≤ 9 by omega) j1
  omega
theorem sg_sd {C : Ct} (h : Cok C) (s : Sml C) {t : Sg} (ht : t ∈ FIRSTg :: boxC C) : Sd 3 279 (eSg t) := by
  have top : ∀ t : Sg, t.p.natAbs ≤ 1000 → t.s.natAbs ≤ 1000 → t.L.length ≤ 4 → (∀ e ∈ t.L, e.1.natAbs ≤ 1000 ∧ e.2.natAbs ≤ 1000) → Sd 3 279 (eSg t) := fun t h1 h2 h3 h4 => by
    refine (sd_tup (D := 2) (W := 92) (n := 3) (fun e he => ?_) (by simp)).mono (by decide) (by decide)
    simp only [List.mem_cons, List.not_mem_nil, or_false] at he
    rcases he with rfl | rfl | rfl
    · exact (sd_small h1).mono (by decide) (by decide)
    · exact (sd_small h2).mono (by decide) (by decide)
    · refine (sd_tup (D := 1) (W := 22) (n := 4) (fun e he => ?_) (by rw [List.length_map]; exact h3)).mono (by decide) (by decide)
      obtain ⟨x, hx, rfl⟩ := List.mem_map.mp he
      have g := h4 x hx
      refine (sd_tup (D := 0) (W := 10) (n := 2) (fun e he => ?_) (by simp)).mono (by decide) (by decide)
      simp only [List.mem_cons, List.not_mem_nil, or_false] at he
      rcases he with rfl | rfl
      · exact sd_small g.1
      · exact sd_small g.2
  rcases List.mem_cons.mp ht with rfl | ht
  · refine top _ (by decide) (by decide) (by decide) fun e he => ?_
    rw [List.mem_singleton.mp he]
    decide
  · unfold boxC at ht
    obtain ⟨p, hp, ht⟩ := List.mem_flatMap.mp ht
    obtain ⟨q, hq, ht⟩ := List.mem_flatMap.mp ht
    obtain ⟨L, hL, rfl⟩ := List.mem_map.mp ht
    have p1 := List.mem_range.mp hp
    have q1 := List.mem_range.mp hq
    have r4 := h.r4
    have m4 := s.m4
    have n4 := s.n4
    obtain ⟨l1, l2⟩ := allL_of _ _ _ hL
    refine top _ (by show ((p : Nat) : Int).natAbs ≤ 1000; omega) (by show ((q : Nat) : Int).natAbs ≤ 1000; omega) (by show L.length ≤ 4; omega) fun e he => ?_
    have g := l2 e he
    exact ⟨by omega, vals_small h s g.2.2⟩
theorem sd_lsts {α : Type} {f : α → PyData} {W : Nat} : ∀ {tss : List (List α)}, (∀ ts ∈ tss, ∀ t ∈ ts, Sd 3 W (f t)) → PyData.showableAll (tss.map fun ts => .list (ts.map f)) = true ∧ PyData.depthAll (tss.map fun ts => .list (ts.map f)) ≤ 4 ∧ PyData.leavesShortAll 40 (tss.map fun ts => .list (ts.map f)) = true ∧ PyData.weightAll (tss.map fun ts => .list (ts.map f)) ≤ (tss.map List.length).sum * (W + 1) + tss.length
  | [], _ => by simp [PyData.showableAll, PyData.depthAll, PyData.leavesShortAll, PyData.weightAll]
  | ts :: tss, h => by
    obtain ⟨a1, a2, a4, a5⟩ := sd_lst (D := 3) (W := W) (n := ts.length) (ds := ts.map f) (fun d hd => by
      obtain ⟨t, ht, rfl⟩ := List.mem_map.mp hd
      exact h ts (.head _) t ht) (by rw [List.length_map]; exact Nat.le_refl _)
    obtain ⟨b1, b2, b4, b5⟩ := sd_lsts (f := f) (W := W) (tss := tss) fun ts hts => h ts (.tail _ hts)
    refine ⟨?_, ?_, ?_, ?_⟩
    · rw [List.map_cons, PyData.showableAll, a1, b1]
      rfl
    · rw [List.map_cons, PyData.depthAll]
      exact Nat.max_le.mpr ⟨a2, b2⟩
    · rw [List.map_cons, PyData.leavesShortAll, a4, b4]
      rfl
    · rw [List.map_cons, PyData.weightAll, List.map_cons, List.sum_cons, List.length_cons, Nat.add_mul]
      omega
theorem sum_lvls (C : Ct) : ∀ n, (((List.range (n + 1)).map (sLv C)).map List.length).sum = tot C n
  | 0 => by
    rw [List.range_one, List.map_singleton, List.map_singleton, sLv_len]
    rfl
  | n + 1 => by
    rw [List.range_succ, List.map_append, List.map_append, List.sum_append, sum_lvls C n, tot_succ, List.map_singleton, List.map_singleton, sLv_len]
    simp
def lvsD (C : Ct) (n : Nat) : PyData := .list (((List.range (n + 1)).map (sLv C)).map fun ts => .list (ts.map eSg))
theorem seen_of_sLv {C : Ct} {i n : Nat} (h : i ≤ n) {t : Sg} (ht : t ∈ sLv C i) : t ∈ seenN C n := by
  have h1 : t ∈ seenN C i := by
    have := sLv_mem.mp ht
    cases i with
    | zero =>
      obtain ⟨q, hq, rfl⟩ := List.mem_map.mp this
      obtain rfl : q = (FIRSTg, ("" : Str)) := List.mem_singleton.mp hq
      exact .head _
    | succ i =>
      rw [seen_succ]
      exact List.mem_append.mpr (.inr this)
  induction n with
  | zero =>
    obtain rfl : i = 0 := by omega
    exact h1
  | succ n ih =>
    rcases Nat.lt_or_ge n i with l | l
    · obtain rfl : i = n + 1 := by omega
      exact h1
    · rw [seen_succ]
      exact List.mem_append.mpr (.inl (ih l))
theorem lvs_sd {C : Ct} (h : Cok C) (s : Sml C) (bnd : bndC C ≤ 700) {n : Nat} (pre : Pre C n) : Sd 5 200000 (lvsD C n) := by
  have tl := tot_le h n
  have pt := pre_tot pre
  obtain ⟨b1, b2, b4, b5⟩ := sd_lsts (f := eSg) (W := 279) (tss := (List.range (n + 1)).map (sLv C)) fun ts hts t ht => by
    obtain ⟨i, hi, rfl⟩ := List.mem_map.mp hts
    have := List.mem_range.mp hi
    exact sg_sd h s (seen_box h n t (seen_of_sLv (show i ≤ n by omega) ht))
  rw [sum_lvls, List.length_map, List.length_range] at b5
  unfold lvsD
  refine ⟨by rw [PyData.showable]; exact b1, by rw [PyData.depth]; omega, by rw [PyData.leavesShort]; exact b4, ?_⟩
  rw [PyData.weight]
  have := Nat.mul_le_mul_right 280 (Nat.le_trans tl bnd)
  omega
theorem LsL.rp {K : PySem.W.Frag} {H : Hp} {a : Addr} {rs : List Addr} {C : Ct} {n : Nat} (h : LsL K H a rs ((List.range (n + 1)).map (sLv C))) : Rp K H (.ref a) (lvsD C n) := by
  refine .lst (SqL.of h.1) ?_
  have : ∀ {rs : List Addr} {tss : List (List Sg)}, Paired (fun (r : Addr) (ts : List Sg) => ∃ us, H r = some (.lst us) ∧ RpAll K H us (ts.map eSg)) rs tss → RpAll K H (rs.map V.ref) (tss.map fun ts => .list (ts.map eSg)) := fun {rs tss} h => by
    induction h with
    | nil => exact .nil
    | cons h1 _ ih =>
      obtain ⟨us, e1, e2⟩ := h1
      exact .cons (.lst (SqL.of e1) e2) ih
  exact this h.2
theorem nodict_lvs (C : Ct) (n : Nat) : (lvsD C n).hasDict = false := by
  unfold lvsD
  rw [PyData.hasDict]
  have : ∀ tss : List (List Sg), PyData.hasDictAll (tss.map fun ts => .list (ts.map eSg)) = false := fun tss => by
    induction tss with
    | nil => simp [PyData.hasDictAll]
    | cons ts tss ih => rw [List.map_cons, PyData.hasDictAll, ih, PyData.hasDict, (lay_sgs ts).2.2]; rfl
  exact this _
/-! words -/
theorem word_chars {C : Ct} (h : Cok C) : ∀ n, ∀ q ∈ lvl C n, ∀ c ∈ q.2.cps.toList, c ≤ 1000
  | 0, q, hq, c, hc => by
    obtain rfl : q = (FIRSTg, ("" : Str)) := List.mem_singleton.mp hq
    cases hc
  | n + 1, q, hq, c, hc => by
    obtain ⟨_, h2⟩ := level_mem (C := C) (ok := okS (seenN C n)) (lv := lvl C n) hq
    obtain ⟨q', hq', i, hi, hu, e⟩ := mem_moves.mp (show (q.1, q.2) ∈ movesOf C (lvl C n) from h2)
    have e2 : q.2.cps.toList = q'.2.cps.toList ++ [C.M.z.cps.getD i 0] := by
      rw [e]
      show (q'.2.cps ++ _).toList = _
      rw [Array.toList_append]
      rfl
    rw [e2] at hc
    rcases List.mem_append.mp hc with h1 | h1
    · exact word_chars h n q' hq' c h1
    · rw [List.mem_singleton.mp h1]
      have hi2 : i < C.M.z.cps.size := hi
      have e3 : C.M.z.cps.getD i 0 = C.M.z.cps[i] := by
        rw [Array.getD_eq_getD_getElem?, Array.getElem?_eq_getElem hi2]
        rfl
      rw [e3]
      exact letters_small h.m.ltr _ (Array.mem_toList_iff.mpr (Array.getElem_mem hi2))
theorem won_uniq {C : Ct} {n : Nat} {v v' : V} (h : WonV C n v) (h' : WonV C n v') : v = v' := by
  have no : wonN C n = false → ∀ w, ¬ ∃ t, (t, w) ∈ lvl C n ∧ wonG t = true := fun e w ⟨t, h1, h2⟩ => by
    have : wonN C n = true := List.any_eq_true.mpr ⟨t, List.mem_map_of_mem (f := (·.1)) h1, h2⟩
    rw [this] at e
    cases e
  rcases h with ⟨e, rfl⟩ | ⟨w, rfl, ex, mn⟩
  · rcases h' with ⟨_, rfl⟩ | ⟨w, _, ex, _⟩
    · rfl
    · exact absurd ex (no e w)
  · rcases h' with ⟨e, _⟩ | ⟨w', rfl, ex', mn'⟩
    · exact absurd ex (no e w)
    · obtain ⟨t, h1, h2⟩ := ex
      obtain ⟨t', h3, h4⟩ := ex'
      rw [wlt_tri (mn' t w h1 h2) (mn t' w' h3 h4)]
/-- what is told of a won word, as data -/
def wonD : V → PyData
  | .str w => .str w
  | _ => .none
theorem won_data {C : Ct} (h : Cok C) {n : Nat} {v : V} (hw : WonV C n v) (hn : n ≤ 2000) : (∀ (K : PySem.W.Frag) (H : Hp), Rp K H v (wonD v)) ∧ Sd 0 2000 (wonD v) ∧ (wonD v).hasDict = false := by
  rcases hw with ⟨_, rfl⟩ | ⟨w, rfl, ⟨t, h1, h2⟩, _⟩
  · exact ⟨fun _ _ => .non, sd_non.mono (Nat.le_refl _) (by decide), by simp [wonD, PyData.hasDict]⟩
  · have l := (lvl_ok h n _ h1).2
    have l2 : w.length ≤ 2000 := by
      have : w.length = n := l
      omega
    exact ⟨fun _ _ => .str w (Nat.le_trans l2 (by decide)), sd_str (word_chars h n _ h1) l2, by simp [wonD, PyData.hasDict]⟩
/-! a side's data, a rule's -/
mutual
theorem tO_nodict : ∀ {d : PyData}, tO d = true → d.hasDict = false
  | .none, _ => by simp [PyData.hasDict]
  | .bool _, _ => by simp [PyData.hasDict]
  | .int _, _ => by simp [PyData.hasDict]
  | .str _, _ => by simp [PyData.hasDict]
  | .list _, h => by simp [tO] at h
  | .dict _, h => by simp [tO] at h
  | .tuple xs, h => by
    rw [PyData.hasDict]
    exact tOs_nodict (by simpa only [tO] using h)
theorem tOs_nodict : ∀ {ds : List PyData}, tOs ds = true → PyData.hasDictAll ds = false
  | [], _ => by simp [PyData.hasDictAll]
  | d :: ds, h => by
    rw [tOs, Bool.and_eq_true] at h
    rw [PyData.hasDictAll, tO_nodict h.1, tOs_nodict h.2]
    rfl
end
theorem side_sd {d : PyData} {M : Mc} (h : Side d M) (few : M.C.length ≤ 5) : Sd 5 40000 d := by
  have hM := h.1.ok
  have b2 := hM.b2
  have b9 := hM.b9
  have lz := ltr_pos hM.ltr
  have zs := letters_small hM.ltr
  have t9 : (9 : Nat) < 10 ^ 39 := by decide +kernel
  have w := wide_two
  have w2 : wideN.natAbs < 10 ^ 39 := by decide +kernel
  have t : (300 : Nat) < 10 ^ 39 := by decide +kernel
  have sP : ∀ cs ∈ M.C, ∀ ps ∈ cs, ∀ p ∈ ps, Sd 1 262 (eP p) := fun cs hcs ps hps p hp => by
    obtain ⟨h1, h2, h3, h4⟩ := hM.pr cs hcs ps hps p hp
    refine (sd_tup (D := 0) (W := 130) (n := 2) (fun e he => ?_) (by simp)).mono (by decide) (by decide)
    simp only [List.mem_cons, List.not_mem_nil, or_false] at he
    rcases he with rfl | rfl
    · exact sd_int (by omega)
    · exact sd_int (by omega)
  have top : ∀ T : List PyData, T.length ≤ 5 → (∀ e ∈ T, Sd 3 2400 e) → Sd 5 40000 (.tuple [.int M.b, .str M.z, .tuple T]) := fun T l hT => by
    refine (sd_tup (D := 4) (W := 12005) (n := 3) (fun e he => ?_) (by simp)).mono (by decide) (by decide)
    simp only [List.mem_cons, List.not_mem_nil, or_false] at he
    rcases he with rfl | rfl | rfl
    · exact (sd_int (by omega)).mono (by decide) (by decide)
    · exact (sd_str zs lz.2).mono (by decide) (by decide)
    · exact (sd_tup (n := 5) hT l).mono (by decide) (by decide)
  rcases h.2 with ⟨rfl, _⟩ | ⟨rfl, _, _, _, one⟩
  · refine top (M.C.map eS) (by rw [List.length_map]; exact few) fun e he => ?_
    obtain ⟨cs, hcs, rfl⟩ := List.mem_map.mp he
    have row := hM.row cs hcs
    refine (sd_tup (D := 2) (W := 789) (n := 3) (fun e he => ?_) (by rw [List.length_map]; omega)).mono (by decide) (by decide)
    obtain ⟨ps, hps, rfl⟩ := List.mem_map.mp he
    have ch := hM.ch cs hcs ps hps
    refine (sd_tup (D := 1) (W := 262) (n := 3) (fun e he => ?_) (by rw [List.length_map]; omega)).mono (by decide) (by decide)
    obtain ⟨p, hp, rfl⟩ := List.mem_map.mp he
    exact sP cs hcs ps hps p hp
  · refine top (M.C.map fS) (by rw [List.length_map]; exact few) fun e he => ?_
    obtain ⟨cs, hcs, rfl⟩ := List.mem_map.mp he
    have row := hM.row cs hcs
    refine (sd_tup (D := 1) (W := 262) (n := 3) (fun e he => ?_) (by rw [List.length_map]; omega)).mono (by decide) (by decide)
    obtain ⟨ps, hps, rfl⟩ := List.mem_map.mp he
    have l1 := one cs hcs ps hps
    obtain ⟨p, rfl⟩ := List.length_eq_one_iff.mp l1
    exact sP cs hcs _ hps p (.head _)
def ruleD (C : Ct) : PyData := .tuple [.str C.M.z, .tuple (rowsD C.R)]
theorem rule_sd {C : Ct} (h : Cok C) : Sd 4 40000 (ruleD C) := by
  have lz := ltr_pos h.m.ltr
  have zs := letters_small h.m.ltr
  refine (sd_tup (D := 3) (W := 3000) (n := 2) (fun e he => ?_) (by simp)).mono (by decide) (by decide)
  simp only [List.mem_cons, List.not_mem_nil, or_false] at he
  rcases he with rfl | rfl
  · exact (sd_str zs lz.2).mono (by decide) (by decide)
  · refine (sd_tup (D := 1) (W := 393) (n := 4) (fun e he => ?_) (by unfold rowsD; rw [List.length_map]; exact h.r4)).mono (by decide) (by decide)
    unfold rowsD at he
    obtain ⟨r, hr, rfl⟩ := List.mem_map.mp he
    have ok := h.row r hr
    refine (sd_tup (D := 0) (W := 130) (n := 3) (fun e he => ?_) (by rw [List.length_map, ok.len]; exact lz.2)).mono (by decide) (by decide)
    obtain ⟨o, ho, rfl⟩ := List.mem_map.mp he
    cases o with
    | none => exact sd_non.mono (Nat.le_refl _) (by decide)
    | some i =>
      have g := ok.range i ho
      have t : (4 : Nat) < 10 ^ 39 := by decide +kernel
      have r4 := h.r4
      exact sd_int (by omega)
theorem tO_rule (C : Ct) : tO (ruleD C) = true := by
  simp only [ruleD, tO, tOs, Bool.true_and, Bool.and_true]
  exact tOs_rowsD C.R
/-- the three things together -/
theorem three_sd {d e : PyData} {C : Ct} (h : Cok C) (sm : Sml C) (hd : Side d C.M) (he : Side e C.N) : Sd 6 200000 (.tuple [d, e, ruleD C]) ∧ (PyData.tuple [d, e, ruleD C]).hasDict = false := by
  constructor
  · refine (sd_tup (D := 5) (W := 40000) (n := 3) (fun x hx => ?_) (by simp)).mono (by decide) (by decide)
    simp only [List.mem_cons, List.not_mem_nil, or_false] at hx
    rcases hx with rfl | rfl | rfl
    · exact side_sd hd (Nat.le_trans sm.m4 (by decide))
    · exact side_sd he (Nat.le_trans sm.n4 (by decide))
    · exact (rule_sd h).mono (by decide) (by decide)
  · rw [PyData.hasDict, PyData.hasDictAll, PyData.hasDictAll, PyData.hasDictAll, tO_nodict (side_tO hd), tO_nodict (side_tO he), tO_nodict (tO_rule C)]
    rfl
end My
/-! ### what the law needs -/
namespace My
open PySem PySem.Spec PyProof.Rows L2 PySem.Builtin.Str
theorem ts_butN {K : PySem.W.Frag} {p : Addr} {n : Nat} {H H' : Hp} (h : Pen H p n) (b : ButN p H H') : TStay K H H' := fun a xs e => by
  obtain ⟨ys, hp⟩ := h.ls
  have ne : ∀ o, H a = some o → (∃ ks, o = .tup ks) ∨ (∃ u ks, o = .frz u (.tup ks)) → a ≠ p := fun o e ho z => by
    rw [z, hp] at e
    cases e
    rcases ho with ⟨_, ho⟩ | ⟨_, _, ho⟩ <;> cases ho
  rcases e with (e | ⟨u, e⟩) | e
  · exact .inl (.inl (b _ _ (ne _ e (.inl ⟨_, rfl⟩)) e (fun _ z => nomatch z)))
  · exact .inl (.inr ⟨u, b _ _ (ne _ e (.inr ⟨_, _, rfl⟩)) e (fun _ z => nomatch z)⟩)
  · exact .inr e
theorem rs_of {K : PySem.W.Frag} {p : Addr} {n : Nat} {H : Hp} {v : V} {d : PyData} (h : Pen H p n) (hv : Rp K H v d) (t : tO d = true) : Rs p K H v d := fun H' b => rp_ts (ts_butN h b) hv t
/-- all but the pen stays, the pen stands, the tables stand -/
def Go (TT : List (Addr × Str)) (p : Addr) (n : Nat) (H H' : Hp) : Prop := ButN p H H' ∧ Pen H' p n ∧ LamX.Tabs TT H'
section
variable {TT : List (Addr × Str)} {p : Addr} {n m : Nat} {H H1 H2 : Hp}
theorem Go.pen (g : Go TT p n H H1) : Pen H1 p n := g.2.1
theorem Go.same (g : Go TT p n H H1) (s : Same H1 H2) : Go TT p n H H2 := ⟨g.1.trans (butN_same s), g.2.1.same s, tabs_same g.2.2 s⟩
theorem Go.but (g : Go TT p n H H1) (b : But p H1 H2) (h : Pen H2 p m) : Go TT p m H H2 := ⟨g.1.trans (butN_but b), h, tabs_pen g.2.2 g.pen b⟩
theorem Go.mono (g : Go TT p n H H1) (h : n ≤ m) : Go TT p m H H1 := ⟨g.1, g.2.1.mono h, g.2.2⟩
theorem Go.ext (g : Go TT p n H H1) (s : LamX.ExtN H1 H2) (t : LamX.Tabs TT H2) : Go TT p n H H2 := ⟨g.1.trans (butN_ext s), g.2.1.ext s, t⟩
end
theorem pen_upd {H : Hp} {p g : Addr} {n : Nat} {o0 o : HO} (h : Pen H p n) (ng : g ≠ p) (hg : H g = some o0) (no : ∀ is : List Int, o0 ≠ .lst (is.map V.int)) : Pen (upd H g o) p n := by
  obtain ⟨c, hPc⟩ := h.at
  obtain ⟨cs, _, _, _, hc, _⟩ := hPc.ex
  have nc : g ≠ c := fun z => by
    rw [← z, hg] at hc
    exact no cs (Option.some.inj hc)
  exact (hPc.keep (fun o e => by rw [upd_ne ng.symm]; exact e) (fun o e => by rw [upd_ne nc.symm]; exact e)).pen
theorem tabs_upd {T : List (Addr × Str)} {H : Hp} {g : Addr} {o0 o : HO} (h : LamX.Tabs T H) (hg : H g = some o0) (no : ∀ ps, o0 ≠ .tbl ps) (no2 : ∀ c q, o0 ≠ LamX.CodeO c q) : LamX.Tabs T (upd H g o) := fun x hx => by
  obtain ⟨ps, h1, h2, h3⟩ := h x hx
  have n1 : x.1 ≠ g := fun z => by
    rw [z, hg] at h1
    exact no ps (Option.some.inj h1)
  refine ⟨ps, by rw [upd_ne n1]; exact h1, h2, fun pos cv hc => ?_⟩
  obtain ⟨c, e1, e2⟩ := h3 pos cv hc
  have n2 : c ≠ g := fun z => by
    rw [z, hg] at e2
    exact no2 _ _ (Option.some.inj e2)
  exact ⟨c, e1, by rw [upd_ne n2]; exact e2⟩
/-- nothing, or a table -/
def Fresh (H : Hp) (g : Addr) : Prop := ∀ o, H g = some o → ∃ ps, o = .tbl ps
theorem Go.fresh {TT : List (Addr × Str)} {p g : Addr} {n : Nat} {H H1 : Hp} (h : Go TT p n H H1) (e : H1 g = none) : Fresh H g := fun o eo => Classical.byContradiction fun nt => by
  have := h.1 g o (new_ne h.pen e) eo fun ps z => nt ⟨ps, z⟩
  rw [e] at this
  cases this
/-- a fresh list of things that are no numbers is changed -/
theorem Go.upd {TT : List (Addr × Str)} {p g : Addr} {n : Nat} {H H1 : Hp} {xs ys : List V} (h : Go TT p n H H1) (ng : g ≠ p) (n0 : Fresh H g) (hg : H1 g = some (.lst xs)) (ne : ∃ r ys, xs = .ref r :: ys) : Go TT p n H (upd H1 g (.lst ys)) := by
  refine ⟨fun b o nb e nt => ?_, pen_upd h.pen ng hg fun is z => ?_, tabs_upd h.2.2 hg (fun _ z => nomatch z) (fun _ _ z => nomatch z)⟩
  · rw [upd_ne (fun z => by
      obtain ⟨ps, e2⟩ := n0 o (by rw [← z]; exact e)
      exact nt ps e2)]
    exact h.1 b o nb e nt
  · obtain ⟨r, ys, rfl⟩ := ne
    cases is with
    | nil => cases z
    | cons j js => cases z
theorem word9 : wordOf 9 = "great" := by decide +kernel
def dueS (b : Bool) : Str := if b then "great" else "fine"
/-- an act's ends, as the law's words -/
def wX (C0 C1 C2 C3 C4 C5 C6 C7 C8 C9 C10 C11 : Addr) (Q : VK) : XK := fun cls d H' => ∃ i, i < 12 ∧ cls = .ref ([C0, C1, C2, C3, C4, C5, C6, C7, C8, C9, C10, C11].getD i 0) ∧ d = none ∧ ∀ H'' : Hp, Same H' H'' → Q (.str (wordOf i)) H''
def wQ (Q : VK) : VK := fun _ H' => ∀ H'' : Hp, Same H' H'' → Q (.str "fine") H''
theorem conr_mk {CM CX CR : Addr} {d e : PyData} {C : Ct} {er : Addr → Prop} {ok : Ct → Prop} (hC : Cok C) (hd : Side d C.M) (he : Side e C.N) (rd : rulD (ruleD C) = true) (h : ok C) : ConR CM CX CR d e (ruleD C) er ok :=
  .inr ⟨C.M, ⟨hd.1.ok, hd.2.elim (fun h => .inl ⟨h.2, h.1⟩) fun h => .inr ⟨h.2.1, h.2.2.1, h.2.2.2.1⟩⟩, .inr ⟨C.N, ⟨he.1.ok, he.2.elim (fun h => .inl ⟨h.2, h.1⟩) fun h => .inr ⟨h.2.1, h.2.2.1, h.2.2.2.1⟩⟩, .inr ⟨hC.bb.symm, hC.zz.symm, .inr ⟨C.R, rfl, rd, hC, h⟩⟩⟩⟩
section
variable {K : PySem.W.Frag} {C0 C1 C2 C3 C4 C5 C6 C7 C8 C9 C10 C11 : Addr} {H : Hp} {x y r : V} {d e : PyData} {C : Ct} {n : Nat} {L : Int} {Q : VK}
/-- what a contest gives at a limit -/
theorem lim_mk {er : Addr → Prop} {ok : Nat → Prop} (he : EndsN C n) (h1 : 1 ≤ L) (h2 : L ≤ 2000) (hg : L < (tot C n : Int) → er C9) (ho : (tot C n : Int) ≤ L → ok n) : LimR C (.int L) C10 C9 er ok :=
  .inr ⟨L, rfl, h1, h2, fun m pm lt => hg (by have := tot_mono (C := C) (pre_ends he pm); omega), fun m em le => by
    obtain rfl := ends_uniq he em
    exact ho le⟩
theorem part_word (hx : Rp K H x d) (hd : Side d C.M) (hy : Rp K H y e) (hs : Side e C.N) (hr : Rp K H r (ruleD C)) (rd : rulD (ruleD C) = true) (hC : Cok C) (he : EndsN C n) (h1 : 1 ≤ L) (h2 : L ≤ 2000) (fin : ∀ H3, Same H H3 → Q (.str (dueS (decide (L < (tot C n : Int))))) H3) : spParted K C0 C8 C3 C10 C9 [x, y, r, .int L] H (wQ Q) (wX C0 C1 C2 C3 C4 C5 C6 C7 C8 C9 C10 C11 Q) := by
  refine ⟨x, y, r, .int L, d, e, ruleD C, .int L, rfl, hx, hy, hr, .int L, conr_mk hC hd hs rd (lim_mk he h1 h2 (fun lt => ?_) fun le H' v _ s H3 s3 => ?_)⟩
  · refine fun H' s => ⟨9, by decide, rfl, rfl, fun H3 s3 => ?_⟩
    have := fin H3 (s.trans s3)
    rw [decide_eq_true lt] at this
    rw [word9]
    exact this
  · have := fin H3 (s.trans s3)
    rw [decide_eq_false (by omega)] at this
    exact this
theorem lvs_word (hx : Rp K H x d) (hd : Side d C.M) (hy : Rp K H y e) (hs : Side e C.N) (hr : Rp K H r (ruleD C)) (rd : rulD (ruleD C) = true) (hC : Cok C) (he : EndsN C n) (h1 : 1 ≤ L) (h2 : L ≤ 2000) (fin : ∀ H3, Same H H3 → Q (.str (dueS (decide (L < (tot C n : Int))))) H3) : spLevelsOf K C0 C8 C3 C10 C9 [x, y, r, .int L] H (wQ Q) (wX C0 C1 C2 C3 C4 C5 C6 C7 C8 C9 C10 C11 Q) := by
  refine ⟨x, y, r, .int L, d, e, ruleD C, .int L, rfl, hx, hy, hr, .int L, conr_mk hC hd hs rd (lim_mk he h1 h2 (fun lt => ?_) fun le H' a rs s _ _ _ _ H3 s3 => ?_)⟩
  · refine fun H' s => ⟨9, by decide, rfl, rfl, fun H3 s3 => ?_⟩
    have := fin H3 (s.trans s3)
    rw [decide_eq_true lt] at this
    rw [word9]
    exact this
  · have := fin H3 (s.trans s3)
    rw [decide_eq_false (by omega)] at this
    exact this
/-- the act: three things and a limit -/
theorem tl_of3 {sp : Sp} {σ : L2.St} {i j k l : Nat} {z : V} (h1 : σ[i]? = some (some x)) (h2 : σ[j]? = some (some y)) (h3 : σ[k]? = some (some r)) (h4 : σ[l]? = some (some z)) (h : sp [x, y, r, z] H (wQ Q) (wX C0 C1 C2 C3 C4 C5 C6 C7 C8 C9 C10 C11 Q)) : TTword [C0, C1, C2, C3, C4, C5, C6, C7, C8, C9, C10, C11] (fun E H' Q' => tCallN 3 1 sp (fun vs zs => vs ++ zs) E (tCons (tVar i) (tCons (tVar j) (tCons (tVar k) tNil))) (tCons (tVar l) tNil) σ H' Q') H Q :=
  ⟨x, h1, y, h2, r, h3, z, h4, rfl, rfl, h⟩
end
structure WT (K : PySem.W.Frag) (mg : Str → Option Value) (fW : Addr) (dW : FuncData) : Prop where
  FWord : Fun K "_law_x_word" "_law_x_word" sWord fW dW
  bWord : Binds K dW ["act"] []
  gWord : mg "_law_x_word" = some (.ref fW)
theorem Fun.okGC {P : Program} {w : World} {K : PySem.W.Frag} {mg : Str → Option Value} {base : Heap} {CX : CXT} {x qual : Str} {st : Stmt} {f : Addr} {fd : FuncData} {N ps : List Str} {k : Nat} {sp : Sp} {c : Value} (F : Fun K x qual st f fd) (hv : fd.code = c) (S : FnScope N ps (defScope st))
    (len : ∀ vs H Q E, sp vs H Q E → vs.length = ps.length)
    (hbody : ∀ (A : Around) (outer : List Env) (s : Shared) (H : Hp) (vs : List V) (Q : VK) (E : XK), A.guards = some [] → Room k (A.deeper (envOfC qual (defScope st) s.heap.objs.size f c)) → sp vs H Q E →
      ∃ t, PSs (cxOf CX P w K mg base N qual (defScope st) f c A outer s H E) (defBody st) t ∧ t { nx := fun _ H' => Q .non H', rt := Q } (start N vs) H) :
    FnG P w K mg base CX (k + 1) f fd ps sp := by
  obtain ⟨oc, od, kV, doc, pm, an, cdv, ct, osl, hfd, lk, hcode⟩ := F.ex
  subst hfd
  obtain rfl : cdv = c := hv
  refine ⟨len, fun A hgd room out st' G ar uu vv R W e0 hb rv hs => ?_⟩
  have hlen := len _ _ _ _ hs
  have kin := e0.mod.kin.keeps fun b o e => (e0.bs b o e).1
  have nolim := e0.mod.nolimit.keeps fun b o e => (e0.bs b o e).1
  refine codeAny_call_function room.depth (kin _ _ lk) rfl S.co S.gen rfl (PySem.W.codeRec_of kin hcode) (hb _ _ _ _ ?_)
  refine wpAny_newFunctionEnv_cells S.kind (fun ⟨n, v⟩ hmem => ?kinds) fun env' heq s2 x2 => ?_
  case kinds =>
    cases S.par n (List.of_mem_zip hmem).1 with
    | inl q => exact .inl q
    | inr q => exact .inr ⟨q, PySem.W.cellsFrom_some _ _ _ (.inl q)⟩
  subst heq
  refine ⟨nolim.keeps x2.toInCall.keep, codeAny_func ?_⟩
  obtain ⟨t, der, reading⟩ := hbody A out st' G vv R W hgd (room.deeper _) hs
  refine wpAny_mono (der.run [] s2 (start N vv) G _ (inv_start S room.hd e0 hlen rv x2) reading) (fun fl s3 end3 => ?_) fun _ _ end3 => end3
  cases fl with
  | next =>
    obtain ⟨_, G', J, q⟩ := end3
    exact ⟨V.non, G', J.os, J.bare, J.base, J.hok, rfl, q⟩
  | ret u =>
    obtain ⟨v, _, G', J, rv', q⟩ := end3
    exact ⟨v, G', J.os, J.bare, J.base, J.hok, rv', q⟩
  | brk => exact (let ⟨_, _, _, q⟩ := end3; False.elim q)
  | cont => exact (let ⟨_, _, _, q⟩ := end3; False.elim q)
section
variable {K : PySem.W.Frag} {mg : Str → Option Value} {m1 m2 m3 m4 m5 m6 m7 m8 m9 m10 m11 m12 : Addr} {n1 n2 n3 n4 n5 n6 n7 n8 n9 n10 n11 n12 : FuncData} {t1 t2 t3 t4 t5 t6 : Tok} {CM a1 a3 : Addr} {b1 b3 : FuncData} {r1 r2 r3 r4 r5 p1 : Addr} {v1 v2 v3 v4 v5 q1 : FuncData} {CX CR CI mR mW : Addr} {nR nW : FuncData} {g1 g2 g3 g4 g5 : Addr} {e1 e2 e3 e4 e5 : FuncData} {CG fF p7 p8 : Addr} {q7 q8 : FuncData}
theorem part_binds (T : PaTxt K mg m1 m2 m3 m4 m5 m6 m7 m8 m9 m10 m11 m12 n1 n2 n3 n4 n5 n6 n7 n8 n9 n10 n11 n12 t1 t2 t3 t4 t5 t6 CM a1 a3 b1 b3 r1 r2 r3 r4 r5 p1 v1 v2 v3 v4 v5 q1 CX CR CI mR mW nR nW g1 g2 g3 g4 g5 e1 e2 e3 e4 e5 CG fF p7 p8 q7 q8) : ∃ ds, Vals [V.int 2000] ds ∧ Binds K q7 ["one", "other", "rule", "limit"] ds :=
  T.FParted.binds0 3 (by simp) rfl (fun D doc pm an cdv ct us ks h1 h2 => match us, ks, h1, h2 with
    | [_, _, _], [_], _, _ => ⟨_, _, _, _, _, _, rfl, rfl, rfl⟩)
theorem part_kbinds (T : PaTxt K mg m1 m2 m3 m4 m5 m6 m7 m8 m9 m10 m11 m12 n1 n2 n3 n4 n5 n6 n7 n8 n9 n10 n11 n12 t1 t2 t3 t4 t5 t6 CM a1 a3 b1 b3 r1 r2 r3 r4 r5 p1 v1 v2 v3 v4 v5 q1 CX CR CI mR mW nR nW g1 g2 g3 g4 g5 e1 e2 e3 e4 e5 CG fF p7 p8 q7 q8) : KBn K q7 ["one", "other", "rule", "limit"] 3 ["limit"] (fun us ws => us ++ ws) (fun vs zs => vs ++ zs) := by
  obtain ⟨mv, h⟩ := T.FParted.kbinds0 (ps := ["one", "other", "rule", "limit"]) 3 ["limit"] [] (fun us _ ws => us ++ ws) (by simp) (fun _ h => nomatch h) (fun r1 _ r3 => r1.append r3) (fun D doc pm an cdv ct us mv ws h1 h2 h3 => match us, mv, ws, h1, h2, h3 with
    | [_, _, _], [], [_], _, _, _ => rfl)
  exact h
theorem lvs_binds (T : PaTxt K mg m1 m2 m3 m4 m5 m6 m7 m8 m9 m10 m11 m12 n1 n2 n3 n4 n5 n6 n7 n8 n9 n10 n11 n12 t1 t2 t3 t4 t5 t6 CM a1 a3 b1 b3 r1 r2 r3 r4 r5 p1 v1 v2 v3 v4 v5 q1 CX CR CI mR mW nR nW g1 g2 g3 g4 g5 e1 e2 e3 e4 e5 CG fF p7 p8 q7 q8) : ∃ ds, Vals [V.int 2000] ds ∧ Binds K q8 ["one", "other", "rule", "limit"] ds :=
  T.FLevelsOf.binds0 3 (by simp) rfl (fun D doc pm an cdv ct us ks h1 h2 => match us, ks, h1, h2 with
    | [_, _, _], [_], _, _ => ⟨_, _, _, _, _, _, rfl, rfl, rfl⟩)
theorem lvs_kbinds (T : PaTxt K mg m1 m2 m3 m4 m5 m6 m7 m8 m9 m10 m11 m12 n1 n2 n3 n4 n5 n6 n7 n8 n9 n10 n11 n12 t1 t2 t3 t4 t5 t6 CM a1 a3 b1 b3 r1 r2 r3 r4 r5 p1 v1 v2 v3 v4 v5 q1 CX CR CI mR mW nR nW g1 g2 g3 g4 g5 e1 e2 e3 e4 e5 CG fF p7 p8 q7 q8) : KBn K q8 ["one", "other", "rule", "limit"] 3 ["limit"] (fun us ws => us ++ ws) (fun vs zs => vs ++ zs) := by
  obtain ⟨mv, h⟩ := T.FLevelsOf.kbinds0 (ps := ["one", "other", "rule", "limit"]) 3 ["limit"] [] (fun us _ ws => us ++ ws) (by simp) (fun _ h => nomatch h) (fun r1 _ r3 => r1.append r3) (fun D doc pm an cdv ct us mv ws h1 h2 h3 => match us, mv, ws, h1, h2, h3 with
    | [_, _, _], [], [_], _, _, _ => rfl)
  exact h
end
end My
/-! ### the law -/
namespace My
open PySem PySem.Spec PyProof.Rows L2 PySem.Builtin.Str
abbrev sLaw : Stmt := topS 71
theorem scLaw : FnScope ["script", "pen", "turn", "kept", "due", "won", "many", "again", "told", "word", "most", "one", "other", "rule", "level"] ["script"] (defScope sLaw) := ⟨rfl, rfl, rfl, by decide +kernel, rfl, by decide +kernel, by decide +kernel⟩
def qLaw : Str := (envOfC "law" (defScope sLaw) 0 0 .none).qual ++ "<lambda>"
structure LawTxt (K : PySem.W.Frag) (mg : Str → Option Value) : Prop where
  range : mg "range" = none
  repr : mg "repr" = none
  len : mg "len" = none
  sum : mg "sum" = none
def TL1 (P1 : Addr) : List (Addr × Str) := [(P1, qLaw)]
theorem sum_ints : ∀ tss : List (List Sg), (tss.map fun ts => (ts.length : Int)).sum = ((tss.map List.length).sum : Nat)
  | [] => rfl
  | ts :: tss => by
    rw [List.map_cons, List.map_cons, List.sum_cons, List.sum_cons, sum_ints tss]
    omega
/-- what is due stands -/
structure Du (p : Addr) (K : PySem.W.Frag) (C : Ct) (n : Nat) (a : Addr) (rs : List Addr) (H : Hp) : Prop where
  na : a ≠ p
  nr : ∀ r ∈ rs, r ≠ p
  ll : LsL K H a rs ((List.range (n + 1)).map (sLv C))
theorem Du.go {p : Addr} {K : PySem.W.Frag} {C : Ct} {n m : Nat} {a : Addr} {rs : List Addr} {H H' : Hp} (h : Du p K C n a rs H) (hP : Pen H p m) (b : ButN p H H') : Du p K C n a rs H' := by
  refine ⟨h.na, h.nr, ?_, ?_⟩
  · exact b _ _ h.na h.ll.1 (fun _ z => nomatch z)
  have : ∀ {rs : List Addr} {tss : List (List Sg)}, (∀ r ∈ rs, r ≠ p) → Paired (fun (r : Addr) (ts : List Sg) => ∃ us, H r = some (.lst us) ∧ RpAll K H us (ts.map eSg)) rs tss → Paired (fun (r : Addr) (ts : List Sg) => ∃ us, H' r = some (.lst us) ∧ RpAll K H' us (ts.map eSg)) rs tss := fun {rs tss} nr h => by
    induction h with
    | nil => exact .nil
    | cons h1 _ ih =>
      obtain ⟨us, e1, e2⟩ := h1
      exact .cons ⟨us, b _ _ (nr _ (.head _)) e1 (fun _ z => nomatch z), rpAll_ts (ts_butN hP b) e2 (tOs_map enc_sg.tO _)⟩ (ih fun r hr => nr r (.tail _ hr))
  exact this h.nr h.ll.2
theorem lvl_ne {C : Ct} {n i : Nat} (pre : Pre C n) (h : i ≤ n) : sLv C i ≠ [] := fun z => by
  have l := sLv_len C i
  rw [z] at l
  cases i with
  | zero => simp [lvl, lvN] at l
  | succ i =>
    have := (pre i (by omega)).2
    exact this (List.eq_nil_of_length_eq_zero l.symm)
def spLaw (K : PySem.W.Frag) (P1 : Addr) : Sp := fun vs H Q _ => ∃ (a : Addr) (ns : List Int), vs = [.ref a] ∧ SqL K H a (ns.map V.int) ∧ ns.length ≤ 63 ∧ H P1 = some (.tbl #[]) ∧ ∀ H', Q (.bl true) H'
section
variable {P : Program} {w : World} {K : PySem.W.Frag} {mg : Str → Option Value} {base : Heap} {f1 f2 f3 f4 : Addr} {d1 d2 d3 d4 : FuncData} {m1 m2 m3 m4 m5 m6 m7 m8 m9 m10 m11 m12 : Addr} {n1 n2 n3 n4 n5 n6 n7 n8 n9 n10 n11 n12 : FuncData} {t1 t2 t3 t4 t5 t6 : Tok} {a1 a3 : Addr} {b1 b3 : FuncData} {r1 r2 r3 r4 r5 p1 : Addr} {v1 v2 v3 v4 v5 q1 : FuncData} {mR mW : Addr} {nR nW : FuncData} {g1 g2 g3 g4 g5 : Addr} {e1 e2 e3 e4 e5 : FuncData} {fF p7 p8 : Addr} {q7 q8 : FuncData} {C0 C1 C2 C3 C4 C5 C6 C7 C8 C9 C10 C11 CL : Addr} {fW : Addr} {dW : FuncData} {c1 P1 : Addr}
  {z1 z2 z8 zl xm xp xf xs : Addr} {u1 u2 u8 ul ym yp yf ys : FuncData} {x1 x2 x3 x4 x5 x6 x7 : Addr} {y1 y2 y3 y4 y5 y6 y7 : FuncData}
theorem ok_law {f : Addr} {fd : FuncData} (F : Fun K "law" "law" sLaw f fd) (hcd : fd.code = .ref c1) (TP : PenTxt K mg f1 f2 f3 f4 d1 d2 d3 d4) (TPA : PaTxt K mg m1 m2 m3 m4 m5 m6 m7 m8 m9 m10 m11 m12 n1 n2 n3 n4 n5 n6 n7 n8 n9 n10 n11 n12 t1 t2 t3 t4 t5 t6 C0 a1 a3 b1 b3 r1 r2 r3 r4 r5 p1 v1 v2 v3 v4 v5 q1 C8 C3 C10 mR mW nR nW g1 g2 g3 g4 g5 e1 e2 e3 e4 e5 C9 fF p7 p8 q7 q8) (TE : WordTxt K mg C0 C1 C2 C3 C4 C5 C6 C7 C8 C9 C10 C11 CL) (TW : WT K mg fW dW)
    (TS : SiTxt K mg z1 z2 z8 zl xm xp xf xs u1 u2 u8 ul ym yp yf ys) (TN : LnTxt K mg x1 x2 x3 x4 x5 x6 x7 y1 y2 y3 y4 y5 y6 y7) (T : LawTxt K mg) (hTB1 : LamX.TabB base mg c1 P1) : FnG P w K mg base CX0 12 f fd ["script"] (spLaw K P1) := by
  have GO : FnOk P w K mg base CX0 11 f2 d2 ["script"] (spOpen K) := ok_open TP (k := 10)
  have GT : FnOk P w K mg base CX0 11 f3 d3 ["pen", "many"] spTake := ok_take TP (k := 9)
  have GPK : FnOk P w K mg base CX0 11 f4 d4 ["pen", "some"] (spPick K) := ok_pick TP (k := 8)
  have GS : FnOk P w K mg base CX0 11 z8 u8 ["pen"] (spSides K) := ok_sides TP TS (k := 5)
  have GLV : FnOk P w K mg base CX0 11 x6 y6 ["one", "other", "rule"] (spXLevels K) := ok_xLevels TN.ll (k := 7)
  have GWN : FnOk P w K mg base CX0 11 x7 y7 ["one", "other", "rule", "levels"] (spXWon K) := ok_xWon TN (k := 7)
  have GPA : FnOk P w K mg base (L2.CX P w) 11 p7 q7 ["one", "other", "rule", "limit"] (spParted K C0 C8 C3 C10 C9) := ok_parted TPA (k := 2)
  have GLO : FnOk P w K mg base (L2.CX P w) 11 p8 q8 ["one", "other", "rule", "limit"] (spLevelsOf K C0 C8 C3 C10 C9) := ok_levelsOf TPA (k := 2)
  have GPA2 : FnOk P w K mg base (L2.CX P w) 9 p7 q7 ["one", "other", "rule", "limit"] (spParted K C0 C8 C3 C10 C9) := ok_parted TPA (k := 0)
  have GLO2 : FnOk P w K mg base (L2.CX P w) 9 p8 q8 ["one", "other", "rule", "limit"] (spLevelsOf K C0 C8 C3 C10 C9) := ok_levelsOf TPA (k := 0)
  have hT1 : (P1, qLaw) ∈ TL1 P1 := .head _
  have hT2 : ∀ q ∈ TL1 P1, q.1 = P1 → q.2 = qLaw := fun q hq _ => by
    rw [List.mem_singleton.mp hq]
  obtain ⟨dPa, vPa, bPa⟩ := part_binds TPA
  obtain ⟨dLo, vLo, bLo⟩ := lvs_binds TPA
  obtain ⟨ocW, odW, kVW, docW, pmW, anW, cdW, ctW, slW, rfl, lkW, cgW⟩ := TW.FWord.ex
  refine Fun.okGC F hcd scLaw (fun vs H Q E h => ?_) (fun A outer s H vs Q E hgd hr h => ?_)
  · obtain ⟨a, ns, rfl, _⟩ := h
    rfl
  · obtain ⟨a, ns, rfl, hS, hl63, hT, q⟩ := h
    have hu : (A.deeper (envOfC "law" (defScope sLaw) s.heap.objs.size f (.ref c1))).units + 64 < cLine := by have := hr.un; omega
    refine ⟨_, PSs.nox (pss_cons (ps_set (i := 1) scLaw.nd rfl (.inl rfl) (pe_call GO hr (by rfl) TP.gOpen TP.FOpen.kp TP.bOpen .nil pass0 (pa_cons (pv 0) pa_nil)))
 (pss_cons (ps_for PassesOwn.never rfl (pi_range1 (by rfl) T.range (pa_cons pe_int pa_nil)) (pg_name (i := 2) scLaw.nd rfl (.inl rfl))
 (Evl.pss_cut (ps_asg (pe_call GS hr (by rfl) TS.gXSides TS.FXSides.kp TS.bXSides .nil pass0 (pa_cons (pv 1) pa_nil)) (pg_tup rfl (pgs_cons (pg_name (i := 11) scLaw.nd rfl (.inr rfl)) (pgs_cons (pg_name (i := 12) scLaw.nd rfl (.inr rfl)) (pgs_cons (pg_name (i := 13) scLaw.nd rfl (.inr rfl)) pgs_nil)))))
 (Evl.pss_cut (ps_par (i := 3) (j := 4) (by rfl) scLaw.nd rfl rfl (by decide) rfl rfl (pa_cons (pe_callB (call_reprR hgd hu) (by rfl) T.repr (by decide +kernel) (pa_cons (pe_tup (pa_cons (pv 11) (pa_cons (pv 12) (pa_cons (pv 13) pa_nil)))) pa_nil)) (pa_cons (pe_call GLV hr (by rfl) TN.ll.gXLevels TN.ll.FXLevels.kp TN.ll.bXLevels .nil pass0 (pa_cons (pv 11) (pa_cons (pv 12) (pa_cons (pv 13) pa_nil)))) pa_nil)) (by rfl))
 (Evl.pss_cut (ps_par (i := 5) (j := 6) (by rfl) scLaw.nd rfl rfl (by decide) rfl rfl (pa_cons (pe_call GWN hr (by rfl) TN.gXWon TN.FXWon.kp TN.bXWon .nil pass0 (pa_cons (pv 11) (pa_cons (pv 12) (pa_cons (pv 13) (pa_cons (pv 4) pa_nil))))) (pa_cons (pe_callB (cr_sum rfl) (by rfl) T.sum (by decide +kernel) (pa_cons (pe_lc (own := [("level", 14)]) (g := gName 14) (tt := tYes) (by rfl) scLaw.nd (pi_list (pv 4)) (blkOk_by (N := ["script", "pen", "turn", "kept", "due", "won", "many", "again", "told", "word", "most", "one", "other", "rule", "level"]) (sc := defScope sLaw) (by decide +kernel)) (fun _ _ _ _ _ => pg_name (i := 14) scLaw.nd rfl (Or.inl rfl)) (fun _ _ _ _ _ => pts_nil) (fun _ _ _ _ _ => (pe_callB (len_seqK (K := K) rfl) (by rfl) T.len PySem.boot_len (pa_cons (pv 14) pa_nil)))) pa_nil)) pa_nil)) (by rfl))
 (Evl.pss_cut (ps_for PassesOwn.never rfl (pi_range1 (by rfl) T.range (pa_cons pe_int pa_nil)) (pg_name (i := 7) scLaw.nd rfl (.inl rfl))
 (Evl.pss_cut (ps_set (i := 8) scLaw.nd rfl (.inl rfl) (pe_call GLO hr (by rfl) TPA.gLevelsOf TPA.FLevelsOf.kp bLo vLo passL (pa_cons (pv 11) (pa_cons (pv 12) (pa_cons (pv 13) pa_nil)))))
 (Evl.pss_cut (ps_if (PW.pt (pw_or (pt_cmpR op_ne (pe_callB (call_reprR hgd hu) (by rfl) T.repr (by decide +kernel) (pa_cons (pv 8) pa_nil)) (pe_callB (call_reprR hgd hu) (by rfl) T.repr (by decide +kernel) (pa_cons (pv 4) pa_nil)) (nomark _)) (pw_or1 (pt_cmpR op_ne (pe_callB (call_reprR hgd hu) (by rfl) T.repr (by decide +kernel) (pa_cons (pe_call GPA hr (by rfl) TPA.gParted TPA.FParted.kp bPa vPa passL (pa_cons (pv 11) (pa_cons (pv 12) (pa_cons (pv 13) pa_nil)))) pa_nil)) (pe_callB (call_reprR hgd hu) (by rfl) T.repr (by decide +kernel) (pa_cons (pv 5) pa_nil)) (nomark _))))) (pss_one (ps_ret pe_bl)) pss_nil)
 (Evl.pss_cut (ps_expr (pe_bm PySem.F.plainAttrs_list PySem.F.slot_list_append PySem.F.type_list_append mt_append (pe_ix ix_list (pv 8) (pe_call GT hr (by rfl) TP.gTake TP.FTake.kp TP.bTake .nil pass0 (pa_cons (pv 1) (pa_cons (pe_callB call_len_seq (by rfl) T.len PySem.boot_len (pa_cons (pv 8) pa_nil)) pa_nil))) (fun _ _ => rfl)) (pa_cons pe_non pa_nil)))
 (pss_one (ps_expr (pe_bm PySem.F.plainAttrs_list PySem.F.slot_list_append PySem.F.type_list_append mt_append (pv 8) (pa_cons pe_non pa_nil))))))))
 (Evl.pss_cut (ps_for PassesOwn.never rfl (pi_list (pe_lst (pa_cons (pe_op op_sub (pv 6) pe_int) (pa_cons (pe_call GPK hr (by rfl) TP.gPick TP.FPick.kp TP.bPick .nil pass0 (pa_cons (pv 1) (pa_cons (pe_lst (pa_cons (pv 6) (pa_cons (pv 6) (pa_cons (pe_op op_add pe_int (pe_call GT hr (by rfl) TP.gTake TP.FTake.kp TP.bTake .nil pass0 (pa_cons (pv 1) (pa_cons pe_int pa_nil)))) pa_nil)))) pa_nil))) pa_nil)))) (pg_name (i := 10) scLaw.nd rfl (.inr rfl))
 (pss_one (ps_if (pt_cmpR op_gt (pv 10) pe_int (nomark _)) (Evl.pss_cut (ps_set (i := 9) scLaw.nd rfl (.inl rfl) (pe_ifExp (pt_cmpR op_lt (pv 10) (pv 6) (nomark _)) pe_str pe_str))
 (Evl.pss_cut (ps_if (pt_cmpR op_ne (LamX.pe_lamcall (T := TL1 P1) (a := "act") (by rfl) TW.gWord TW.FWord.kp lkW cgW TW.bWord scWord (by rfl) (.inl rfl) (word_gives TE) hTB1 rfl hT1 hT2 hr (show LamX.LamS (defScope sLaw) _ from LamX.lamS_by (by decide +kernel)) rfl (fun _ _ _ _ _ => rfl) (fun A outer s H E f c1 hr2 => (pe_callN GPA2 hr2 (by rfl) TPA.gParted TPA.FParted.kp (part_kbinds TPA) (passes_call (takes_of rfl rfl rfl rfl) (fun _ _ _ _ h => h)) (pa_cons (pv 11) (pa_cons (pv 12) (pa_cons (pv 13) pa_nil))) (pk_cons (pv 10) pk_nil)))) (pv 9) (nomark _)) (pss_one (ps_ret pe_bl)) pss_nil)
 (pss_one (ps_if (pt_cmpR op_ne (LamX.pe_lamcall (T := TL1 P1) (a := "act") (by rfl) TW.gWord TW.FWord.kp lkW cgW TW.bWord scWord (by rfl) (.inl rfl) (word_gives TE) hTB1 rfl hT1 hT2 hr (show LamX.LamS (defScope sLaw) _ from LamX.lamS_by (by decide +kernel)) rfl (fun _ _ _ _ _ => rfl) (fun A outer s H E f c1 hr2 => (pe_callN GLO2 hr2 (by rfl) TPA.gLevelsOf TPA.FLevelsOf.kp (lvs_kbinds TPA) (passes_call (takes_of rfl rfl rfl rfl) (fun _ _ _ _ h => h)) (pa_cons (pv 11) (pa_cons (pv 12) (pa_cons (pv 13) pa_nil))) (pk_cons (pv 10) pk_nil)))) (pv 9) (nomark _)) (pss_one (ps_ret pe_bl)) pss_nil)))) pss_nil)))
 (pss_one (ps_if (PW.pt (pw_or (pt_cmpR op_ne (pe_callB (call_reprR hgd hu) (by rfl) T.repr (by decide +kernel) (pa_cons (pe_tup (pa_cons (pv 11) (pa_cons (pv 12) (pa_cons (pv 13) pa_nil)))) pa_nil)) (pv 3) (nomark _)) (pw_or1 (PW.pt (pw_and (pt_cmpR op_notN (pv 5) pe_non (nomark _)) (pw_and1 (pt_cmpR op_ne (pe_callB call_len_str (by rfl) T.len PySem.boot_len (pa_cons (pv 5) pa_nil)) (pe_op op_sub (pe_callB call_len_seq (by rfl) T.len PySem.boot_len (pa_cons (pv 4) pa_nil)) pe_int) (nomark _)))))))) (pss_one (ps_ret pe_bl)) pss_nil))))))))
 (pss_one (ps_ret pe_bl)))), ?_⟩
    refine ⟨_, rfl, a, ns, rfl, hS, hl63, fun H0 p s0 np hP0 => ?_⟩
    have hT0 : LamX.Tabs (TL1 P1) H0 := fun x hx => by
      rw [List.mem_singleton.mp hx]
      exact LamX.TabS.nil (s0 _ _ hT)
    clear hT
    have sz3 : ∀ {m : Nat}, m ≤ 9 → m ≤ sizeLine := fun h => Nat.le_trans h (by decide)
    refine ⟨2, rfl, by decide, by decide, for_range (lo := 0) (n := 2) (fun i σ H' => ∃ v2 v3 v4 v5 v6 v7 v8 v9 v10 v11 v12 v13 v14 : Option V, σ = [some (.ref a), some (.ref p), v2, v3, v4, v5, v6, v7, v8, v9, v10, v11, v12, v13, v14] ∧ Pen H' p (500 * i) ∧ LamX.Tabs (TL1 P1) H')
      ⟨none, none, none, none, none, none, none, none, none, none, none, none, none, rfl, hP0, hT0⟩ ?_ ?_⟩
    · rintro i σ H hi ⟨v2, v3, v4, v5, v6, v7, v8, v9, v10, v11, v12, v13, v14, rfl, hP, hT⟩
      refine ⟨fun σ H' => ∃ (x y r : V) (d e : PyData) (C : Ct), σ = [some (.ref a), some (.ref p), some (.int (0 + (i : Int))), v3, v4, v5, v6, v7, v8, v9, v10, some x, some y, some r, v14] ∧ Pen H' p (500 * i + 400) ∧ LamX.Tabs (TL1 P1) H' ∧ Rs p K H' x d ∧ Side d C.M ∧ Rs p K H' y e ∧ Side e C.N ∧ Rs p K H' r (ruleD C) ∧ rulD (ruleD C) = true ∧ Cok C ∧ bndC C ≤ 700 ∧ Sml C, ?_, ?_⟩
      · refine ⟨_, rfl, p, _, rfl, hP, by omega, fun H1 t x y r d e C b1 hP1 nt ht rx sd ry se rr rd hC bnd sm => ?_⟩
        exact ⟨t, _, rfl, SqT.of ht, rfl, _, _, rfl, _, _, rfl, _, _, rfl, rfl, x, y, r, d, e, C, rfl, hP1, tabs_pen hT hP b1, rs_of hP1 rx (side_tO sd), sd, rs_of hP1 ry (side_tO se), se, rs_of hP1 rr (tO_rule C), rd, hC, bnd, sm⟩
      clear hP hT
      rintro σ H ⟨x, y, r, d, e, C, rfl, hP, hT, hx, sd, hy, se, hr3, rd, hC, bnd, sm⟩
      obtain ⟨td, tn⟩ := three_sd hC sm sd se
      have tfit := td.fits (by decide)
      -- kept, due
      refine ⟨fun σ H' => ∃ (da : Addr) (rs : List Addr) (n : Nat), σ = [some (.ref a), some (.ref p), some (.int (0 + (i : Int))), some (.str (PyData.tuple [d, e, ruleD C]).shown), some (.ref da), v5, v6, v7, v8, v9, v10, some x, some y, some r, v14] ∧ Same H H' ∧ Du p K C n da rs H' ∧ EndsN C n, ?_, ?_⟩
      · refine ⟨_, rfl, _, rfl, _, rfl, sz3 (by simp), fun u nu => ?_⟩
        have xu := same_upd (o := HO.tup [x, y, r]) nu
        refine ⟨.ref u, _, rfl, .tup (SqT.of upd_same) (.cons (hx.rp.go xu) (.cons (hy.rp.go xu) (.cons (hr3.rp.go xu) .nil))), .inr tn, td.sh, Nat.le_trans td.dp (by decide), tfit, ?_⟩
        refine ⟨_, rfl, _, rfl, _, rfl, x, y, r, d, e, C, rfl, hx.rp.go xu, sd, hy.rp.go xu, se, hC, hr3.rp.go xu, bnd, fun n H' da rs en s na nrs _ hll => ⟨_, _, rfl, da, rs, n, rfl, xu.trans s, ⟨new_ne (hP.same xu) na, fun r hr => new_ne (hP.same xu) (nrs r hr), hll⟩, en⟩⟩
      rintro σ H1 ⟨da, rs, n, rfl, s1, du, en⟩
      replace hP := hP.same s1
      replace hT := tabs_same hT s1
      replace hx := hx.go (butN_same s1)
      replace hy := hy.go (butN_same s1)
      replace hr3 := hr3.go (butN_same s1)
      clear s1
      have pt := pre_tot en.1
      have tl := tot_le hC n
      have lrs := du.ll.len
      -- won, many
      refine ⟨fun σ H' => ∃ (wv : V) (v14 : Option V), σ = [some (.ref a), some (.ref p), some (.int (0 + (i : Int))), some (.str (PyData.tuple [d, e, ruleD C]).shown), some (.ref da), some wv, some (.int (tot C n : Int)), v7, v8, v9, v10, some x, some y, some r, v14] ∧ Same H1 H' ∧ WonV C n wv, ?_, ?_⟩
      · refine ⟨_, rfl, _, rfl, _, rfl, _, rfl, x, y, r, d, e, C, da, rs, n, rfl, hx.rp, sd, hy.rp, se, hC, hr3.rp, bnd, du.ll, en.1, fun H2 wv hw s2 => ?_⟩
        have ll2 := du.ll.same s2
        refine ⟨_, rfl, da, rfl, ⟨_, SqL.of ll2.1⟩, fun D nD => ?_⟩
        refine lc_lstO (xs := rs.map V.ref) (fun j H' => Same H2 H' ∧ H' D = some (.lst (((((List.range (n + 1)).map (sLv C)).take j).map fun ts => (ts.length : Int)).map V.int))) ⟨same_upd nD, upd_same⟩ (fun j H' h => SqL.of (h.1 _ _ ll2.1)) ?_ ?_
        · rintro j u H' hu ⟨s3, hD⟩
          have hj : j < n + 1 := by
            have := (List.getElem?_eq_some_iff.mp hu).1
            rw [List.length_map] at this
            omega
          obtain ⟨r1, us, hr1, e1, e2⟩ := ll2.get (show j ≤ n by omega)
          rw [List.getElem?_map, hr1] at hu
          obtain rfl : V.ref r1 = u := Option.some.inj hu
          have lus : us.length = (sLv C j).length := by rw [e2.len, List.length_map]
          refine ⟨rfl, ?_⟩
          refine ⟨_, rfl, r1, us, rfl, .inl (SqL.of (s3 _ _ e1)), _, hD, ?_, same_new s3 nD, ?_⟩
          · rw [List.length_map, List.length_map]
            have := List.length_take_le' j ((List.range (n + 1)).map (sLv C))
            rw [List.length_map, List.length_range] at this
            exact Nat.lt_of_le_of_lt (show _ ≤ 2000 by omega) (by decide)
          · have hj2 : ((List.range (n + 1)).map (sLv C))[j]? = some (sLv C j) := by rw [List.getElem?_map, List.getElem?_range hj]; rfl
            rw [upd_same, List.take_succ, hj2, List.map_append, List.map_append, lus]
            rfl
        · rintro H' ⟨s3, hD⟩
          rw [List.length_map, lrs, List.take_of_length_le (by rw [List.length_map, List.length_range]; exact Nat.le_refl _)] at hD
          refine ⟨D, _, rfl, SqL.of hD, _, _, rfl, wv, v14, ?_, s2.trans s3, hw⟩
          rw [sum_ints, sum_lvls]
          rfl
      rintro σ H2 ⟨wv, v14, rfl, s2, hw⟩
      replace du := du.go hP (butN_same s2)
      replace hP := hP.same s2
      replace hT := tabs_same hT s2
      replace hx := hx.go (butN_same s2)
      replace hy := hy.go (butN_same s2)
      replace hr3 := hr3.go (butN_same s2)
      clear s2
      obtain ⟨wrp, wsd, wnd⟩ := won_data hC hw (by omega)
      have wfit := wsd.fits (by decide)
      have lsd := lvs_sd hC sm bnd en.1
      have lfit := lsd.fits (by decide)
      have lnd := nodict_lvs C n
      have g0 : Go (TL1 P1) p (500 * i + 400) H2 H2 := ⟨ButN.refl p H2, hP, hT⟩
      -- twice
      refine ⟨fun σ H' => ∃ v7 v8 : Option V, σ = [some (.ref a), some (.ref p), some (.int (0 + (i : Int))), some (.str (PyData.tuple [d, e, ruleD C]).shown), some (.ref da), some wv, some (.int (tot C n : Int)), v7, v8, v9, v10, some x, some y, some r, v14] ∧ Go (TL1 P1) p (500 * i + 402) H2 H', ?_, ?_⟩
      · refine ⟨2, rfl, by decide, by decide, for_range (lo := 0) (n := 2) (fun j σ H' => ∃ v7 v8 : Option V, σ = [some (.ref a), some (.ref p), some (.int (0 + (i : Int))), some (.str (PyData.tuple [d, e, ruleD C]).shown), some (.ref da), some wv, some (.int (tot C n : Int)), v7, v8, v9, v10, some x, some y, some r, v14] ∧ Go (TL1 P1) p (500 * i + 400 + j) H2 H') ⟨v7, v8, rfl, g0⟩ ?_ ?_⟩
        · rintro j σ H3 hj ⟨v7, v8, rfl, g3⟩
          refine ⟨fun σ H' => ∃ (l2 : Addr) (r2 : List Addr), σ = [some (.ref a), some (.ref p), some (.int (0 + (i : Int))), some (.str (PyData.tuple [d, e, ruleD C]).shown), some (.ref da), some wv, some (.int (tot C n : Int)), some (.int (0 + (j : Int))), some (.ref l2), v9, v10, some x, some y, some r, v14] ∧ Go (TL1 P1) p (500 * i + 400 + j) H2 H' ∧ Fresh H2 l2 ∧ (∀ r ∈ r2, Fresh H2 r) ∧ l2 ≠ p ∧ (∀ r ∈ r2, r ≠ p) ∧ l2 ∉ r2 ∧ LsL K H' l2 r2 ((List.range (n + 1)).map (sLv C)), ?_, ?_⟩
          · refine ⟨_, rfl, _, rfl, _, rfl, x, y, r, .int 2000, d, e, ruleD C, .int 2000, rfl, (hx.go g3.1).rp, (hy.go g3.1).rp, (hr3.go g3.1).rp, .int 2000, conr_mk hC sd se rd (lim_mk en (by decide) (by decide) (fun lt => absurd lt (by omega)) fun le H4 l2 r2 s4 nl nrs nlr hll => ?_)⟩
            exact ⟨l2, r2, rfl, g3.same s4, g3.fresh nl, fun r hr => g3.fresh (nrs r hr), new_ne g3.pen nl, fun r hr => new_ne g3.pen (nrs r hr), nlr, hll⟩
          clear g3
          rintro σ H3 ⟨l2, r2, rfl, g3, f2, fr2, n2p, nr2, nl2, ll2⟩
          refine ⟨fun σ H' => σ = [some (.ref a), some (.ref p), some (.int (0 + (i : Int))), some (.str (PyData.tuple [d, e, ruleD C]).shown), some (.ref da), some wv, some (.int (tot C n : Int)), some (.int (0 + (j : Int))), some (.ref l2), v9, v10, some x, some y, some r, v14] ∧ Go (TL1 P1) p (500 * i + 400 + j) H2 H' ∧ LsL K H' l2 r2 ((List.range (n + 1)).map (sLv C)), ?_, ?_⟩
          · refine ⟨_, rfl, .ref l2, lvsD C n, rfl, ll2.rp, .inr lnd, lsd.sh, Nat.le_trans lsd.dp (by decide), lfit, _, rfl, .ref da, lvsD C n, rfl, (du.go hP g3.1).ll.rp, .inr lnd, lsd.sh, Nat.le_trans lsd.dp (by decide), lfit, rfl, false, by rw [decide_eq_true rfl]; rfl, iteF ?_⟩
            refine ⟨_, rfl, _, rfl, _, rfl, x, y, r, .int 2000, d, e, ruleD C, .int 2000, rfl, (hx.go g3.1).rp, (hy.go g3.1).rp, (hr3.go g3.1).rp, .int 2000, conr_mk hC sd se rd (lim_mk en (by decide) (by decide) (fun lt => absurd lt (by omega)) fun le H4 v5 hw5 s4 => ?_)⟩
            obtain rfl := won_uniq hw5 hw
            exact ⟨v5, wonD v5, rfl, wrp K H4, .inr wnd, wsd.sh, Nat.le_trans wsd.dp (by decide), wfit, _, rfl, v5, wonD v5, rfl, wrp K H4, .inr wnd, wsd.sh, Nat.le_trans wsd.dp (by decide), wfit, rfl, false, by rw [decide_eq_true rfl]; rfl, iteF ⟨rfl, g3.same s4, ll2.same s4⟩⟩
          clear g3 ll2
          rintro σ H3 ⟨rfl, g3, ll2⟩
          have lr2 := ll2.len
          refine ⟨fun σ H' => σ = [some (.ref a), some (.ref p), some (.int (0 + (i : Int))), some (.str (PyData.tuple [d, e, ruleD C]).shown), some (.ref da), some wv, some (.int (tot C n : Int)), some (.int (0 + (j : Int))), some (.ref l2), v9, v10, some x, some y, some r, v14] ∧ Go (TL1 P1) p (500 * i + 400 + (j + 1)) H2 H' ∧ H' l2 = some (.lst (r2.map V.ref)), ?_, ?_⟩
          · refine ⟨_, rfl, _, rfl, _, rfl, l2, _, rfl, .inl (SqL.of ll2.1), p, _, _, rfl, g3.pen, by omega, (by rw [List.length_map]; omega), log_small (m := 2000) (by rw [List.length_map]; omega) (by decide), fun H4 k0 b4 hP4 k00 k01 => ?_⟩
            rw [List.length_map] at k01
            have g4 := g3.but b4 hP4
            have hl4 := b4 _ _ n2p ll2.1
            obtain ⟨r1, us, hr1, e1, e2⟩ := ll2.get (show k0.toNat ≤ n by omega)
            have mr := List.mem_of_getElem? hr1
            have e14 := b4 _ _ (nr2 r1 mr) e1
            have ne1 : r1 ≠ l2 := fun z => nl2 (by rw [← z]; exact mr)
            have lus : us.length = (sLv C k0.toNat).length := by rw [e2.len, List.length_map]
            have lle := lvl_len_le C k0.toNat
            have lsl := sLv_len C k0.toNat
            have tle := tot_le hC k0.toNat
            have at_ : atI (r2.map V.ref) k0 = some (.ref r1) := by
              rw [show k0 = ((k0.toNat : Nat) : Int) by omega]
              exact atI_nat (by rw [List.getElem?_map, hr1]; rfl)
            refine ⟨l2, _, k0, .ref r1, rfl, rfl, SqL.of hl4, at_, .inl ⟨rfl, _, SqL.of e14⟩, r1, us, .non, rfl, rfl, e14, Nat.lt_of_le_of_lt (show _ ≤ 2000 by omega) (by decide), rfl, ?_, ?_⟩
            · refine (g4.mono (by omega)).upd (nr2 r1 mr) (fr2 r1 mr) e14 ?_
              cases us with
              | nil => exact absurd (List.eq_nil_of_length_eq_zero lus.symm) (lvl_ne en.1 (show k0.toNat ≤ n by omega))
              | cons v us =>
                cases hs9 : sLv C k0.toNat with
                | nil => rw [hs9] at lus; cases lus
                | cons t ts =>
                  rw [hs9] at e2
                  cases e2 with
                  | cons h1 _ =>
                    obtain ⟨ta, _, _, rfl, _⟩ := sg_top h1
                    exact ⟨ta, us, rfl⟩
            · rw [upd_ne ne1.symm]
              exact hl4
          clear g3 ll2
          rintro σ H3 ⟨rfl, g3, hl3⟩
          refine ⟨_, rfl, .inl ⟨rfl, _, SqL.of hl3⟩, l2, _, .non, rfl, rfl, hl3, (by rw [List.length_map]; exact Nat.lt_of_le_of_lt (show _ ≤ 2000 by omega) (by decide)), _, _, rfl, ?_⟩
          refine g3.upd n2p f2 hl3 ?_
          cases r2 with
          | nil => simp at lr2
          | cons r1 r2 => exact ⟨r1, _, rfl⟩
        · rintro σ H3 ⟨v7, v8, rfl, g3⟩
          exact ⟨v7, v8, rfl, g3.mono (by omega)⟩
      rintro σ H3 ⟨v7, v8, rfl, g3⟩
      -- limits
      refine ⟨fun σ H' => ∃ v9 v10 : Option V, σ = [some (.ref a), some (.ref p), some (.int (0 + (i : Int))), some (.str (PyData.tuple [d, e, ruleD C]).shown), some (.ref da), some wv, some (.int (tot C n : Int)), v7, v8, v9, v10, some x, some y, some r, v14] ∧ Go (TL1 P1) p (500 * i + 405) H2 H', ?_, ?_⟩
      · refine ⟨_, rfl, _, _, rfl, rfl, _, rfl, _, rfl, _, rfl, _, rfl, p, 2000, _, rfl, g3.pen, by omega, by decide, by decide +kernel, fun H4 k0 b4 hP4 k00 k01 => ⟨_, _, rfl, rfl, sz3 (by simp), fun L hL => ?_⟩⟩
        have g4 := g3.but b4 hP4
        have xL := same_upd (o := HO.lst [V.int (tot C n : Int), .int (tot C n : Int), .int (1 + k0)]) hL
        have g5 := g4.same xL
        refine ⟨p, L, _, _, rfl, g5.pen, by omega, SqL.of upd_same, new_ne g4.pen hL, (by show 0 < 3; decide), (by show 3 ≤ 1000; decide), fun H6 m v b6 hP6 hm => ?_⟩
        have g6 := g5.but b6 hP6
        obtain ⟨lim, rfl, l1, l2k⟩ : ∃ lim : Int, v = .int lim ∧ 1 ≤ lim ∧ lim ≤ 2000 := by
          match m, hm with
          | 0, hm => exact ⟨_, (Option.some.inj hm).symm, by omega, by omega⟩
          | 1, hm => exact ⟨_, (Option.some.inj hm).symm, by omega, by omega⟩
          | 2, hm => exact ⟨_, (Option.some.inj hm).symm, by omega, by omega⟩
          | m + 3, hm => exact absurd hm (by simp)
        refine ⟨sz3 (by simp), fun D nD => ⟨D, rfl, ⟨_, SqL.of upd_same⟩, ?_⟩⟩
        have xD := same_upd (o := HO.lst [V.int ((tot C n : Int) - 1), .int lim]) nD
        have g7 := g6.same xD
        have eD : (upd H6 D (.lst [V.int ((tot C n : Int) - 1), .int lim])) D = some (.lst [V.int ((tot C n : Int) - 1), .int lim]) := upd_same
        generalize upd H6 D (.lst [V.int ((tot C n : Int) - 1), .int lim]) = H7 at g7 eD ⊢
        refine for_list (K := K) (a := D) (xs := [V.int ((tot C n : Int) - 1), .int lim]) (fun _ σ H' => (∃ v9 v10 : Option V, σ = [some (.ref a), some (.ref p), some (.int (0 + (i : Int))), some (.str (PyData.tuple [d, e, ruleD C]).shown), some (.ref da), some wv, some (.int (tot C n : Int)), v7, v8, v9, v10, some x, some y, some r, v14]) ∧ Go (TL1 P1) p (500 * i + 405) H2 H' ∧ H' D = some (.lst [V.int ((tot C n : Int) - 1), .int lim])) ⟨⟨_, _, rfl⟩, g7.mono (by omega), eD⟩ (fun _ _ _ _ h => SqL.of h.2.2) ?_ ?_
        · rintro j u σ H8 hu8 ⟨⟨v9, v10, rfl⟩, g8, e8⟩
          obtain ⟨L2, rfl, L2k⟩ : ∃ L2 : Int, u = .int L2 ∧ L2 ≤ 2000 := by
            match j, hu8 with
            | 0, hu8 => exact ⟨_, (Option.some.inj hu8).symm, by omega⟩
            | 1, hu8 => exact ⟨_, (Option.some.inj hu8).symm, l2k⟩
            | m + 2, hu8 => exact absurd hu8 (by simp)
          refine ⟨_, rfl, L2, 0, rfl, rfl, _, rfl, ite2 (fun u1 => ?_) (fun _ => ⟨⟨_, _, rfl⟩, g8, e8⟩)⟩
          have L21 : 1 ≤ L2 := by
            have := of_decide_eq_true u1
            omega
          refine ⟨fun σ H' => σ = [some (.ref a), some (.ref p), some (.int (0 + (i : Int))), some (.str (PyData.tuple [d, e, ruleD C]).shown), some (.ref da), some wv, some (.int (tot C n : Int)), v7, v8, some (.str (dueS (decide (L2 < (tot C n : Int))))), some (.int L2), some x, some y, some r, v14] ∧ Go (TL1 P1) p (500 * i + 405) H2 H' ∧ H' D = some (.lst [V.int ((tot C n : Int) - 1), .int lim]), ?_, ?_⟩
          · refine ⟨_, rfl, _, rfl, L2, _, rfl, rfl, _, rfl, ite2 (fun u2 => ?_) (fun u2 => ?_)⟩
            · exact ⟨by rw [u2]; rfl, g8, e8⟩
            · exact ⟨by rw [eq_false_of_ne_true u2]; rfl, g8, e8⟩
          clear g8 e8
          rintro σ H8 ⟨rfl, g8, e8⟩
          refine ⟨fun σ H' => σ = [some (.ref a), some (.ref p), some (.int (0 + (i : Int))), some (.str (PyData.tuple [d, e, ruleD C]).shown), some (.ref da), some wv, some (.int (tot C n : Int)), v7, v8, some (.str (dueS (decide (L2 < (tot C n : Int))))), some (.int L2), some x, some y, some r, v14] ∧ Go (TL1 P1) p (500 * i + 405) H2 H' ∧ H' D = some (.lst [V.int ((tot C n : Int) - 1), .int lim]), ?_, ?_⟩
          · refine ⟨g8.2.2, fun Hb eb tb => tl_of3 rfl rfl rfl rfl (part_word (hx.go (g8.ext eb tb).1).rp sd (hy.go (g8.ext eb tb).1).rp se (hr3.go (g8.ext eb tb).1).rp rd hC en L21 L2k fun H9 s9 => ?_)⟩
            exact ⟨_, rfl, rfl, false, by rw [decide_eq_true rfl]; rfl, iteF ⟨rfl, (g8.ext eb tb).same s9, s9 _ _ (eb D _ e8 (fun _ z => nomatch z))⟩⟩
          clear g8 e8
          rintro σ H8 ⟨rfl, g8, e8⟩
          refine ⟨g8.2.2, fun Hb eb tb => tl_of3 rfl rfl rfl rfl (lvs_word (hx.go (g8.ext eb tb).1).rp sd (hy.go (g8.ext eb tb).1).rp se (hr3.go (g8.ext eb tb).1).rp rd hC en L21 L2k fun H9 s9 => ?_)⟩
          exact ⟨_, rfl, rfl, false, by rw [decide_eq_true rfl]; rfl, iteF ⟨⟨_, _, rfl⟩, (g8.ext eb tb).same s9, s9 _ _ (eb D _ e8 (fun _ z => nomatch z))⟩⟩
        · rintro σ H8 ⟨⟨v9, v10, rfl⟩, g8, e8⟩
          exact ⟨v9, v10, rfl, g8⟩
      clear g3
      rintro σ H3 ⟨v9, v10, rfl, g3⟩
      -- the end of a turn
      refine ⟨_, rfl, _, rfl, _, rfl, sz3 (by simp), fun u nu => ?_⟩
      have xu := same_upd (o := HO.tup [x, y, r]) nu
      have g4 := g3.same xu
      refine ⟨.ref u, _, rfl, .tup (SqT.of upd_same) (.cons (hx.go g4.1).rp (.cons (hy.go g4.1).rp (.cons (hr3.go g4.1).rp .nil))), .inr tn, td.sh, Nat.le_trans td.dp (by decide), tfit, _, rfl, rfl, false, by rw [decide_eq_true rfl]; rfl, iteF ?_⟩
      have fin : ∀ {G : Hp}, Go (TL1 P1) p (500 * i + 405) H2 G → ∃ k2 k3 k4 k5 k6 k7 k8 k9 k10 k11 k12 k13 k14 : Option V, ([some (.ref a), some (.ref p), some (.int (0 + (i : Int))), some (.str (PyData.tuple [d, e, ruleD C]).shown), some (.ref da), some wv, some (.int (tot C n : Int)), v7, v8, v9, v10, some x, some y, some r, v14] : L2.St) = [some (.ref a), some (.ref p), k2, k3, k4, k5, k6, k7, k8, k9, k10, k11, k12, k13, k14] ∧ Pen G p (500 * (i + 1)) ∧ LamX.Tabs (TL1 P1) G := fun {G} g => ⟨_, _, _, _, _, _, _, _, _, _, _, _, _, rfl, g.pen.mono (by omega), g.2.2⟩
      rcases hw with ⟨_, rfl⟩ | ⟨w, rfl, ⟨t, h1, h2⟩, _⟩
      · exact ⟨_, rfl, rfl, _, rfl, iteF (iteF (fin g4))⟩
      · have lw : w.length = n := (lvl_ok hC n _ h1).2
        have du4 := du.go hP g4.1
        refine ⟨_, rfl, rfl, _, rfl, iteT ⟨_, rfl, w, rfl, Nat.le_trans (show w.length ≤ 2000 by omega) (by decide), _, rfl, da, _, rfl, .inl (SqL.of du4.ll.1), _, _, rfl, rfl, rfl, false, ?_, iteF (fin g4)⟩⟩
        rw [List.length_map, lrs, lw]
        show V.bl (!decide (V.int (n : Int) = V.int (((n + 1 : Nat) : Int) - 1))) = V.bl false
        rw [show (((n + 1 : Nat) : Int) - 1) = (n : Int) by omega, decide_eq_true rfl]
        rfl
    · rintro σ H ⟨v2, v3, v4, v5, v6, v7, v8, v9, v10, v11, v12, v13, v14, rfl, hP, hT⟩
      exact q H
end
end My
/-! ### the end of a law that shows data, with any tables of lambdas -/
namespace My
open PySem PySem.Spec PyProof.Rows L2
theorem tbls_at {Ps : List (Addr × Addr)} {b : Addr} (h : b ∈ Ps.map Prod.snd) : ∃ c, (c, b) ∈ Ps := by
  obtain ⟨q, hq, rfl⟩ := List.mem_map.mp h
  exact ⟨q.1, hq⟩
/-- the law's call at the head: the script and tables of code objects are tracked -/
theorem law_callGL {P : Program} {w : World} {K : PySem.W.Frag} {mg mb : Str → Option Value} {CX : CXT} {k : Nat} {fa a : Addr} {Ps : List (Addr × Addr)} {fd : FuncData} {x : Str} {sp : Sp} {st : Shared} {vs : List Value} {ns : List Int}
    (KX : K.In st.heap) (hns : st.heap.Ns mainGlobals mg) (hb : st.heap.Ns builtinsNs mb) (hbb : ∀ x : Str, x ≠ "__name__" → mb x = bootBuiltins x) (hlim : st.heap.NoLimit) (hg : st.gens = #[])
    (tP : ∀ q ∈ Ps, st.heap.get? q.2 = some { cls := .none, data := .fields #[] }) (kP : ∀ q ∈ Ps, K.lookup q.2 = none) (cP : ∀ q ∈ Ps, PySem.W.CodeHd st.heap q.1 q.2)
    (bP : ∃ (bm : Addr) (ob : Obj), mg "__builtins__" = some (.ref bm) ∧ bm ≠ builtinsNs ∧ st.heap.get? bm = some ob ∧ ob.cls = .type "module" ∧ ob.dict = some builtinsNs ∧ ob.data = .plain)
    (ha : st.heap.get? a = some { cls := .type "list", data := .seq vs.toArray }) (hi : IntsAre vs ns) (hl : ns.length ≤ sizeLine) (hr : Room k callerA)
    (F : ∀ base : Heap, K.In base → base.Ns mainGlobals mg → (∀ q ∈ Ps, LamX.TabB base mg q.1 q.2) → FnG P w K mg base CX k fa fd [x] sp)
    (hbind : ∀ (s : Shared) (u : Value), BindsTo s fd ⟨[u], []⟩ [(x, u)])
    (hsp : ∀ H : Hp, (∀ q ∈ Ps, H q.2 = some (.tbl #[])) → SqL K H a (ns.map V.int) → sp [.ref a] H (fun v _ => v = .bl true) fun _ _ _ => False)
    (hCX : ∀ H e s', CX [] H st (fun _ _ _ => False) e s' → False) :
    codeAny (model P w) callerA (.call (.ref fa) ⟨[.ref a], []⟩) (fun r s' => r = .ok (.ret (.bool true)) ∧ OldK st.heap s'.heap ∧ s'.os = st.os ∧ AllBare s'.gens) st := by
  have vints := vals_ints hi
  have vlen := hi.length
  have tB : ∀ b, b ∈ Ps.map Prod.snd → st.heap.get? b = some { cls := .none, data := .fields #[] } := fun b hb => by
    obtain ⟨q, hq, rfl⟩ := List.mem_map.mp hb
    exact tP q hq
  have naP : a ∉ Ps.map Prod.snd := fun z => by
    rw [tB a z] at ha
    cases ha
  have main : ∀ H : Hp, (∀ q ∈ Ps, H q.2 = some (.tbl #[])) → SqL K H a (ns.map V.int) → HOk P w H st.heap → (∀ b, b ≠ a → b ∉ Ps.map Prod.snd → H b = none) → (H a = none ∨ ∃ o xs, H a = some (.frz o (.lst xs))) → (K.lookup a = none ∨ H a = none) →
      codeAny (model P w) callerA (.call (.ref fa) ⟨[.ref a], []⟩) (fun r s' => r = .ok (.ret (.bool true)) ∧ OldK st.heap s'.heap ∧ s'.os = st.os ∧ AllBare s'.gens) st := by
    intro H hP scr hok off atA onK
    have untracked : ∀ b o, st.heap.get? b = some o → (∀ us n, o.data ≠ .seq us n) → o.data ≠ .fields #[] → H b = none := fun b o e n1 n2 => by
      by_cases z : b = a
      · rw [z, ha] at e
        cases e
        exact absurd rfl (n1 _ _)
      · by_cases y : b ∈ Ps.map Prod.snd
        · rw [tB b y] at e
          cases e
          exact absurd rfl n2
        · exact off b z y
    have dictFree : ∀ {b : Addr} {m : Str → Option Value}, st.heap.Ns b m → (hidT st.heap H).Ns b m := by
      rintro b m ⟨o, es, ep, e, d, r⟩
      refine ⟨o, es, ep, hidT_get e (untracked b o e (fun us n q => ?_) fun q => ?_), d, r⟩ <;> rw [d] at q <;> cases q
    have kIn : K.In (hidT st.heap H) := by
      intro b o e
      by_cases z : b = a
      · rcases onK with q | q
        · rw [z, q] at e
          cases e
        · exact hidT_get (KX b o e) (by rw [z]; exact q)
      · by_cases y : b ∈ Ps.map Prod.snd
        · obtain ⟨q, hq, rfl⟩ := List.mem_map.mp y
          rw [kP q hq] at e
          cases e
        · exact hidT_get (KX b o e) (off b z y)
    obtain ⟨mc, lim1, lim2⟩ := hlim
    have md : Mod K mg (hidT st.heap H) := ⟨kIn, dictFree hns, ⟨mb, dictFree hb, hbb⟩, ⟨mc, dictFree lim1, lim2⟩⟩
    have tb : ∀ q ∈ Ps, LamX.TabB (hidT st.heap H) mg q.1 q.2 := by
      intro q hq
      refine ⟨?_, ?_, fun z => ?_⟩
      · obtain ⟨c1, c2, c3, c4, c5, c6, c7, c8, c9, q1, q2, q3, q4, q5, q6, q7, q8, q9, q10⟩ := cP q hq
        refine ⟨c1, c2, c3, c4, c5, c6, c7, c8, c9, hidT_get q1 (untracked q.1 c1 q1 (fun us n q => ?_) fun q => ?_), q2, q3, q4, q5, q6, q7, q8, q9, q10⟩
        · rw [q3] at q
          cases q
        · rw [q3] at q
          cases q
          simp at q4
      · obtain ⟨m1, m2, q1, q2, q3, q4, q5, q6⟩ := bP
        have free : H m1 = none := untracked m1 m2 q3 (fun us n q => by rw [q6] at q; cases q) fun q => by rw [q6] at q; cases q
        refine ⟨m1, m2, q1, q2, fun z => ?_, fun z => ?_, hidT_get q3 free, q4, q5, q6⟩
        · obtain ⟨o, es, ep, e, d, _⟩ := hns
          rw [z, e] at q3
          cases q3
          rw [d] at q6
          cases q6
        · rw [z, hP q hq] at free
          cases free
      · obtain ⟨o, es, ep, e, d, _⟩ := hns
        rw [z, tP q hq] at e
        cases e
        cases d
    have e0 : Env0 P w K mg (hidT st.heap H) callerA [] st H :=
      { frames := rfl, mod := md, bs := fun b o e => of_hidT e, bsz := Nat.le_of_eq (hidT_size _ _), funs := trivial, frf := fun b z => (nomatch z), hok := hok, bare := .of_eq hg }
    have run := (F _ kIn (dictFree hns) tb).run callerA rfl hr [] st H ⟨[.ref a], []⟩ [.ref a] [.ref a] _ _ e0 (hbind st (.ref a)) (.cons rfl .nil) (hsp H hP scr)
    refine codeAny_mono run fun r s' h => ?_
    match r, h with
    | .error e, h => exact (hCX H e s' h).elim
    | .ok .next, h => exact h.elim
    | .ok .brk, h => exact h.elim
    | .ok .cont, h => exact h.elim
    | .ok (.ret u), h =>
      obtain ⟨v, H', os, bare, un, hok', rv, q⟩ := h
      obtain rfl : v = .bl true := q
      obtain rfl : u = Value.bool true := rv
      have stays : ∀ b o, b ∉ Ps.map Prod.snd → st.heap.get? b = some o → s'.heap.get? b = some o := fun b o nb e => by
        by_cases z : b = a
        · rcases atA with y | ⟨ob, ys, y⟩
          · rw [z] at e ⊢
            exact un.keep a o e y (fun z => nomatch z) (fun z => nomatch z)
          · have old := (hok a _ y).1
            rw [z] at e ⊢
            rw [e] at old
            cases old
            exact (hok' a _ (un.frzs a _ _ y)).1
        · exact un.keep b o e (off b z nb) (fun z => nomatch z) (fun z => nomatch z)
      have grow : ∀ q ∈ Ps, ∃ more, s'.heap.get? q.2 = some { cls := .none, data := .fields (#[] ++ more) } := fun q hq => by
        obtain ⟨more, grown⟩ := un.tbls q.2 #[] (hP q hq)
        exact ⟨more, hok' q.2 _ grown⟩
      refine ⟨rfl, ⟨fun b o e => ?_, fun b o e => ?_⟩, os, bare⟩
      · by_cases z : b ∈ Ps.map Prod.snd
        · obtain ⟨q, hq, rfl⟩ := List.mem_map.mp z
          obtain ⟨more, now⟩ := grow q hq
          rw [Array.empty_append] at now
          rw [tP q hq] at e
          cases e
          exact .inr (.inl ⟨((cP q hq).tab (tP q hq)).isCodeTable, rfl, #[], more, rfl, by rw [Array.empty_append]; exact now⟩)
        · exact .inl (stays b o z e)
      · by_cases z : b ∈ Ps.map Prod.snd
        · obtain ⟨q, hq, rfl⟩ := List.mem_map.mp z
          obtain ⟨more, now⟩ := grow q hq
          exact ⟨_, now⟩
        · exact ⟨o, stays b o z e⟩
  have inP : ∀ q ∈ Ps, q.2 ∈ Ps.map Prod.snd := fun q hq => List.mem_map_of_mem hq
  cases hk : K.lookup a with
  | some o =>
    have e := KX a o hk
    rw [ha] at e
    cases e
    have nn : (fun b => if b ∈ Ps.map Prod.snd then some (HO.tbl #[]) else none : Hp) a = none := if_neg naP
    refine main (fun b => if b ∈ Ps.map Prod.snd then some (.tbl #[]) else none) (fun q hq => if_pos (inP q hq)) (.inr ⟨_, vs.toArray, _, hk, rfl, rfl, rfl, by rw [List.size_toArray, vlen]; exact hl, by simpa using vints⟩) (fun b u z => ?_) (fun b _ z => if_neg z) (.inl nn) (.inr nn)
    by_cases y : b ∈ Ps.map Prod.snd
    · have q := (if_pos y).symm.trans z
      cases q
      exact tB b y
    · have q := (if_neg y).symm.trans z
      cases q
  | none =>
    have atP : ∀ q ∈ Ps, (fun b => if b = a then some (HO.frz { cls := .type "list", data := .seq vs.toArray } (.lst (ns.map V.int))) else if b ∈ Ps.map Prod.snd then some (.tbl #[]) else none : Hp) q.2 = some (.tbl #[]) := fun q hq => (if_neg (fun z : q.2 = a => naP (z ▸ inP q hq))).trans (if_pos (inP q hq))
    refine main (fun b => if b = a then some (.frz { cls := .type "list", data := .seq vs.toArray } (.lst (ns.map V.int))) else if b ∈ Ps.map Prod.snd then some (.tbl #[]) else none) atP (.inl (.inr ⟨_, if_pos rfl⟩)) (fun b u z => ?_) (fun b z y => (if_neg z).trans (if_neg y)) (.inr ⟨_, _, if_pos rfl⟩) (.inl hk)
    by_cases y : b = a
    · have q := (if_pos y).symm.trans z
      cases q
      rw [y]
      exact ⟨ha, by rw [List.length_map]; exact hl, vs, _, vints, ha⟩
    · have q1 := (if_neg y).symm.trans z
      by_cases y2 : b ∈ Ps.map Prod.snd
      · have q := (if_pos y2).symm.trans q1
        cases q
        exact tB b y2
      · have q := (if_neg y2).symm.trans q1
        cases q
/-- what is known at the head's heap h of a law with tables -/
def LawGL (l : PySem.W.OpenLaw) (w : World) (K : PySem.W.Frag) (CX : CXT) (k n : Nat) (x : Str) (mg : Str → Option Value) (fa : Addr) (h : Heap) : Prop :=
  ∃ (fd : FuncData) (Ps : List (Addr × Addr)) (sp : Sp), (∀ q ∈ Ps, h.get? q.2 = some { cls := .none, data := .fields #[] } ∧ K.lookup q.2 = none ∧ PySem.W.CodeHd h q.1 q.2) ∧ (∀ (s : Shared) (u : Value), BindsTo s fd ⟨[u], []⟩ [(x, u)]) ∧
    (∀ (H : Hp) (a : Addr) (ns : List Int), ns.length ≤ n → (∀ q ∈ Ps, H q.2 = some (.tbl #[])) → SqL K H a (ns.map V.int) → sp [.ref a] H (fun v _ => v = .bl true) fun _ _ _ => False) ∧
    ∀ base : Heap, K.In base → base.Ns mainGlobals mg → (∀ q ∈ Ps, LamX.TabB base mg q.1 q.2) → FnG l.prog w K mg base CX k fa fd [x] sp
/-- what k_head leaves; the tables of the defs ys are told as empty -/
theorem walk_ofGL {l : PySem.W.OpenLaw} {n k : Nat} {q : Program} {loose : List Str} {XP : (Str → Option Value) → Heap → Prop} {YP : World → Heap → Prop} {d : DefRec} {K : Params → PySem.W.Frag} {CX : World → CXT} {x : Str} (ys : List Str)
    (hn : l.most = some n) (hn2 : n ≤ sizeLine) (hdf : d.params.defaults = []) (hr : Room k callerA) (hrec : (ys.all fun y => (recsOf q).any fun e => e.name == y) = true) (hY : ∀ (w : World) (h : Heap), YP w h → (K w.params).In h)
    (F : ∀ (w : World) (mg : Str → Option Value) (fa : Addr) (h : Heap), (K w.params).In h → h.Ns mainGlobals mg → mg d.name = some (.ref fa) →
      (∀ y ∈ ys, ∀ fy : Addr, mg y = some (.ref fy) → LamX.OwnTab (K w.params) fy h) → LawGL l w (K w.params) (CX w) k n x mg fa h)
    (hCX : ∀ (w : World) (H : Hp) (s : Shared) (e : Value) (s' : Shared), CX w [] H s (fun _ _ _ => False) e s' → False) :
    PySem.W.WalkO q loose XP YP l.row.toRowW d [] (fun f vs => PySem.call f vs) := by
  refine Att.attach_callB hn hdf ?_
  intro w s₀ st mg mb fa o pm cd doc a vs ns G Y ho hd hcd hmg hobj hints hlen hbits hg
  have KX := hY w _ Y
  have tabs : ∀ y ∈ ys, ∀ fy : Addr, mg y = some (.ref fy) → LamX.OwnTab (K w.params) fy st.heap := by
    intro y hy fy my c1 P1 o1 g1 e1 e2 us sl k1 k2 k3 k4 k5
    obtain ⟨dL, mem, same⟩ := List.any_eq_true.mp (List.all_eq_true.mp hrec y hy)
    have same2 : dL.name = y := beq_iff_eq.mp same
    obtain ⟨b1, b2, b3, b4, b5, j1, j2, j3, j4, j0, ⟨⟨u1, u2, j5, _, j6, j7⟩, j8⟩⟩ := G.T.tab dL mem
    rw [same2, my] at j1
    cases j1
    have z1 := KX _ _ k1
    rw [z1] at j2
    cases j2
    rw [k2] at j3
    cases j3
    rw [k3] at j4
    cases j4
    have z2 := KX _ _ k4
    rw [z2] at j5
    cases j5
    cases j6
    rw [k5] at j7
    cases j7
    exact j8
  obtain ⟨fd, Ps, sp, tP, hb, hsp, hF⟩ := F w mg fa _ KX G.T.g hmg tabs
  exact law_callGL KX G.T.g G.T.b G.T.builtins G.T.nolimit hg (fun q hq => (tP q hq).1) (fun q hq => (tP q hq).2.1) (fun q hq => (tP q hq).2.2) G.T.bmain hobj hints (Nat.le_trans hlen hn2) hr hF hb (fun H hH hS => hsp H a ns hlen hH hS) fun H => hCX w H st
end My
/-! ### what the top has written, the head -/
namespace My
open PySem PySem.Spec PyProof.Rows L2
theorem excF_of {K : PySem.W.Frag} {mg : Str → Option Value} {x : Str} {D : Addr} (g : mg x = some (.ref D)) (h : mkFacts K D = true) : ExcF K mg x D := by
  unfold mkFacts at h
  simp only [Bool.and_eq_true, beq_iff_eq] at h
  exact ⟨g, h.1, h.2.1, h.2.2.1, h.2.2.2.1⟩
theorem fun_some {K : PySem.W.Frag} {x q : Str} {st : Stmt} {f : Addr} {fd : FuncData} (_ : Fun K x q st f fd) : Nonempty FuncData := ⟨fd⟩
theorem all_mk {l : PySem.W.OpenLaw} {w : World} {K : PySem.W.Frag} {h : Heap} {mg : Str → Option Value} {fa C0 C1 C2 C3 C4 C5 C6 C7 C8 C9 C10 C11 CL : Addr} {cL0 PT0 : Addr} {eC0 : Value} {dC0 : Option Addr} {vC0 : Array Value} {sC0 : Array (Option Value)} {DK44 : Addr} {DK45 : Addr} {t1 t2 t3 t4 t5 t8 t6 ta tb : Tok} {fF gA gB : Addr} {dFa dFb dFc : Option Addr} {nFa nFb nFc : Nat} {sFa sFb sFc : Array (Option Value)} {tk1 tk2 tk3 tk4 : Tok} {f1 f2 f3 f4 f5 f6 f7 f8 f9 f10 f11 f12 f13 f14 f15 f16 f17 f18 f19 f20 f21 f22 f23 f24 f25 f26 f27 f28 f29 f30 f31 f32 f33 f34 f35 f36 f37 f38 f39 f40 f41 f42 f43 f44 f45 : Addr} {od1 od2 od3 od4 od5 od6 od7 od8 od9 od10 od11 od12 od13 od14 od15 od16 od17 od18 od19 od20 od21 od22 od23 od24 od25 od26 od27 od28 od29 od30 od31 od32 od33 od34 od35 od36 od37 od38 od39 od40 od41 od42 od43 od44 od45 an1 an2 an3 an4 an5 an6 an7 an8 an9 an10 an11 an12 an13 an14 an15 an16 an17 an18 an19 an20 an21 an22 an23 an24 an25 an26 an27 an28 an29 an30 an31 an32 an33 an34 an35 an36 an37 an38 an39 an40 an41 an42 an43 an44 an45 : Option Addr} {sl1 sl2 sl3 sl4 sl5 sl6 sl7 sl8 sl9 sl10 sl11 sl12 sl13 sl14 sl15 sl16 sl17 sl18 sl19 sl20 sl21 sl22 sl23 sl24 sl25 sl26 sl27 sl28 sl29 sl30 sl31 sl32 sl33 sl34 sl35 sl36 sl37 sl38 sl39 sl40 sl41 sl42 sl43 sl44 sl45 : Array (Option Value)} {oc1 oc2 oc3 oc4 oc5 oc6 oc7 oc8 oc9 oc10 oc11 oc12 oc13 oc14 oc15 oc16 oc17 oc18 oc19 oc20 oc21 oc22 oc23 oc24 oc25 oc26 oc27 oc28 oc29 oc30 oc31 oc32 oc33 oc34 oc35 oc36 oc37 oc38 oc39 oc40 oc41 oc42 oc43 oc44 oc45 kV1 kV2 kV3 kV4 kV5 kV6 kV7 kV8 kV9 kV10 kV11 kV12 kV13 kV14 kV15 kV16 kV17 kV18 kV19 kV20 kV21 kV22 kV23 kV24 kV25 kV26 kV27 kV28 kV29 kV30 kV31 kV32 kV33 kV34 kV35 kV36 kV37 kV38 kV39 kV40 kV41 kV42 kV43 kV44 kV45 dc1 dc2 dc3 dc4 dc5 dc6 dc7 dc8 dc9 dc10 dc11 dc12 dc13 dc14 dc15 dc16 dc17 dc18 dc19 dc20 dc21 dc22 dc23 dc24 dc25 dc26 dc27 dc28 dc29 dc30 dc31 dc32 dc33 dc34 dc35 dc36 dc37 dc38 dc39 dc40 dc41 dc42 dc43 dc44 dc45 pm1 pm2 pm3 pm4 pm5 pm6 pm7 pm8 pm9 pm10 pm11 pm12 pm13 pm14 pm15 pm16 pm17 pm18 pm19 pm20 pm21 pm22 pm23 pm24 pm25 pm26 pm27 pm28 pm29 pm30 pm31 pm32 pm33 pm34 pm35 pm36 pm37 pm38 pm39 pm40 pm41 pm42 pm43 pm44 pm45 cd1 cd2 cd3 cd4 cd5 cd6 cd7 cd8 cd9 cd10 cd11 cd12 cd13 cd14 cd15 cd16 cd17 cd18 cd19 cd20 cd21 cd22 cd23 cd24 cd25 cd26 cd27 cd28 cd29 cd30 cd31 cd32 cd33 cd34 cd35 cd36 cd37 cd38 cd39 cd40 cd41 cd42 cd43 cd44 cd45 ct1 ct2 ct3 ct4 ct5 ct6 ct7 ct8 ct9 ct10 ct11 ct12 ct13 ct14 ct15 ct16 ct17 ct18 ct19 ct20 ct21 ct22 ct23 ct24 ct25 ct26 ct27 ct28 ct29 ct30 ct31 ct32 ct33 ct34 ct35 ct36 ct37 ct38 ct39 ct40 ct41 ct42 ct43 ct44 ct45 : Value}
    (X : K.In h) (G : h.Ns mainGlobals mg) (hfa : mg "law" = some (.ref fa)) (own0 : ∀ fy : Addr, mg "law" = some (.ref fy) → LamX.OwnTab K fy h)
    (a1 : PySem.W.nsIn K mainGlobals "_law_spread" = some (some (.ref f1)))
    (l1 : K.lookup f1 = some ⟨oc1, od1, .func (PySem.W.fnOf "_law_spread" "_law_spread" (defArgs sSpread) (defBody sSpread) (defScope sSpread) .none kV1 dc1 pm1 an1 cd1 ct1), sl1⟩)
    (c1 : PySem.W.codeIn K cd1 "_law_spread" = true) (k1 : PySem.W.keepIn K (.ref f1) = true)
    (a2 : PySem.W.nsIn K mainGlobals "_law_open" = some (some (.ref f2)))
    (l2 : K.lookup f2 = some ⟨oc2, od2, .func (PySem.W.fnOf "_law_open" "_law_open" (defArgs sOpen) (defBody sOpen) (defScope sOpen) .none kV2 dc2 pm2 an2 cd2 ct2), sl2⟩)
    (c2 : PySem.W.codeIn K cd2 "_law_open" = true) (k2 : PySem.W.keepIn K (.ref f2) = true)
    (a3 : PySem.W.nsIn K mainGlobals "_law_take" = some (some (.ref f3)))
    (l3 : K.lookup f3 = some ⟨oc3, od3, .func (PySem.W.fnOf "_law_take" "_law_take" (defArgs sTake) (defBody sTake) (defScope sTake) .none kV3 dc3 pm3 an3 cd3 ct3), sl3⟩)
    (c3 : PySem.W.codeIn K cd3 "_law_take" = true) (k3 : PySem.W.keepIn K (.ref f3) = true)
    (a4 : PySem.W.nsIn K mainGlobals "_law_x_pick" = some (some (.ref f4)))
    (l4 : K.lookup f4 = some ⟨oc4, od4, .func (PySem.W.fnOf "_law_x_pick" "_law_x_pick" (defArgs sPick) (defBody sPick) (defScope sPick) .none kV4 dc4 pm4 an4 cd4 ct4), sl4⟩)
    (c4 : PySem.W.codeIn K cd4 "_law_x_pick" = true) (k4 : PySem.W.keepIn K (.ref f4) = true)
    (a5 : PySem.W.nsIn K mainGlobals "is_whole" = some (some (.ref f5)))
    (l5 : K.lookup f5 = some ⟨oc5, od5, .func (PySem.W.fnOf "is_whole" "is_whole" (defArgs sWhole) (defBody sWhole) (defScope sWhole) .none kV5 dc5 pm5 an5 cd5 ct5), sl5⟩)
    (c5 : PySem.W.codeIn K cd5 "is_whole" = true) (k5 : PySem.W.keepIn K (.ref f5) = true)
    (a6 : PySem.W.nsIn K mainGlobals "is_between" = some (some (.ref f6)))
    (l6 : K.lookup f6 = some ⟨oc6, od6, .func (PySem.W.fnOf "is_between" "is_between" (defArgs sBetween) (defBody sBetween) (defScope sBetween) .none kV6 dc6 pm6 an6 cd6 ct6), sl6⟩)
    (c6 : PySem.W.codeIn K cd6 "is_between" = true) (k6 : PySem.W.keepIn K (.ref f6) = true)
    (a7 : PySem.W.nsIn K mainGlobals "is_tuple" = some (some (.ref f7)))
    (l7 : K.lookup f7 = some ⟨oc7, od7, .func (PySem.W.fnOf "is_tuple" "is_tuple" (defArgs sTuple) (defBody sTuple) (defScope sTuple) .none kV7 dc7 pm7 an7 cd7 ct7), sl7⟩)
    (c7 : PySem.W.codeIn K cd7 "is_tuple" = true) (k7 : PySem.W.keepIn K (.ref f7) = true)
    (a8 : PySem.W.nsIn K mainGlobals "is_letters" = some (some (.ref f8)))
    (l8 : K.lookup f8 = some ⟨oc8, od8, .func (PySem.W.fnOf "is_letters" "is_letters" (defArgs sLetters) (defBody sLetters) (defScope sLetters) .none kV8 dc8 pm8 an8 cd8 ct8), sl8⟩)
    (c8 : PySem.W.codeIn K cd8 "is_letters" = true) (k8 : PySem.W.keepIn K (.ref f8) = true)
    (a9 : PySem.W.nsIn K mainGlobals "is_way_on" = some (some (.ref f9)))
    (l9 : K.lookup f9 = some ⟨oc9, od9, .func (PySem.W.fnOf "is_way_on" "is_way_on" (defArgs sWayOn) (defBody sWayOn) (defScope sWayOn) .none kV9 dc9 pm9 an9 cd9 ct9), sl9⟩)
    (c9 : PySem.W.codeIn K cd9 "is_way_on" = true) (k9 : PySem.W.keepIn K (.ref f9) = true)
    (a10 : PySem.W.nsIn K mainGlobals "is_table" = some (some (.ref f10)))
    (l10 : K.lookup f10 = some ⟨oc10, od10, .func (PySem.W.fnOf "is_table" "is_table" (defArgs sTable) (defBody sTable) (defScope sTable) .none kV10 dc10 pm10 an10 cd10 ct10), sl10⟩)
    (c10 : PySem.W.codeIn K cd10 "is_table" = true) (k10 : PySem.W.keepIn K (.ref f10) = true)
    (a11 : PySem.W.nsIn K mainGlobals "is_rule" = some (some (.ref f11)))
    (l11 : K.lookup f11 = some ⟨oc11, od11, .func (PySem.W.fnOf "is_rule" "is_rule" (defArgs sRule) (defBody sRule) (defScope sRule) .none kV11 dc11 pm11 an11 cd11 ct11), sl11⟩)
    (c11 : PySem.W.codeIn K cd11 "is_rule" = true) (k11 : PySem.W.keepIn K (.ref f11) = true)
    (a12 : PySem.W.nsIn K mainGlobals "is_pair" = some (some (.ref f12)))
    (l12 : K.lookup f12 = some ⟨oc12, od12, .func (PySem.W.fnOf "is_pair" "is_pair" (defArgs sPair) (defBody sPair) (defScope sPair) .none kV12 dc12 pm12 an12 cd12 ct12), sl12⟩)
    (c12 : PySem.W.codeIn K cd12 "is_pair" = true) (k12 : PySem.W.keepIn K (.ref f12) = true)
    (a13 : PySem.W.nsIn K mainGlobals "is_frame" = some (some (.ref f13)))
    (l13 : K.lookup f13 = some ⟨oc13, od13, .func (PySem.W.fnOf "is_frame" "is_frame" (defArgs sFrame) (defBody sFrame) (defScope sFrame) .none kV13 dc13 pm13 an13 cd13 ct13), sl13⟩)
    (c13 : PySem.W.codeIn K cd13 "is_frame" = true) (k13 : PySem.W.keepIn K (.ref f13) = true)
    (a14 : PySem.W.nsIn K mainGlobals "is_choice" = some (some (.ref f14)))
    (l14 : K.lookup f14 = some ⟨oc14, od14, .func (PySem.W.fnOf "is_choice" "is_choice" (defArgs sChoice) (defBody sChoice) (defScope sChoice) .none kV14 dc14 pm14 an14 cd14 ct14), sl14⟩)
    (c14 : PySem.W.codeIn K cd14 "is_choice" = true) (k14 : PySem.W.keepIn K (.ref f14) = true)
    (a15 : PySem.W.nsIn K mainGlobals "is_machine" = some (some (.ref f15)))
    (l15 : K.lookup f15 = some ⟨oc15, od15, .func (PySem.W.fnOf "is_machine" "is_machine" (defArgs sMachine) (defBody sMachine) (defScope sMachine) .none kV15 dc15 pm15 an15 cd15 ct15), sl15⟩)
    (c15 : PySem.W.codeIn K cd15 "is_machine" = true) (k15 : PySem.W.keepIn K (.ref f15) = true)
    (a16 : PySem.W.nsIn K mainGlobals "is_plain" = some (some (.ref f16)))
    (l16 : K.lookup f16 = some ⟨oc16, od16, .func (PySem.W.fnOf "is_plain" "is_plain" (defArgs sPlain) (defBody sPlain) (defScope sPlain) .none kV16 dc16 pm16 an16 cd16 ct16), sl16⟩)
    (c16 : PySem.W.codeIn K cd16 "is_plain" = true) (k16 : PySem.W.keepIn K (.ref f16) = true)
    (a17 : PySem.W.nsIn K mainGlobals "need_machine" = some (some (.ref f17)))
    (l17 : K.lookup f17 = some ⟨oc17, od17, .func (PySem.W.fnOf "need_machine" "need_machine" (defArgs sNeedMachine) (defBody sNeedMachine) (defScope sNeedMachine) .none kV17 dc17 pm17 an17 cd17 ct17), sl17⟩)
    (c17 : PySem.W.codeIn K cd17 "need_machine" = true) (k17 : PySem.W.keepIn K (.ref f17) = true)
    (a18 : PySem.W.nsIn K mainGlobals "with_choices" = some (some (.ref f18)))
    (l18 : K.lookup f18 = some ⟨oc18, od18, .func (PySem.W.fnOf "with_choices" "with_choices" (defArgs sWith) (defBody sWith) (defScope sWith) .none kV18 dc18 pm18 an18 cd18 ct18), sl18⟩)
    (c18 : PySem.W.codeIn K cd18 "with_choices" = true) (k18 : PySem.W.keepIn K (.ref f18) = true)
    (a19 : PySem.W.nsIn K mainGlobals "need_match" = some (some (.ref f19)))
    (l19 : K.lookup f19 = some ⟨oc19, od19, .func (PySem.W.fnOf "need_match" "need_match" (defArgs sNeedMatch) (defBody sNeedMatch) (defScope sNeedMatch) .none kV19 dc19 pm19 an19 cd19 ct19), sl19⟩)
    (c19 : PySem.W.codeIn K cd19 "need_match" = true) (k19 : PySem.W.keepIn K (.ref f19) = true)
    (a20 : PySem.W.nsIn K mainGlobals "need_rule" = some (some (.ref f20)))
    (l20 : K.lookup f20 = some ⟨oc20, od20, .func (PySem.W.fnOf "need_rule" "need_rule" (defArgs sNeedRule) (defBody sNeedRule) (defScope sNeedRule) .none kV20 dc20 pm20 an20 cd20 ct20), sl20⟩)
    (c20 : PySem.W.codeIn K cd20 "need_rule" = true) (k20 : PySem.W.keepIn K (.ref f20) = true)
    (a21 : PySem.W.nsIn K mainGlobals "need_contest" = some (some (.ref f21)))
    (l21 : K.lookup f21 = some ⟨oc21, od21, .func (PySem.W.fnOf "need_contest" "need_contest" (defArgs sNeedContest) (defBody sNeedContest) (defScope sNeedContest) .none kV21 dc21 pm21 an21 cd21 ct21), sl21⟩)
    (c21 : PySem.W.codeIn K cd21 "need_contest" = true) (k21 : PySem.W.keepIn K (.ref f21) = true)
    (a22 : PySem.W.nsIn K mainGlobals "contest_of" = some (some (.ref f22)))
    (l22 : K.lookup f22 = some ⟨oc22, od22, .func (PySem.W.fnOf "contest_of" "contest_of" (defArgs sContestOf) (defBody sContestOf) (defScope sContestOf) .none kV22 dc22 pm22 an22 cd22 ct22), sl22⟩)
    (c22 : PySem.W.codeIn K cd22 "contest_of" = true) (k22 : PySem.W.keepIn K (.ref f22) = true)
    (a23 : PySem.W.nsIn K mainGlobals "need_limit" = some (some (.ref f23)))
    (l23 : K.lookup f23 = some ⟨oc23, od23, .func (PySem.W.fnOf "need_limit" "need_limit" (defArgs sNeedLimit) (defBody sNeedLimit) (defScope sNeedLimit) .none kV23 dc23 pm23 an23 cd23 ct23), sl23⟩)
    (c23 : PySem.W.codeIn K cd23 "need_limit" = true) (k23 : PySem.W.keepIn K (.ref f23) = true)
    (a24 : PySem.W.nsIn K mainGlobals "pays_of" = some (some (.ref f24)))
    (l24 : K.lookup f24 = some ⟨oc24, od24, .func (PySem.W.fnOf "pays_of" "pays_of" (defArgs sPaysOf) (defBody sPaysOf) (defScope sPaysOf) .none kV24 dc24 pm24 an24 cd24 ct24), sl24⟩)
    (c24 : PySem.W.codeIn K cd24 "pays_of" = true) (k24 : PySem.W.keepIn K (.ref f24) = true)
    (a25 : PySem.W.nsIn K mainGlobals "successors" = some (some (.ref f25)))
    (l25 : K.lookup f25 = some ⟨oc25, od25, .func (PySem.W.fnOf "successors" "successors" (defArgs sSucc) (defBody sSucc) (defScope sSucc) .none kV25 dc25 pm25 an25 cd25 ct25), sl25⟩)
    (c25 : PySem.W.codeIn K cd25 "successors" = true) (k25 : PySem.W.keepIn K (.ref f25) = true)
    (a26 : PySem.W.nsIn K mainGlobals "is_won" = some (some (.ref f26)))
    (l26 : K.lookup f26 = some ⟨oc26, od26, .func (PySem.W.fnOf "is_won" "is_won" (defArgs sIsWon) (defBody sIsWon) (defScope sIsWon) .none kV26 dc26 pm26 an26 cd26 ct26), sl26⟩)
    (c26 : PySem.W.codeIn K cd26 "is_won" = true) (k26 : PySem.W.keepIn K (.ref f26) = true)
    (a27 : PySem.W.nsIn K mainGlobals "has_won" = some (some (.ref f27)))
    (l27 : K.lookup f27 = some ⟨oc27, od27, .func (PySem.W.fnOf "has_won" "has_won" (defArgs sHasWon) (defBody sHasWon) (defScope sHasWon) .none kV27 dc27 pm27 an27 cd27 ct27), sl27⟩)
    (c27 : PySem.W.codeIn K cd27 "has_won" = true) (k27 : PySem.W.keepIn K (.ref f27) = true)
    (a28 : PySem.W.nsIn K mainGlobals "level_after" = some (some (.ref f28)))
    (l28 : K.lookup f28 = some ⟨oc28, od28, .func (PySem.W.fnOf "level_after" "level_after" (defArgs sLevelAfter) (defBody sLevelAfter) (defScope sLevelAfter) .none kV28 dc28 pm28 an28 cd28 ct28), sl28⟩)
    (c28 : PySem.W.codeIn K cd28 "level_after" = true) (k28 : PySem.W.keepIn K (.ref f28) = true)
    (a29 : PySem.W.nsIn K mainGlobals "levels_until_won" = some (some (.ref f29)))
    (l29 : K.lookup f29 = some ⟨oc29, od29, .func (PySem.W.fnOf "levels_until_won" "levels_until_won" (defArgs sLevelsUntil) (defBody sLevelsUntil) (defScope sLevelsUntil) .none kV29 dc29 pm29 an29 cd29 ct29), sl29⟩)
    (c29 : PySem.W.codeIn K cd29 "levels_until_won" = true) (k29 : PySem.W.keepIn K (.ref f29) = true)
    (a30 : PySem.W.nsIn K mainGlobals "_law_x_letters" = some (some (.ref f30)))
    (l30 : K.lookup f30 = some ⟨oc30, od30, .func (PySem.W.fnOf "_law_x_letters" "_law_x_letters" (defArgs sXLetters) (defBody sXLetters) (defScope sXLetters) .none kV30 dc30 pm30 an30 cd30 ct30), sl30⟩)
    (c30 : PySem.W.codeIn K cd30 "_law_x_letters" = true) (k30 : PySem.W.keepIn K (.ref f30) = true)
    (a31 : PySem.W.nsIn K mainGlobals "_law_x_machine" = some (some (.ref f31)))
    (l31 : K.lookup f31 = some ⟨oc31, od31, .func (PySem.W.fnOf "_law_x_machine" "_law_x_machine" (defArgs sXMachineB) (defBody sXMachineB) (defScope sXMachineB) .none kV31 dc31 pm31 an31 cd31 ct31), sl31⟩)
    (c31 : PySem.W.codeIn K cd31 "_law_x_machine" = true) (k31 : PySem.W.keepIn K (.ref f31) = true)
    (a32 : PySem.W.nsIn K mainGlobals "_law_x_plain" = some (some (.ref f32)))
    (l32 : K.lookup f32 = some ⟨oc32, od32, .func (PySem.W.fnOf "_law_x_plain" "_law_x_plain" (defArgs sXPlainB) (defBody sXPlainB) (defScope sXPlainB) .none kV32 dc32 pm32 an32 cd32 ct32), sl32⟩)
    (c32 : PySem.W.codeIn K cd32 "_law_x_plain" = true) (k32 : PySem.W.keepIn K (.ref f32) = true)
    (a33 : PySem.W.nsIn K mainGlobals "_law_x_rule" = some (some (.ref f33)))
    (l33 : K.lookup f33 = some ⟨oc33, od33, .func (PySem.W.fnOf "_law_x_rule" "_law_x_rule" (defArgs sXRule) (defBody sXRule) (defScope sXRule) .none kV33 dc33 pm33 an33 cd33 ct33), sl33⟩)
    (c33 : PySem.W.codeIn K cd33 "_law_x_rule" = true) (k33 : PySem.W.keepIn K (.ref f33) = true)
    (a34 : PySem.W.nsIn K mainGlobals "_law_x_pairs" = some (some (.ref f34)))
    (l34 : K.lookup f34 = some ⟨oc34, od34, .func (PySem.W.fnOf "_law_x_pairs" "_law_x_pairs" (defArgs sXPairs) (defBody sXPairs) (defScope sXPairs) .none kV34 dc34 pm34 an34 cd34 ct34), sl34⟩)
    (c34 : PySem.W.codeIn K cd34 "_law_x_pairs" = true) (k34 : PySem.W.keepIn K (.ref f34) = true)
    (a35 : PySem.W.nsIn K mainGlobals "_law_x_pays" = some (some (.ref f35)))
    (l35 : K.lookup f35 = some ⟨oc35, od35, .func (PySem.W.fnOf "_law_x_pays" "_law_x_pays" (defArgs sXPays) (defBody sXPays) (defScope sXPays) .none kV35 dc35 pm35 an35 cd35 ct35), sl35⟩)
    (c35 : PySem.W.codeIn K cd35 "_law_x_pays" = true) (k35 : PySem.W.keepIn K (.ref f35) = true)
    (a36 : PySem.W.nsIn K mainGlobals "_law_x_word" = some (some (.ref f36)))
    (l36 : K.lookup f36 = some ⟨oc36, od36, .func (PySem.W.fnOf "_law_x_word" "_law_x_word" (defArgs sWord) (defBody sWord) (defScope sWord) .none kV36 dc36 pm36 an36 cd36 ct36), sl36⟩)
    (c36 : PySem.W.codeIn K cd36 "_law_x_word" = true) (k36 : PySem.W.keepIn K (.ref f36) = true)
    (a37 : PySem.W.nsIn K mainGlobals "_law_x_bounds_over" = some (some (.ref f37)))
    (l37 : K.lookup f37 = some ⟨oc37, od37, .func (PySem.W.fnOf "_law_x_bounds_over" "_law_x_bounds_over" (defArgs sXBounds) (defBody sXBounds) (defScope sXBounds) .none kV37 dc37 pm37 an37 cd37 ct37), sl37⟩)
    (c37 : PySem.W.codeIn K cd37 "_law_x_bounds_over" = true) (k37 : PySem.W.keepIn K (.ref f37) = true)
    (a38 : PySem.W.nsIn K mainGlobals "_law_x_goes_on" = some (some (.ref f38)))
    (l38 : K.lookup f38 = some ⟨oc38, od38, .func (PySem.W.fnOf "_law_x_goes_on" "_law_x_goes_on" (defArgs sXGoes) (defBody sXGoes) (defScope sXGoes) .none kV38 dc38 pm38 an38 cd38 ct38), sl38⟩)
    (c38 : PySem.W.codeIn K cd38 "_law_x_goes_on" = true) (k38 : PySem.W.keepIn K (.ref f38) = true)
    (a39 : PySem.W.nsIn K mainGlobals "_law_x_sides" = some (some (.ref f39)))
    (l39 : K.lookup f39 = some ⟨oc39, od39, .func (PySem.W.fnOf "_law_x_sides" "_law_x_sides" (defArgs sXSides) (defBody sXSides) (defScope sXSides) .none kV39 dc39 pm39 an39 cd39 ct39), sl39⟩)
    (c39 : PySem.W.codeIn K cd39 "_law_x_sides" = true) (k39 : PySem.W.keepIn K (.ref f39) = true)
    (a40 : PySem.W.nsIn K mainGlobals "_law_x_after" = some (some (.ref f40)))
    (l40 : K.lookup f40 = some ⟨oc40, od40, .func (PySem.W.fnOf "_law_x_after" "_law_x_after" (defArgs sXAfter) (defBody sXAfter) (defScope sXAfter) .none kV40 dc40 pm40 an40 cd40 ct40), sl40⟩)
    (c40 : PySem.W.codeIn K cd40 "_law_x_after" = true) (k40 : PySem.W.keepIn K (.ref f40) = true)
    (a41 : PySem.W.nsIn K mainGlobals "_law_x_levels" = some (some (.ref f41)))
    (l41 : K.lookup f41 = some ⟨oc41, od41, .func (PySem.W.fnOf "_law_x_levels" "_law_x_levels" (defArgs sXLevels) (defBody sXLevels) (defScope sXLevels) .none kV41 dc41 pm41 an41 cd41 ct41), sl41⟩)
    (c41 : PySem.W.codeIn K cd41 "_law_x_levels" = true) (k41 : PySem.W.keepIn K (.ref f41) = true)
    (a42 : PySem.W.nsIn K mainGlobals "_law_x_won" = some (some (.ref f42)))
    (l42 : K.lookup f42 = some ⟨oc42, od42, .func (PySem.W.fnOf "_law_x_won" "_law_x_won" (defArgs sXWon) (defBody sXWon) (defScope sXWon) .none kV42 dc42 pm42 an42 cd42 ct42), sl42⟩)
    (c42 : PySem.W.codeIn K cd42 "_law_x_won" = true) (k42 : PySem.W.keepIn K (.ref f42) = true)
    (a43 : PySem.W.nsIn K mainGlobals "law" = some (some (.ref f43)))
    (l43 : K.lookup f43 = some ⟨oc43, od43, .func (PySem.W.fnOf "law" "law" (defArgs sLaw) (defBody sLaw) (defScope sLaw) .none kV43 dc43 pm43 an43 cd43 ct43), sl43⟩)
    (c43 : PySem.W.codeIn K cd43 "law" = true) (k43 : PySem.W.keepIn K (.ref f43) = true)
    (a44 : PySem.W.nsIn K mainGlobals "parted" = some (some (.ref f44)))
    (l44 : K.lookup f44 = some ⟨oc44, od44, .func (PySem.W.fnOf "parted" "parted" (defArgs sParted) (defBody sParted) (defScope sParted) .none kV44 dc44 pm44 an44 cd44 ct44), sl44⟩)
    (c44 : PySem.W.codeIn K cd44 "parted" = true) (k44 : PySem.W.keepIn K (.ref f44) = true)
    (a45 : PySem.W.nsIn K mainGlobals "levels_of" = some (some (.ref f45)))
    (l45 : K.lookup f45 = some ⟨oc45, od45, .func (PySem.W.fnOf "levels_of" "levels_of" (defArgs sLevelsOf) (defBody sLevelsOf) (defScope sLevelsOf) .none kV45 dc45 pm45 an45 cd45 ct45), sl45⟩)
    (c45 : PySem.W.codeIn K cd45 "levels_of" = true) (k45 : PySem.W.keepIn K (.ref f45) = true)
    (e0 : PySem.W.nsIn K mainGlobals "NoMachine" = some (some (.ref C0)))
    (e1 : PySem.W.nsIn K mainGlobals "NoPlain" = some (some (.ref C1)))
    (e2 : PySem.W.nsIn K mainGlobals "NoLetters" = some (some (.ref C2)))
    (e3 : PySem.W.nsIn K mainGlobals "NoRule" = some (some (.ref C3)))
    (e4 : PySem.W.nsIn K mainGlobals "NoRow" = some (some (.ref C4)))
    (e5 : PySem.W.nsIn K mainGlobals "NoWord" = some (some (.ref C5)))
    (e6 : PySem.W.nsIn K mainGlobals "NoNumber" = some (some (.ref C6)))
    (e7 : PySem.W.nsIn K mainGlobals "NoDivisor" = some (some (.ref C7)))
    (e8 : PySem.W.nsIn K mainGlobals "NoMatch" = some (some (.ref C8)))
    (e9 : PySem.W.nsIn K mainGlobals "TooGreat" = some (some (.ref C9)))
    (e10 : PySem.W.nsIn K mainGlobals "NoLimit" = some (some (.ref C10)))
    (e11 : PySem.W.nsIn K mainGlobals "HasRow" = some (some (.ref C11)))
    (eL : PySem.W.nsIn K mainGlobals "LaterError" = some (some (.ref CL)))
    (kall : kitW K [C0, C1, C2, C3, C4, C5, C6, C7, C8, C9, C10, C11] = true) (kup : upW K [C0, C1, C2, C3, C4, C5, C6, C7, C8, C9, C10, C11] CL = true)
    (hm1 : PySem.W.nsIn K mainGlobals "MOST_LETTERS" = some (some (.int 3 t1)))
    (hm2 : PySem.W.nsIn K mainGlobals "MOST_STATES" = some (some (.int 4 t2)))
    (hm3 : PySem.W.nsIn K mainGlobals "MOST_PLAIN_STATES" = some (some (.int 300 t3)))
    (hm4 : PySem.W.nsIn K mainGlobals "MOST_PAIRS" = some (some (.int 3 t4)))
    (hm5 : PySem.W.nsIn K mainGlobals "MOST_PAY" = some (some (.int 20 t5)))
    (hm8 : PySem.W.nsIn K mainGlobals "MOST_PLAIN_PAY" = some (some (.int 1000000000000000000000000000000 t8)))
    (hm6 : PySem.W.nsIn K mainGlobals "MOST_STANDINGS" = some (some (.int 2000 t6)))
    (hkV44 : kV44 = .ref DK44) (hDK44 : PySem.W.nsIn K DK44 "limit" = some (some (.int 2000 ta)))
    (hkV45 : kV45 = .ref DK45) (hDK45 : PySem.W.nsIn K DK45 "limit" = some (some (.int 2000 tb)))
    (hcd0 : cd43 = .ref cL0) (hcL0 : K.lookup cL0 = some ⟨eC0, dC0, .fields vC0, sC0⟩) (hvs0 : vC0[11]? = some (.ref PT0)) (hhd0 : PySem.W.codeHdIn K cL0 PT0 = true) (hPT0 : K.lookup PT0 = none)
    (hF0 : PySem.W.nsIn K mainGlobals "FIRST" = some (some (.ref fF)))
    (hF1 : K.lookup fF = some ⟨.type "tuple", dFa, .seq #[.int 0 tk1, .int 0 tk2, .ref gA] nFa, sFa⟩)
    (hF2 : K.lookup gA = some ⟨.type "tuple", dFb, .seq #[.ref gB] nFb, sFb⟩)
    (hF3 : K.lookup gB = some ⟨.type "tuple", dFc, .seq #[.int 0 tk3, .int 0 tk4] nFc, sFc⟩)
    (z0 : PySem.W.nsIn K mainGlobals "int" = some none)
    (z1 : PySem.W.nsIn K mainGlobals "list" = some none)
    (z2 : PySem.W.nsIn K mainGlobals "len" = some none)
    (z3 : PySem.W.nsIn K mainGlobals "enumerate" = some none)
    (z4 : PySem.W.nsIn K mainGlobals "type" = some none)
    (z5 : PySem.W.nsIn K mainGlobals "tuple" = some none)
    (z6 : PySem.W.nsIn K mainGlobals "str" = some none)
    (z7 : PySem.W.nsIn K mainGlobals "all" = some none)
    (z8 : PySem.W.nsIn K mainGlobals "range" = some none)
    (z9 : PySem.W.nsIn K mainGlobals "isinstance" = some none)
    (z10 : PySem.W.nsIn K mainGlobals "ValueError" = some none)
    (z11 : PySem.W.nsIn K mainGlobals "repr" = some none)
    (z12 : PySem.W.nsIn K mainGlobals "set" = some none)
    (z13 : PySem.W.nsIn K mainGlobals "max" = some none)
    (z14 : PySem.W.nsIn K mainGlobals "min" = some none)
    (z15 : PySem.W.nsIn K mainGlobals "sorted" = some none)
    (z16 : PySem.W.nsIn K mainGlobals "any" = some none)
    (z17 : PySem.W.nsIn K mainGlobals "sum" = some none) :
    LawGL l w K CX0 12 63 "script" mg fa h := by
  cases hfa.symm.trans (PySem.W.mg_of X G a43)
  have F1 := fun_mk (st := sSpread) l1 c1 k1
  have b1 := F1.binds (ps := ["cell", "at"]) fun _ _ _ _ _ _ us hl => match us, hl with | [_, _], _ => rfl
  have F2 := fun_mk (st := sOpen) l2 c2 k2
  have b2 := F2.binds (ps := ["script"]) fun _ _ _ _ _ _ us hl => match us, hl with | [_], _ => rfl
  have F3 := fun_mk (st := sTake) l3 c3 k3
  have b3 := F3.binds (ps := ["pen", "many"]) fun _ _ _ _ _ _ us hl => match us, hl with | [_, _], _ => rfl
  have F4 := fun_mk (st := sPick) l4 c4 k4
  have b4 := F4.binds (ps := ["pen", "some"]) fun _ _ _ _ _ _ us hl => match us, hl with | [_, _], _ => rfl
  have F5 := fun_mk (st := sWhole) l5 c5 k5
  have b5 := F5.binds (ps := ["thing"]) fun _ _ _ _ _ _ us hl => match us, hl with | [_], _ => rfl
  have F6 := fun_mk (st := sBetween) l6 c6 k6
  have b6 := F6.binds (ps := ["thing", "low", "high"]) fun _ _ _ _ _ _ us hl => match us, hl with | [_, _, _], _ => rfl
  have F7 := fun_mk (st := sTuple) l7 c7 k7
  have b7 := F7.binds (ps := ["thing", "least", "most"]) fun _ _ _ _ _ _ us hl => match us, hl with | [_, _, _], _ => rfl
  have F8 := fun_mk (st := sLetters) l8 c8 k8
  have b8 := F8.binds (ps := ["thing"]) fun _ _ _ _ _ _ us hl => match us, hl with | [_], _ => rfl
  have F9 := fun_mk (st := sWayOn) l9 c9 k9
  have b9 := F9.binds (ps := ["state", "many"]) fun _ _ _ _ _ _ us hl => match us, hl with | [_, _], _ => rfl
  have F10 := fun_mk (st := sTable) l10 c10 k10
  have b10 := F10.binds (ps := ["thing", "letters", "most"]) fun _ _ _ _ _ _ us hl => match us, hl with | [_, _, _], _ => rfl
  have F11 := fun_mk (st := sRule) l11 c11 k11
  have b11 := F11.binds (ps := ["thing"]) fun _ _ _ _ _ _ us hl => match us, hl with | [_], _ => rfl
  have F12 := fun_mk (st := sPair) l12 c12 k12
  have b12 := F12.binds (ps := ["thing", "most", "many"]) fun _ _ _ _ _ _ us hl => match us, hl with | [_, _, _], _ => rfl
  have F13 := fun_mk (st := sFrame) l13 c13 k13
  have b13 := F13.binds (ps := ["thing", "most"]) fun _ _ _ _ _ _ us hl => match us, hl with | [_, _], _ => rfl
  have F14 := fun_mk (st := sChoice) l14 c14 k14
  have b14 := F14.binds (ps := ["thing", "many"]) fun _ _ _ _ _ _ us hl => match us, hl with | [_, _], _ => rfl
  have F15 := fun_mk (st := sMachine) l15 c15 k15
  have b15 := F15.binds (ps := ["thing"]) fun _ _ _ _ _ _ us hl => match us, hl with | [_], _ => rfl
  have F16 := fun_mk (st := sPlain) l16 c16 k16
  have b16 := F16.binds (ps := ["thing"]) fun _ _ _ _ _ _ us hl => match us, hl with | [_], _ => rfl
  have F17 := fun_mk (st := sNeedMachine) l17 c17 k17
  have b17 := F17.binds (ps := ["thing", "name"]) fun _ _ _ _ _ _ us hl => match us, hl with | [_, _], _ => rfl
  have F18 := fun_mk (st := sWith) l18 c18 k18
  have b18 := F18.binds (ps := ["plain"]) fun _ _ _ _ _ _ us hl => match us, hl with | [_], _ => rfl
  have F19 := fun_mk (st := sNeedMatch) l19 c19 k19
  have b19 := F19.binds (ps := ["one", "other"]) fun _ _ _ _ _ _ us hl => match us, hl with | [_, _], _ => rfl
  have F20 := fun_mk (st := sNeedRule) l20 c20 k20
  have b20 := F20.binds (ps := ["thing", "letters"]) fun _ _ _ _ _ _ us hl => match us, hl with | [_, _], _ => rfl
  have F21 := fun_mk (st := sNeedContest) l21 c21 k21
  have b21 := F21.binds (ps := ["one", "other", "rule"]) fun _ _ _ _ _ _ us hl => match us, hl with | [_, _, _], _ => rfl
  have F22 := fun_mk (st := sContestOf) l22 c22 k22
  have b22 := F22.binds (ps := ["one", "other", "rule"]) fun _ _ _ _ _ _ us hl => match us, hl with | [_, _, _], _ => rfl
  have F23 := fun_mk (st := sNeedLimit) l23 c23 k23
  have b23 := F23.binds (ps := ["thing", "most"]) fun _ _ _ _ _ _ us hl => match us, hl with | [_, _], _ => rfl
  have F24 := fun_mk (st := sPaysOf) l24 c24 k24
  have b24 := F24.binds (ps := ["machine"]) fun _ _ _ _ _ _ us hl => match us, hl with | [_], _ => rfl
  have F25 := fun_mk (st := sSucc) l25 c25 k25
  have b25 := F25.binds (ps := ["contest", "standing", "at"]) fun _ _ _ _ _ _ us hl => match us, hl with | [_, _, _], _ => rfl
  have F26 := fun_mk (st := sIsWon) l26 c26 k26
  have b26 := F26.binds (ps := ["standing"]) fun _ _ _ _ _ _ us hl => match us, hl with | [_], _ => rfl
  have F27 := fun_mk (st := sHasWon) l27 c27 k27
  have b27 := F27.binds (ps := ["level"]) fun _ _ _ _ _ _ us hl => match us, hl with | [_], _ => rfl
  have F28 := fun_mk (st := sLevelAfter) l28 c28 k28
  have b28 := F28.binds (ps := ["contest", "level", "seen"]) fun _ _ _ _ _ _ us hl => match us, hl with | [_, _, _], _ => rfl
  have F29 := fun_mk (st := sLevelsUntil) l29 c29 k29
  have b29 := F29.binds (ps := ["contest", "limit"]) fun _ _ _ _ _ _ us hl => match us, hl with | [_, _], _ => rfl
  have F30 := fun_mk (st := sXLetters) l30 c30 k30
  have b30 := F30.binds (ps := ["pen"]) fun _ _ _ _ _ _ us hl => match us, hl with | [_], _ => rfl
  have F31 := fun_mk (st := sXMachineB) l31 c31 k31
  have b31 := F31.binds (ps := ["pen", "base", "letters", "most", "wide"]) fun _ _ _ _ _ _ us hl => match us, hl with | [_, _, _, _, _], _ => rfl
  have F32 := fun_mk (st := sXPlainB) l32 c32 k32
  have b32 := F32.binds (ps := ["pen", "base", "letters", "most", "wide"]) fun _ _ _ _ _ _ us hl => match us, hl with | [_, _, _, _, _], _ => rfl
  have F33 := fun_mk (st := sXRule) l33 c33 k33
  have b33 := F33.binds (ps := ["pen", "letters", "most"]) fun _ _ _ _ _ _ us hl => match us, hl with | [_, _, _], _ => rfl
  have F34 := fun_mk (st := sXPairs) l34 c34 k34
  have b34 := F34.binds (ps := ["machine", "state", "at"]) fun _ _ _ _ _ _ us hl => match us, hl with | [_, _, _], _ => rfl
  have F35 := fun_mk (st := sXPays) l35 c35 k35
  have b35 := F35.binds (ps := ["machine"]) fun _ _ _ _ _ _ us hl => match us, hl with | [_], _ => rfl
  have F36 := fun_mk (st := sWord) l36 c36 k36
  have b36 := F36.binds (ps := ["act"]) fun _ _ _ _ _ _ us hl => match us, hl with | [_], _ => rfl
  have F37 := fun_mk (st := sXBounds) l37 c37 k37
  have b37 := F37.binds (ps := ["one", "other"]) fun _ _ _ _ _ _ us hl => match us, hl with | [_, _], _ => rfl
  have F38 := fun_mk (st := sXGoes) l38 c38 k38
  have b38 := F38.binds (ps := ["one", "other", "rule", "bounds", "standing", "at"]) fun _ _ _ _ _ _ us hl => match us, hl with | [_, _, _, _, _, _], _ => rfl
  have F39 := fun_mk (st := sXSides) l39 c39 k39
  have b39 := F39.binds (ps := ["pen"]) fun _ _ _ _ _ _ us hl => match us, hl with | [_], _ => rfl
  have F40 := fun_mk (st := sXAfter) l40 c40 k40
  have b40 := F40.binds (ps := ["one", "other", "rule", "bounds", "some"]) fun _ _ _ _ _ _ us hl => match us, hl with | [_, _, _, _, _], _ => rfl
  have F41 := fun_mk (st := sXLevels) l41 c41 k41
  have b41 := F41.binds (ps := ["one", "other", "rule"]) fun _ _ _ _ _ _ us hl => match us, hl with | [_, _, _], _ => rfl
  have F42 := fun_mk (st := sXWon) l42 c42 k42
  have b42 := F42.binds (ps := ["one", "other", "rule", "levels"]) fun _ _ _ _ _ _ us hl => match us, hl with | [_, _, _, _], _ => rfl
  have F43 := fun_mk (st := sLaw) l43 c43 k43
  have b43 := F43.binds (ps := ["script"]) fun _ _ _ _ _ _ us hl => match us, hl with | [_], _ => rfl
  obtain ⟨fdx⟩ := fun_some F1
  have mk : ∀ i, i < 12 → mkFacts K ([C0, C1, C2, C3, C4, C5, C6, C7, C8, C9, C10, C11].getD i 0) = true := fun i hi => (upW_of kup hi).1
  subst hkV44
  have F44 : FunD K "parted" "parted" (defArgs sParted) (defBody sParted) (defScope sParted) [] [("limit", .int 2000)] f44 _ := ⟨⟨_, _, _, _, _, _, _, _, _, _, rfl, l44, c44, .inl ⟨rfl, rfl⟩, .inr ⟨DK44, rfl, fun q hq => by
    rw [List.mem_singleton.mp hq]
    exact ⟨_, hDK44, ⟨_, rfl⟩⟩⟩⟩, k44⟩
  subst hkV45
  have F45 : FunD K "levels_of" "levels_of" (defArgs sLevelsOf) (defBody sLevelsOf) (defScope sLevelsOf) [] [("limit", .int 2000)] f45 _ := ⟨⟨_, _, _, _, _, _, _, _, _, _, rfl, l45, c45, .inl ⟨rfl, rfl⟩, .inr ⟨DK45, rfl, fun q hq => by
    rw [List.mem_singleton.mp hq]
    exact ⟨_, hDK45, ⟨_, rfl⟩⟩⟩⟩, k45⟩
  have TP : PenTxt K mg f1 f2 f3 f4 _ _ _ _ := { int := PySem.W.mg_none_of X G z0, list := PySem.W.mg_none_of X G z1, len := PySem.W.mg_none_of X G z2, enumerate := PySem.W.mg_none_of X G z3, FSpread := F1, bSpread := b1, gSpread := PySem.W.mg_of X G a1, FOpen := F2, bOpen := b2, gOpen := PySem.W.mg_of X G a2, FTake := F3, bTake := b3, gTake := PySem.W.mg_of X G a3, FPick := F4, bPick := b4, gPick := PySem.W.mg_of X G a4 }
  have TK : LookTxt K mg f5 f6 f7 f8 f9 f10 f11 _ _ _ _ _ _ _ t1 t2 := { mLetters := PySem.W.mg_of X G hm1, mStates := PySem.W.mg_of X G hm2, type := PySem.W.mg_none_of X G z4, int := PySem.W.mg_none_of X G z0, tuple := PySem.W.mg_none_of X G z5, str := PySem.W.mg_none_of X G z6, len := PySem.W.mg_none_of X G z2, all := PySem.W.mg_none_of X G z7, range := PySem.W.mg_none_of X G z8, FWhole := F5, bWhole := b5, gWhole := PySem.W.mg_of X G a5, FBetween := F6, bBetween := b6, gBetween := PySem.W.mg_of X G a6, FTuple := F7, bTuple := b7, gTuple := PySem.W.mg_of X G a7, FLetters := F8, bLetters := b8, gLetters := PySem.W.mg_of X G a8, FWayOn := F9, bWayOn := b9, gWayOn := PySem.W.mg_of X G a9, FTable := F10, bTable := b10, gTable := PySem.W.mg_of X G a10, FRule := F11, bRule := b11, gRule := PySem.W.mg_of X G a11 }
  have TM : MachTxt K mg f5 f6 f7 f8 f12 f9 f10 f13 f14 f15 f16 f11 _ _ _ _ _ _ _ _ _ _ _ _ t1 t2 t3 t4 t5 := { look := TK, mPlain := PySem.W.mg_of X G hm3, mWide := ⟨t8, by rw [show ((10 : Int) ^ (30 : Int).toNat) = 1000000000000000000000000000000 from by decide +kernel]; exact PySem.W.mg_of X G hm8⟩, mPairs := PySem.W.mg_of X G hm4, mPay := PySem.W.mg_of X G hm5, set := PySem.W.mg_none_of X G z12, FPair := F12, bPair := b12, gPair := PySem.W.mg_of X G a12, FFrame := F13, bFrame := b13, gFrame := PySem.W.mg_of X G a13, FChoice := F14, bChoice := b14, gChoice := PySem.W.mg_of X G a14, FMachine := F15, bMachine := b15, gMachine := PySem.W.mg_of X G a15, FPlain := F16, bPlain := b16, gPlain := PySem.W.mg_of X G a16 }
  have TFr : FrmTxt K mg f5 f6 f7 f8 f12 f9 f10 f13 f14 f15 f16 f11 _ _ _ _ _ _ _ _ _ _ _ _ t1 t2 t3 t4 t5 C0 f17 f18 _ _ := { mach := TM, noMachine := excF_of (PySem.W.mg_of X G e0) (mk 0 (by decide)), FNeedMachine := F17, bNeedMachine := b17, gNeedMachine := PySem.W.mg_of X G a17, FWith := F18, bWith := b18, gWith := PySem.W.mg_of X G a18 }
  have TS : ∀ (pz : Addr) (qz : FuncData), SprTxt K mg f24 pz _ qz := fun _ _ => { max := PySem.W.mg_none_of X G z13, min := PySem.W.mg_none_of X G z14, FPaysOf := F24, bPaysOf := b24, gPaysOf := PySem.W.mg_of X G a24 }
  have TCo : CoTxt K mg f5 f6 f7 f8 f12 f9 f10 f13 f14 f15 f16 f11 _ _ _ _ _ _ _ _ _ _ _ _ t1 t2 t3 t4 t5 C0 f17 f18 _ _ f19 f20 f21 f22 f23 f24 _ _ _ _ _ _ C8 C3 C10 := { frm := TFr, pays := TS _ _, noMatch := excF_of (PySem.W.mg_of X G e8) (mk 8 (by decide)), noRule := excF_of (PySem.W.mg_of X G e3) (mk 3 (by decide)), noLimit := excF_of (PySem.W.mg_of X G e10) (mk 10 (by decide)), FNeedMatch := F19, bNeedMatch := b19, gNeedMatch := PySem.W.mg_of X G a19, FNeedRule := F20, bNeedRule := b20, gNeedRule := PySem.W.mg_of X G a20, FNeedContest := F21, bNeedContest := b21, gNeedContest := PySem.W.mg_of X G a21, FContestOf := F22, bContestOf := b22, gContestOf := PySem.W.mg_of X G a22, FNeedLimit := F23, bNeedLimit := b23, gNeedLimit := PySem.W.mg_of X G a23 }
  have TSu : SuTxt K mg f25 f26 f27 _ _ _ := { sorted := PySem.W.mg_none_of X G z15, any := PySem.W.mg_none_of X G z16, tuple := PySem.W.mg_none_of X G z5, FSucc := F25, bSucc := b25, gSucc := PySem.W.mg_of X G a25, FIsWon := F26, bIsWon := b26, gIsWon := PySem.W.mg_of X G a26, FHasWon := F27, bHasWon := b27, gHasWon := PySem.W.mg_of X G a27 }
  have TLv : LvTxt K mg f25 f26 f27 f28 _ _ _ _ := { su := TSu, enumerate := PySem.W.mg_none_of X G z3, FLevelAfter := F28, bLevelAfter := b28, gLevelAfter := PySem.W.mg_of X G a28 }
  have sz2 : ∀ {m : Nat}, m ≤ 9 → m ≤ sizeLine := fun h => Nat.le_trans h (by decide)
  have first : ∀ H : Hp, Rp K H (.ref fF) (eSg FIRSTg) := fun H => by
    have v2 : Vals [V.int 0, V.int 0] [Value.int 0 tk3, Value.int 0 tk4] := .cons ⟨_, rfl⟩ (.cons ⟨_, rfl⟩ .nil)
    have v1 : Vals [V.ref gB] [Value.ref gB] := .cons rfl .nil
    have v0 : Vals [V.int 0, V.int 0, V.ref gA] [Value.int 0 tk1, Value.int 0 tk2, Value.ref gA] := .cons ⟨_, rfl⟩ (.cons ⟨_, rfl⟩ (.cons rfl .nil))
    exact .tup (.inr ⟨_, _, _, hF1, rfl, rfl, sz2 (by simp), v0⟩) (.cons (.int 0) (.cons (.int 0) (.cons (.tup (.inr ⟨_, _, _, hF2, rfl, rfl, sz2 (by simp), v1⟩) (.cons (.tup (.inr ⟨_, _, _, hF3, rfl, rfl, sz2 (by simp), v2⟩) (.cons (.int 0) (.cons (.int 0) .nil))) .nil)) .nil)))
  have TLu : LuTxt K mg f25 f26 f27 f28 f29 _ _ _ _ _ C9 fF := { lv := TLv, great := excF_of (PySem.W.mg_of X G e9) (mk 9 (by decide)), gFirst := PySem.W.mg_of X G hF0, first := first, len := PySem.W.mg_none_of X G z2, FLevelsUntil := F29, bLevelsUntil := b29, gLevelsUntil := PySem.W.mg_of X G a29 }
  have TPA : PaTxt K mg f5 f6 f7 f8 f12 f9 f10 f13 f14 f15 f16 f11 _ _ _ _ _ _ _ _ _ _ _ _ t1 t2 t3 t4 t5 t6 C0 f17 f18 _ _ f19 f20 f21 f22 f23 f24 _ _ _ _ _ _ C8 C3 C10 f11 f9 _ _ f25 f26 f27 f28 f29 _ _ _ _ _ C9 fF f44 f45 _ _ := { co := TCo, look := TK, lu := TLu, mMost := PySem.W.mg_of X G hm6, FParted := F44, gParted := PySem.W.mg_of X G a44, FLevelsOf := F45, gLevelsOf := PySem.W.mg_of X G a45 }
  have TE : WordTxt K mg C0 C1 C2 C3 C4 C5 C6 C7 C8 C9 C10 C11 CL := { isi := PySem.W.mg_none_of X G z9, ve := PySem.W.mg_none_of X G z10, later := PySem.W.mg_of X G eL, c0 := PySem.W.mg_of X G e0, c1 := PySem.W.mg_of X G e1, c2 := PySem.W.mg_of X G e2, c3 := PySem.W.mg_of X G e3, c4 := PySem.W.mg_of X G e4, c5 := PySem.W.mg_of X G e5, c6 := PySem.W.mg_of X G e6, c7 := PySem.W.mg_of X G e7, c8 := PySem.W.mg_of X G e8, c9 := PySem.W.mg_of X G e9, c10 := PySem.W.mg_of X G e10, c11 := PySem.W.mg_of X G e11, all := kall, up := kup }
  have TW : WT K mg f36 _ := { FWord := F36, bWord := b36, gWord := PySem.W.mg_of X G a36 }
  have TL : LetTxt K mg f30 _ := { FXLetters := F30, bXLetters := b30, gXLetters := PySem.W.mg_of X G a30 }
  have TB : BlTxt K mg f31 f32 f1 f1 _ _ fdx fdx := { range := PySem.W.mg_none_of X G z8, len := PySem.W.mg_none_of X G z2, tuple := PySem.W.mg_none_of X G z5, int := PySem.W.mg_none_of X G z0, FXMachineB := F31, bXMachineB := b31, gXMachineB := PySem.W.mg_of X G a31, FXPlainB := F32, bXPlainB := b32, gXPlainB := PySem.W.mg_of X G a32 }
  have TR : RulTxt K mg f33 _ := { range := PySem.W.mg_none_of X G z8, len := PySem.W.mg_none_of X G z2, tuple := PySem.W.mg_none_of X G z5, FXRule := F33, bXRule := b33, gXRule := PySem.W.mg_of X G a33 }
  have TSi : SiTxt K mg f30 f33 f39 f1 f31 f32 f1 f1 _ _ _ fdx _ _ fdx fdx := { bl := TB, let_ := TL, rul := TR, max := PySem.W.mg_none_of X G z13, min := PySem.W.mg_none_of X G z14, FXSides := F39, bXSides := b39, gXSides := PySem.W.mg_of X G a39 }
  have TX1 : Lf1 K mg f34 f35 _ _ := { isi := PySem.W.mg_none_of X G z9, tuple := PySem.W.mg_none_of X G z5, list := PySem.W.mg_none_of X G z1, range := PySem.W.mg_none_of X G z8, len := PySem.W.mg_none_of X G z2, min := PySem.W.mg_none_of X G z14, max := PySem.W.mg_none_of X G z13, FXPairs := F34, bXPairs := b34, gXPairs := PySem.W.mg_of X G a34, FXPays := F35, bXPays := b35, gXPays := PySem.W.mg_of X G a35 }
  have TGo : GoTxt K mg f34 f35 f37 f38 _ _ _ _ := { f1 := TX1, sorted := PySem.W.mg_none_of X G z15, FXBounds := F37, bXBounds := b37, gXBounds := PySem.W.mg_of X G a37, FXGoes := F38, bXGoes := b38, gXGoes := PySem.W.mg_of X G a38 }
  have TLa : LaTxt K mg f34 f35 f37 f38 f40 _ _ _ _ _ := { go := TGo, list := PySem.W.mg_none_of X G z1, FXAfter := F40, bXAfter := b40, gXAfter := PySem.W.mg_of X G a40 }
  have TLl : LlTxt K mg f34 f35 f37 f38 f40 f41 _ _ _ _ _ _ := { la := TLa, FXLevels := F41, bXLevels := b41, gXLevels := PySem.W.mg_of X G a41 }
  have TLn : LnTxt K mg f34 f35 f37 f38 f40 f41 f42 _ _ _ _ _ _ _ := { ll := TLl, enumerate := PySem.W.mg_none_of X G z3, FXWon := F42, bXWon := b42, gXWon := PySem.W.mg_of X G a42 }
  have T0 : LawTxt K mg := { range := PySem.W.mg_none_of X G z8, repr := PySem.W.mg_none_of X G z11, len := PySem.W.mg_none_of X G z2, sum := PySem.W.mg_none_of X G z17 }
  have hP0 := own0 _ (PySem.W.mg_of X G a43) cL0 PT0 _ _ eC0 dC0 vC0 sC0 l43 rfl hcd0 hcL0 hvs0
  have hPs : ∀ q ∈ ([(cL0, PT0)] : List (Addr × Addr)), h.get? q.2 = some { cls := .none, data := .fields #[] } ∧ K.lookup q.2 = none ∧ PySem.W.CodeHd h q.1 q.2 := by
    intro q hq
    simp only [List.mem_cons, List.not_mem_nil, or_false] at hq
    obtain rfl := hq
    · exact ⟨hP0, hPT0, PySem.W.codeHd_of_K X hhd0⟩
  refine ⟨_, [(cL0, PT0)], spLaw K PT0, hPs, fun s v => .of_eq rfl, fun H a ns hl hT hS => ⟨a, ns, rfl, hS, hl, hT _ (.head _), fun _ => rfl⟩, fun base _ _ TAB => ok_law F43 hcd0 TP TPA TE TW TSi TLn T0 (TAB _ (.head _))⟩
end My
open PySem PySem.W PyProof.Rows
set_option maxHeartbeats 0 in
theorem PySem.Challenge.cw_laterless_k43_words_that_are_won_holds : PySem.Challenge.rw_laterless_k43_words_that_are_won.Holds := by
  w_on; o_law; k_head; (case hw => w_witness2)
  k_fill
  refine My.walk_ofGL (l := PySem.Challenge.rw_laterless_k43_words_that_are_won) (n := 63) (k := 12) (x := "script") (CX := fun _ => L2.CX0) ["law"] rfl (by decide) rfl ⟨rfl, by decide, by decide⟩ ?hrec (fun w h Y => PySem.W.km_in_of Y) ?F (fun _ _ _ _ _ h => h)
  case hrec => kernel_rfl
  case F =>
    intro w mg fa h KX G hmg own
    refine' My.all_mk KX G hmg (own _ (by simp)) ?a1 ?l1 ?c1 ?k1 ?a2 ?l2 ?c2 ?k2 ?a3 ?l3 ?c3 ?k3 ?a4 ?l4 ?c4 ?k4 ?a5 ?l5 ?c5 ?k5 ?a6 ?l6 ?c6 ?k6 ?a7 ?l7 ?c7 ?k7 ?a8 ?l8 ?c8 ?k8 ?a9 ?l9 ?c9 ?k9 ?a10 ?l10 ?c10 ?k10 ?a11 ?l11 ?c11 ?k11 ?a12 ?l12 ?c12 ?k12 ?a13 ?l13 ?c13 ?k13 ?a14 ?l14 ?c14 ?k14 ?a15 ?l15 ?c15 ?k15 ?a16 ?l16 ?c16 ?k16 ?a17 ?l17 ?c17 ?k17 ?a18 ?l18 ?c18 ?k18 ?a19 ?l19 ?c19 ?k19 ?a20 ?l20 ?c20 ?k20 ?a21 ?l21 ?c21 ?k21 ?a22 ?l22 ?c22 ?k22 ?a23 ?l23 ?c23 ?k23 ?a24 ?l24 ?c24 ?k24 ?a25 ?l25 ?c25 ?k25 ?a26 ?l26 ?c26 ?k26 ?a27 ?l27 ?c27 ?k27 ?a28 ?l28 ?c28 ?k28 ?a29 ?l29 ?c29 ?k29 ?a30 ?l30 ?c30 ?k30 ?a31 ?l31 ?c31 ?k31 ?a32 ?l32 ?c32 ?k32 ?a33 ?l33 ?c33 ?k33 ?a34 ?l34 ?c34 ?k34 ?a35 ?l35 ?c35 ?k35 ?a36 ?l36 ?c36 ?k36 ?a37 ?l37 ?c37 ?k37 ?a38 ?l38 ?c38 ?k38 ?a39 ?l39 ?c39 ?k39 ?a40 ?l40 ?c40 ?k40 ?a41 ?l41 ?c41 ?k41 ?a42 ?l42 ?c42 ?k42 ?a43 ?l43 ?c43 ?k43 ?a44 ?l44 ?c44 ?k44 ?a45 ?l45 ?c45 ?k45 ?e0 ?e1 ?e2 ?e3 ?e4 ?e5 ?e6 ?e7 ?e8 ?e9 ?e10 ?e11 ?eL ?kall ?kup ?hm1 ?hm2 ?hm3 ?hm4 ?hm5 ?hm8 ?hm6 ?hkV44 ?hDK44 ?hkV45 ?hDK45 ?hcd0 ?hcL0 ?hvs0 ?hhd0 ?hPT0 ?hF0 ?hF1 ?hF2 ?hF3 ?z0 ?z1 ?z2 ?z3 ?z4 ?z5 ?z6 ?z7 ?z8 ?z9 ?z10 ?z11 ?z12 ?z13 ?z14 ?z15 ?z16 ?z17
    (case a1 => k_is); (case l1 => k_is); (case c1 => k_is); (case k1 => k_is)
    (case a2 => k_is); (case l2 => k_is); (case c2 => k_is); (case k2 => k_is)
    (case a3 => k_is); (case l3 => k_is); (case c3 => k_is); (case k3 => k_is)
    (case a4 => k_is); (case l4 => k_is); (case c4 => k_is); (case k4 => k_is)
    (case a5 => k_is); (case l5 => k_is); (case c5 => k_is); (case k5 => k_is)
    (case a6 => k_is); (case l6 => k_is); (case c6 => k_is); (case k6 => k_is)
    (case a7 => k_is); (case l7 => k_is); (case c7 => k_is); (case k7 => k_is)
    (case a8 => k_is); (case l8 => k_is); (case c8 => k_is); (case k8 => k_is)
    (case a9 => k_is); (case l9 => k_is); (case c9 => k_is); (case k9 => k_is)
    (case a10 => k_is); (case l10 => k_is); (case c10 => k_is); (case k10 => k_is)
    (case a11 => k_is); (case l11 => k_is); (case c11 => k_is); (case k11 => k_is)
    (case a12 => k_is); (case l12 => k_is); (case c12 => k_is); (case k12 => k_is)
    (case a13 => k_is); (case l13 => k_is); (case c13 => k_is); (case k13 => k_is)
    (case a14 => k_is); (case l14 => k_is); (case c14 => k_is); (case k14 => k_is)
    (case a15 => k_is); (case l15 => k_is); (case c15 => k_is); (case k15 => k_is)
    (case a16 => k_is); (case l16 => k_is); (case c16 => k_is); (case k16 => k_is)
    (case a17 => k_is); (case l17 => k_is); (case c17 => k_is); (case k17 => k_is)
    (case a18 => k_is); (case l18 => k_is); (case c18 => k_is); (case k18 => k_is)
    (case a19 => k_is); (case l19 => k_is); (case c19 => k_is); (case k19 => k_is)
    (case a20 => k_is); (case l20 => k_is); (case c20 => k_is); (case k20 => k_is)
    (case a21 => k_is); (case l21 => k_is); (case c21 => k_is); (case k21 => k_is)
    (case a22 => k_is); (case l22 => k_is); (case c22 => k_is); (case k22 => k_is)
    (case a23 => k_is); (case l23 => k_is); (case c23 => k_is); (case k23 => k_is)
    (case a24 => k_is); (case l24 => k_is); (case c24 => k_is); (case k24 => k_is)
    (case a25 => k_is); (case l25 => k_is); (case c25 => k_is); (case k25 => k_is)
    (case a26 => k_is); (case l26 => k_is); (case c26 => k_is); (case k26 => k_is)
    (case a27 => k_is); (case l27 => k_is); (case c27 => k_is); (case k27 => k_is)
    (case a28 => k_is); (case l28 => k_is); (case c28 => k_is); (case k28 => k_is)
    (case a29 => k_is); (case l29 => k_is); (case c29 => k_is); (case k29 => k_is)
    (case a30 => k_is); (case l30 => k_is); (case c30 => k_is); (case k30 => k_is)
    (case a31 => k_is); (case l31 => k_is); (case c31 => k_is); (case k31 => k_is)
    (case a32 => k_is); (case l32 => k_is); (case c32 => k_is); (case k32 => k_is)
    (case a33 => k_is); (case l33 => k_is); (case c33 => k_is); (case k33 => k_is)
    (case a34 => k_is); (case l34 => k_is); (case c34 => k_is); (case k34 => k_is)
    (case a35 => k_is); (case l35 => k_is); (case c35 => k_is); (case k35 => k_is)
    (case a36 => k_is); (case l36 => k_is); (case c36 => k_is); (case k36 => k_is)
    (case a37 => k_is); (case l37 => k_is); (case c37 => k_is); (case k37 => k_is)
    (case a38 => k_is); (case l38 => k_is); (case c38 => k_is); (case k38 => k_is)
    (case a39 => k_is); (case l39 => k_is); (case c39 => k_is); (case k39 => k_is)
    (case a40 => k_is); (case l40 => k_is); (case c40 => k_is); (case k40 => k_is)
    (case a41 => k_is); (case l41 => k_is); (case c41 => k_is); (case k41 => k_is)
    (case a42 => k_is); (case l42 => k_is); (case c42 => k_is); (case k42 => k_is)
    (case a43 => k_is); (case l43 => k_is); (case c43 => k_is); (case k43 => k_is)
    (case a44 => k_is); (case l44 => k_is); (case c44 => k_is); (case k44 => k_is)
    (case a45 => k_is); (case l45 => k_is); (case c45 => k_is); (case k45 => k_is)
    (case e0 => k_is); (case e1 => k_is); (case e2 => k_is); (case e3 => k_is); (case e4 => k_is); (case e5 => k_is); (case e6 => k_is); (case e7 => k_is); (case e8 => k_is); (case e9 => k_is); (case e10 => k_is); (case e11 => k_is); (case eL => k_is); (case kall => kernel_rfl); (case kup => kernel_rfl); (case hm1 => k_is); (case hm2 => k_is); (case hm3 => k_is); (case hm4 => k_is); (case hm5 => k_is); (case hm8 => k_is); (case hm6 => k_is); (case hkV44 => rfl); (case hDK44 => k_is); (case hkV45 => rfl); (case hDK45 => k_is); (case hcd0 => rfl); (case hcL0 => k_is); (case hvs0 => rfl); (case hhd0 => kernel_rfl); (case hPT0 => kernel_rfl); (case hF0 => k_is); (case hF1 => k_is); (case hF2 => k_is); (case hF3 => k_is); (case z0 => k_is); (case z1 => k_is); (case z2 => k_is); (case z3 => k_is); (case z4 => k_is); (case z5 => k_is); (case z6 => k_is); (case z7 => k_is); (case z8 => k_is); (case z9 => k_is); (case z10 => k_is); (case z11 => k_is); (case z12 => k_is); (case z13 => k_is); (case z14 => k_is); (case z15 => k_is); (case z16 => k_is); (case z17 => k_is)
