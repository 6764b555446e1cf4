import PyProof.Rows.All
import Wide.All
import OpenK.AllK
import Wide.FinOn
import HandS.ForMost
import HandS.ForExc
import HandS.Wide
import HandS.Gcd
import HandS.Evl
import HandS.Walk
import HandS.More
import HandS.FStr
import HandS.IsInst
import HandS.RaiseMore
import HandS.Style
import HandS.ExcValue
import HandS.ExcIs
import HandS.Lambda
import HandS.EndTab
import HandS.EndOwn
import PyProof.TypeEq
import PyProof.ReprLen
import HandS.TupSets
import HandS.Replace
import HandS.Defaults
import PyProof.ListStr
import KE.GoesEnum
import HandS.TupMul
import HandS.TupAny
import HandS.Deep
import HandS.Zip
import HandS.RevRange
import HandS.WideBits
import HandS.ListItems
import HandS.DictComp
import HandS.Finally
import HandS.SortRule
import KE.KDictKeyed
import KE.KDictDisplayH
import HandS.MakeKwOnly
import HandS.TupLen
import HandS.Records
import HandS.Conv
import KE.SortData
import KE.KDictWalk
import PyProof.DictRoadsH
import PySem.Challenge.RW_laterless_k46_leads_refused
set_option Elab.async false
set_option linter.all false
set_option maxRecDepth 100000
set_option maxHeartbeats 4000000
namespace My
open PySem PySem.Spec PyProof.Rows L2
/-! ### the text by places -/
def topS (i : Nat) : Stmt := PySem.Challenge.pw_laterless_k46_leads_refused.main.body.getD i (.Pass ⟨0, 0, 0, 0⟩)
abbrev sSpread : Stmt := topS 59
abbrev sOpen : Stmt := topS 60
abbrev sTake : Stmt := topS 61
abbrev sPick : Stmt := topS 62
theorem scSpread : FnScope ["cell", "at", "primes", "one", "two", "three"] ["cell", "at"] (defScope sSpread) := ⟨rfl, rfl, rfl, by decide +kernel, rfl, by decide +kernel, by decide +kernel⟩
theorem scOpen : FnScope ["script", "cells", "nth", "cell"] ["script"] (defScope sOpen) := ⟨rfl, rfl, rfl, by decide +kernel, rfl, by decide +kernel, by decide +kernel⟩
theorem scTake : FnScope ["pen", "many", "at", "cell", "found"] ["pen", "many"] (defScope sTake) := ⟨rfl, rfl, rfl, by decide +kernel, rfl, by decide +kernel, by decide +kernel⟩
theorem scPick : FnScope ["pen", "some"] ["pen", "some"] (defScope sPick) := ⟨rfl, rfl, rfl, by decide +kernel, rfl, by decide +kernel, by decide +kernel⟩
/-! ### heaps -/
theorem same_upd {H : Hp} {p : Addr} {o : HO} (h : H p = none) : Same H (upd H p o) := fun b x e => by
  rw [upd_ne (ne_of_none e h)]
  exact e
/-- all tracked things but the one at p stand as they stood -/
def But (p : Addr) (H H' : Hp) : Prop := ∀ b o, b ≠ p → H b = some o → H' b = some o
theorem But.of {p : Addr} {H H' : Hp} (s : Same H H') : But p H H' := fun b o _ e => s b o e
theorem But.trans {p : Addr} {H H1 H2 : Hp} (a : But p H H1) (b : But p H1 H2) : But p H H2 := fun c o n e => b c o n (a c o n e)
theorem but_upd {H : Hp} {p : Addr} {o : HO} : But p H (upd H p o) := fun b x n e => by
  rw [upd_ne n]
  exact e
/-- a pen stands at p: a list of the list of cells (at c), the number of cells read so far, at most n, and what is left of the last one -/
structure Pen (H : Hp) (p : Addr) (n : Nat) : Prop where
  ex : ∃ (c : Addr) (cs : List Int) (a r : Int), H p = some (.lst [.ref c, .int a, .int r]) ∧ H c = some (.lst (cs.map V.int)) ∧ c ≠ p ∧ cs.length ≤ 12 ∧ 0 ≤ a ∧ a ≤ (n : Int) ∧ 0 ≤ r
theorem Pen.same {H H' : Hp} {p : Addr} {n : Nat} (h : Pen H p n) (s : Same H H') : Pen H' p n := by
  obtain ⟨c, cs, a, r, h1, h2, h3⟩ := h.ex
  exact ⟨c, cs, a, r, s _ _ h1, s _ _ h2, h3⟩
theorem Pen.mono {H : Hp} {p : Addr} {n m : Nat} (h : Pen H p n) (l : n ≤ m) : Pen H p m := by
  obtain ⟨c, cs, a, r, h1, h2, h3, h4, h5, h6, h7⟩ := h.ex
  exact ⟨c, cs, a, r, h1, h2, h3, h4, h5, by omega, h7⟩
theorem Pen.ls {H : Hp} {p : Addr} {n : Nat} (h : Pen H p n) : ∃ xs, H p = some (.lst xs) := by
  obtain ⟨c, cs, a, r, h1, _⟩ := h.ex
  exact ⟨_, h1⟩
/-! ### the promises -/
def spSpread : Sp := fun vs H Q _ => ∃ (c a : Int), vs = [.int c, .int a] ∧ 0 ≤ a ∧ a < 1048576 ∧ ∀ H' r, Same H H' → 0 ≤ r → Q (.int r) H'
def spOpen (K : PySem.W.Frag) : Sp := fun vs H Q _ => ∃ (a : Addr) (ns : List Int), vs = [.ref a] ∧ SqL K H a (ns.map V.int) ∧ ns.length ≤ 63 ∧ ∀ H' p, Same H H' → H p = none → Pen H' p 0 → Q (.ref p) H'
def spTake : Sp := fun vs H Q _ => ∃ (p : Addr) (many : Int) (n : Nat), vs = [.ref p, .int many] ∧ Pen H p n ∧ n < 1048000 ∧ 0 < many ∧ many.natAbs.log2 < 9000 ∧ ∀ H' k, But p H H' → Pen H' p (n + 1) → 0 ≤ k → k < many → Q (.int k) H'
def spPick (K : PySem.W.Frag) : Sp := fun vs H Q _ => ∃ (p s : Addr) (xs : List V) (n : Nat), vs = [.ref p, .ref s] ∧ Pen H p n ∧ n < 1048000 ∧ SqL K H s xs ∧ s ≠ p ∧ 0 < xs.length ∧ xs.length ≤ 1000 ∧ ∀ (H' : Hp) (k : Nat) (v : V), But p H H' → Pen H' p (n + 1) → xs[(k : Nat)]? = some (v : V) → Q v H'
def primesV : List V := ([.int 2147483629, .int 2147483587, .int 2147483579, .int 2147483563, .int 2147483549, .int 2147483543, .int 2147483497, .int 2147483489] : List V) ++ [.int 2147483477, .int 2147483423, .int 2147483399, .int 2147483353, .int 2147483323]
theorem prime_at {k : Int} (h0 : 0 ≤ k) (h1 : k < 13) : ∃ m : Int, atI primesV k = some (.int m) ∧ 0 < m ∧ m < 2147483648 := by
  have h : k = 0 ∨ k = 1 ∨ k = 2 ∨ k = 3 ∨ k = 4 ∨ k = 5 ∨ k = 6 ∨ k = 7 ∨ k = 8 ∨ k = 9 ∨ k = 10 ∨ k = 11 ∨ k = 12 := by omega
  rcases h with rfl | rfl | rfl | rfl | rfl | rfl | rfl | rfl | rfl | rfl | rfl | rfl | rfl <;> exact ⟨_, rfl, by decide, by decide⟩
theorem ixN_of {n : Nat} {i : Int} (h0 : 0 ≤ i) (h1 : i < (n : Int)) : ixN n i = some i.toNat := by
  unfold ixN
  rw [if_pos h0, if_pos h1]
theorem atI_int {cs : List Int} {i : Int} (h0 : 0 ≤ i) (h1 : i < (cs.length : Int)) : ∃ z : Int, atI (cs.map V.int) i = some (.int z) := by
  have h2 : i.toNat < cs.length := by omega
  refine ⟨cs[i.toNat], ?_⟩
  unfold atI
  rw [List.length_map, ixN_of h0 h1]
  show (cs.map V.int)[i.toNat]? = _
  rw [List.getElem?_map, List.getElem?_eq_getElem h2]
  rfl
theorem cut_ints (ns : List Int) (lo hi : Option Int) : cutV (ns.map V.int) lo hi = ((ns.drop (HT.sIx ns.length 0 lo)).take (HT.sIx ns.length ns.length hi - HT.sIx ns.length 0 lo)).map V.int := by
  unfold cutV
  rw [List.length_map, List.map_take, List.map_drop]
theorem cut_len (ns : List Int) (lo hi : Option Int) : ((ns.drop (HT.sIx ns.length 0 lo)).take (HT.sIx ns.length ns.length hi - HT.sIx ns.length 0 lo)).length = min (HT.sIx ns.length ns.length hi - HT.sIx ns.length 0 lo) (ns.length - HT.sIx ns.length 0 lo) := by
  rw [List.length_take, List.length_drop]
theorem int_of {ds : List Int} {i : Nat} {y : V} (h : (ds.map V.int)[i]? = some y) : i < ds.length ∧ ∃ d : Int, y = .int d := by
  rw [List.getElem?_map] at h
  cases e : ds[i]? with
  | none =>
    rw [e] at h
    cases h
  | some d =>
    rw [e] at h
    exact ⟨(List.getElem?_eq_some_iff.mp e).1, d, (Option.some.inj h).symm⟩
theorem mul_bd {x y m : Int} (h0 : 0 ≤ x) (h1 : x ≤ m) (h2 : 0 ≤ y) : 0 ≤ x * y ∧ x * y ≤ m * y := ⟨Int.mul_nonneg h0 h2, Int.mul_le_mul_of_nonneg_right h1 h2⟩
/-- what the top has left of the pen's defs and the built-ins that they call -/
structure PenTxt (K : PySem.W.Frag) (mg : Str → Option Value) (f1 f2 f3 f4 : Addr) (d1 d2 d3 d4 : FuncData) : Prop where
  int : mg "int" = none
  list : mg "list" = none
  len : mg "len" = none
  enumerate : mg "enumerate" = none
  FSpread : Fun K "_law_spread" "_law_spread" sSpread f1 d1
  bSpread : Binds K d1 ["cell", "at"] []
  gSpread : mg "_law_spread" = some (.ref f1)
  FOpen : Fun K "_law_open" "_law_open" sOpen f2 d2
  bOpen : Binds K d2 ["script"] []
  gOpen : mg "_law_open" = some (.ref f2)
  FTake : Fun K "_law_take" "_law_take" sTake f3 d3
  bTake : Binds K d3 ["pen", "many"] []
  gTake : mg "_law_take" = some (.ref f3)
  FPick : Fun K "_law_x_pick" "_law_x_pick" sPick f4 d4
  bPick : Binds K d4 ["pen", "some"] []
  gPick : mg "_law_x_pick" = some (.ref f4)
section
variable {P : Program} {w : World} {K : PySem.W.Frag} {mg : Str → Option Value} {base : Heap} {f1 f2 f3 f4 : Addr} {d1 d2 d3 d4 : FuncData}
theorem ok_spread (T : PenTxt K mg f1 f2 f3 f4 d1 d2 d3 d4) {k : Nat} : FnOk P w K mg base CX0 (k + 1) f1 d1 ["cell", "at"] spSpread := by
  have F := T.FSpread
  refine F.ok scSpread (fun vs H Q E h => ?_) (fun cdv A outer s H vs Q E hr h => ?_)
  · obtain ⟨c, a, rfl, _⟩ := h
    rfl
  · obtain ⟨c, a, rfl, a0, a1, q⟩ := h
    refine ⟨_, (pss_cons (ps_if (pt_cmpR op_ge (pv 0) (pe_op op_pow pe_int pe_int) (nomark _)) (pss_one (ps_ret (pv 0))) pss_nil)
 (pss_cons (ps_set (i := 2) scSpread.nd rfl (.inl rfl) (pe_lst (pa_cons pe_int (pa_cons pe_int (pa_cons pe_int (pa_cons pe_int (pa_cons pe_int (pa_cons pe_int (pa_cons pe_int (pa_cons pe_int pa_nil))))))))))
 (Evl.pss_cut (ps_set (i := 2) scSpread.nd rfl (.inl rfl) (pe_op op_cat (pv 2) (pe_lst (pa_cons pe_int (pa_cons pe_int (pa_cons pe_int (pa_cons pe_int (pa_cons pe_int pa_nil))))))))
 (Evl.pss_cut (ps_set (i := 3) scSpread.nd rfl (.inl rfl) (pe_op op_mul (pe_op op_mod (pe_callTy call_int1 (by rfl) T.int (by decide +kernel) (pa_cons (pv 0) pa_nil)) pe_int) (pe_op op_add (pe_op op_mul pe_int (pv 1)) pe_int)))
 (Evl.pss_cut (ps_set (i := 3) scSpread.nd rfl (.inl rfl) (pe_op op_mod (pe_callTy call_int1 (by rfl) T.int (by decide +kernel) (pa_cons (pe_op op_pow (pe_op op_add (pe_op op_add (pv 3) (pe_op op_mul (pv 1) pe_int)) pe_int) pe_int) pa_nil)) (pe_ix ix_list (pv 2) (pe_op op_mod (pe_callTy call_int1 (by rfl) T.int (by decide +kernel) (pa_cons (pv 1) pa_nil)) pe_int) (fun _ _ => rfl))))
 (Evl.pss_cut (ps_set (i := 4) scSpread.nd rfl (.inl rfl) (pe_op op_mod (pe_callTy call_int1 (by rfl) T.int (by decide +kernel) (pa_cons (pe_op op_pow (pe_op op_add (pe_op op_add (pe_op op_mul (pv 3) (pe_op op_add (pv 1) pe_int)) (pe_op op_mod (pe_callTy call_int1 (by rfl) T.int (by decide +kernel) (pa_cons (pv 0) pa_nil)) pe_int)) pe_int) pe_int) pa_nil)) (pe_ix ix_list (pv 2) (pe_op op_mod (pe_callTy call_int1 (by rfl) T.int (by decide +kernel) (pa_cons (pe_op op_add (pv 1) pe_int) pa_nil)) pe_int) (fun _ _ => rfl))))
 (Evl.pss_cut (ps_set (i := 5) scSpread.nd rfl (.inl rfl) (pe_op op_mod (pe_callTy call_int1 (by rfl) T.int (by decide +kernel) (pa_cons (pe_op op_pow (pe_op op_add (pe_op op_add (pv 4) (pe_op op_mod (pe_callTy call_int1 (by rfl) T.int (by decide +kernel) (pa_cons (pv 3) pa_nil)) pe_int)) (pv 1)) pe_int) pa_nil)) (pe_ix ix_list (pv 2) (pe_op op_mod (pe_callTy call_int1 (by rfl) T.int (by decide +kernel) (pa_cons (pe_op op_add (pv 1) pe_int) pa_nil)) pe_int) (fun _ _ => rfl))))
 (pss_one (ps_ret (pe_op op_add (pe_op op_mul (pe_op op_add (pe_op op_mul (pv 3) pe_int) (pv 4)) pe_int) (pv 5))))))))))), ?_⟩
    refine ⟨.int c, rfl, 10, 18, rfl, rfl, ⟨by decide, by decide, by decide⟩, c, _, rfl, rfl, _, rfl, ite2 (fun e => ?_) (fun e => ?_)⟩
    · have e' := of_decide_eq_true e
      exact ⟨_, rfl, q H c (Same.refl H) (Int.le_trans (by decide) e')⟩
    · refine ⟨(by show 8 ≤ sizeLine; decide), fun p hp => ?_⟩
      refine ⟨fun σ H' => ∃ l, σ = [some (.int c), some (.int a), some (.ref l), none, none, none] ∧ Same H H' ∧ SqL K H' l primesV, ?_, ?_⟩
      · refine ⟨_, rfl, (by show 5 ≤ sizeLine; decide), fun p2 hp2 => ?_⟩
        have n12 : p ≠ p2 := ne_of_none upd_same hp2
        exact ⟨p, p2, _, _, rfl, rfl, (by rw [upd_ne n12]; exact upd_same), upd_same, (by show 13 ≤ sizeLine; decide), fun l hl => ⟨l, rfl, ((same_upd hp).trans (same_upd hp2)).trans (same_upd hl), SqL.of upd_same⟩⟩
      rintro σ H3 ⟨l, rfl, s3, hS⟩
      -- one
      refine ⟨fun σ H' => ∃ one : Int, σ = [some (.int c), some (.int a), some (.ref l), some (.int one), none, none] ∧ H' = H3 ∧ 0 ≤ one ∧ one ≤ 1000000006 * (2 * a + 69069), ?_, ?_⟩
      · have c1 := Int.emod_nonneg c (show (1000000007 : Int) ≠ 0 by decide)
        have c2 := Int.emod_lt_of_pos c (show (0 : Int) < 1000000007 by decide)
        obtain ⟨o1, o2⟩ := mul_bd c1 (show c % 1000000007 ≤ 1000000006 by omega) (show 0 ≤ 2 * a + 69069 by omega)
        exact ⟨_, rfl, .inl ⟨_, rfl, _, _, rfl, rfl, (by show (0 : Int) < 1000000007; decide), _, rfl, _, _, rfl, rfl, .inl ⟨by decide, by decide⟩, _, _, rfl, rfl, _, _, rfl, rfl, .inl ⟨(by omega), (by omega)⟩, _, rfl, rfl, o1, o2⟩⟩
      rintro σ H3 ⟨one, rfl, rfl, o1, o2⟩
      refine ⟨fun σ H' => ∃ one : Int, σ = [some (.int c), some (.int a), some (.ref l), some (.int one), none, none] ∧ H' = H3 ∧ 0 ≤ one ∧ one < 2147483648, ?_, ?_⟩
      · obtain ⟨m, hm, m0, m1⟩ := prime_at (Int.emod_nonneg a (show (13 : Int) ≠ 0 by decide)) (Int.emod_lt_of_pos a (show (0 : Int) < 13 by decide))
        have u1 := Int.emod_nonneg ((one + a * 40503 + 977) ^ (3 : Int).toNat) (show m ≠ 0 by omega)
        have u2 := Int.emod_lt_of_pos ((one + a * 40503 + 977) ^ (3 : Int).toNat) m0
        refine ⟨_, rfl, _, rfl, _, _, rfl, rfl, .inl ⟨(by omega), (by omega)⟩, _, _, rfl, rfl, _, _, rfl, rfl, _, _, rfl, rfl, ⟨by decide, by decide, (by omega)⟩, .inl ⟨_, rfl, ?_⟩⟩
        exact ⟨_, rfl, _, rfl, .inl ⟨_, rfl, _, _, rfl, rfl, (by show (0 : Int) < 13; decide), l, _, _, _, rfl, rfl, hS, hm, _, _, rfl, rfl, m0, _, rfl, rfl, u1, Int.lt_trans u2 m1⟩⟩
      rintro σ H3 ⟨one, rfl, rfl, p1, p2⟩
      -- two
      refine ⟨fun σ H' => ∃ two : Int, σ = [some (.int c), some (.int a), some (.ref l), some (.int one), some (.int two), none] ∧ H' = H3 ∧ 0 ≤ two ∧ two < 2147483648, ?_, ?_⟩
      · have d1 := Int.emod_nonneg c (show (65537 : Int) ≠ 0 by decide)
        have d2 := Int.emod_lt_of_pos c (show (0 : Int) < 65537 by decide)
        obtain ⟨o1, o2⟩ := mul_bd p1 (show one ≤ 2147483647 by omega) (show 0 ≤ a + 3 by omega)
        obtain ⟨m, hm, m0, m1⟩ := prime_at (Int.emod_nonneg (a + 5) (show (13 : Int) ≠ 0 by decide)) (Int.emod_lt_of_pos (a + 5) (show (0 : Int) < 13 by decide))
        have u1 := Int.emod_nonneg ((one * (a + 3) + c % 65537 + 5) ^ (5 : Int).toNat) (show m ≠ 0 by omega)
        have u2 := Int.emod_lt_of_pos ((one * (a + 3) + c % 65537 + 5) ^ (5 : Int).toNat) m0
        refine ⟨_, rfl, _, rfl, _, _, rfl, rfl, _, _, rfl, rfl, .inl ⟨(by omega), (by omega)⟩, _, rfl, .inl ⟨_, rfl, _, _, rfl, rfl, (by show (0 : Int) < 65537; decide), _, _, rfl, rfl, _, _, rfl, rfl, _, _, rfl, rfl, ⟨by decide, by decide, (by omega)⟩, .inl ⟨_, rfl, ?_⟩⟩⟩
        exact ⟨_, rfl, _, rfl, _, _, rfl, rfl, .inl ⟨_, rfl, _, _, rfl, rfl, (by show (0 : Int) < 13; decide), l, _, _, _, rfl, rfl, hS, hm, _, _, rfl, rfl, m0, _, rfl, rfl, u1, Int.lt_trans u2 m1⟩⟩
      rintro σ H3 ⟨two, rfl, rfl, q1, q2⟩
      -- three
      refine ⟨fun σ H' => ∃ three : Int, σ = [some (.int c), some (.int a), some (.ref l), some (.int one), some (.int two), some (.int three)] ∧ H' = H3 ∧ 0 ≤ three, ?_, ?_⟩
      · have e1 := Int.emod_nonneg one (show (1009 : Int) ≠ 0 by decide)
        have e2 := Int.emod_lt_of_pos one (show (0 : Int) < 1009 by decide)
        obtain ⟨m, hm, m0, m1⟩ := prime_at (Int.emod_nonneg (a + 7) (show (13 : Int) ≠ 0 by decide)) (Int.emod_lt_of_pos (a + 7) (show (0 : Int) < 13 by decide))
        have u1 := Int.emod_nonneg ((two + one % 1009 + a) ^ (3 : Int).toNat) (show m ≠ 0 by omega)
        refine ⟨_, rfl, _, rfl, .inl ⟨_, rfl, _, _, rfl, rfl, (by show (0 : Int) < 1009; decide), _, _, rfl, rfl, _, rfl, _, _, rfl, rfl, _, _, rfl, rfl, ⟨by decide, by decide, (by omega)⟩, .inl ⟨_, rfl, ?_⟩⟩⟩
        exact ⟨_, rfl, _, rfl, _, _, rfl, rfl, .inl ⟨_, rfl, _, _, rfl, rfl, (by show (0 : Int) < 13; decide), l, _, _, _, rfl, rfl, hS, hm, _, _, rfl, rfl, m0, _, rfl, rfl, u1⟩⟩
      rintro σ H3 ⟨three, rfl, rfl, r1⟩
      exact ⟨_, rfl, _, _, rfl, rfl, .inr ⟨by decide, by decide⟩, _, rfl, _, _, rfl, rfl, _, _, rfl, rfl, .inr ⟨by decide, by decide⟩, _, rfl, _, _, rfl, rfl, q H3 _ s3 (by omega)⟩
theorem ok_open (T : PenTxt K mg f1 f2 f3 f4 d1 d2 d3 d4) {k : Nat} : FnOk P w K mg base CX0 (k + 1) f2 d2 ["script"] (spOpen K) := by
  have F := T.FOpen
  refine F.ok scOpen (fun vs H Q E h => ?_) (fun cdv A outer s H vs Q E hr h => ?_)
  · obtain ⟨c, a, rfl, _⟩ := h
    rfl
  · obtain ⟨a, ns, rfl, hS, hl, q⟩ := h
    refine ⟨_, (Evl.pss_cut (ps_set (i := 1) scOpen.nd rfl (.inl rfl) (pe_callTy call_list_of (by rfl) T.list (by decide +kernel) (pa_cons (pe_slice sl_list (pv 0) po_none (po_some pe_int)) pa_nil)))
 (pss_cons (ps_for PassesOwn.never rfl (pi_enum (by rfl) T.enumerate (pa_cons (pe_slice sl_list (pv 0) (po_some pe_int) (po_some pe_int)) pa_nil)) (pg_tup rfl (pgs_cons (pg_name (i := 2) scOpen.nd rfl (.inl rfl)) (pgs_cons (pg_name (i := 3) scOpen.nd rfl (.inl rfl)) pgs_nil)))
 (pss_one (ps_asg (pe_op op_add (pe_ix ix_list (pv 1) (pe_op op_mod (pe_callTy call_int1 (by rfl) T.int (by decide +kernel) (pa_cons (pv 2) pa_nil)) pe_int) (fun _ _ => rfl)) (pv 3)) (pg_sub (pv 1) (pe_op op_mod (pe_callTy call_int1 (by rfl) T.int (by decide +kernel) (pa_cons (pv 2) pa_nil)) pe_int) set_list))))
 (pss_one (ps_ret (pe_lst (pa_cons (pv 1) (pa_cons pe_int (pa_cons pe_int pa_nil)))))))), ?_⟩
    -- cells
    refine ⟨fun σ H' => ∃ (c : Addr) (cs : List Int), σ = [some (.ref a), some (.ref c), none, none] ∧ Same H H' ∧ H c = none ∧ H' c = some (.lst (cs.map V.int)) ∧ cs.length = min 12 ns.length, ?_, ?_⟩
    · refine ⟨.ref a, rfl, 12, rfl, a, ns.map V.int, rfl, hS, fun c nc => ⟨c, _, rfl, .inl (SqL.of upd_same), fun l hl => ⟨l, (ns.drop (HT.sIx ns.length 0 none)).take (HT.sIx ns.length ns.length (some 12) - HT.sIx ns.length 0 none), rfl, (same_upd nc).trans (same_upd hl), (same_upd nc).free hl, ?_, ?_⟩⟩⟩
      · rw [upd_same, cut_ints]
      · rw [cut_len]
        rw [HT.sIx_none, show HT.sIx ns.length ns.length (some 12) = min 12 ns.length from HT.sIx_nat ns.length ns.length 12]
        omega
    rintro σ H1 ⟨c, cs, rfl, s1, nc, hC, lC⟩
    have hS1 : SqL K H1 a (ns.map V.int) := s1.seq hS
    refine ⟨.ref a, rfl, 12, rfl, 63, rfl, a, ns.map V.int, rfl, hS1, fun d nd => ⟨d, _, rfl, SqL.of upd_same, ?_⟩⟩
    have s2 : Same H1 (upd H1 d (.lst (cutV (ns.map V.int) (some 12) (some 63)))) := same_upd nd
    rw [cut_ints] at s2 ⊢
    have l2 := cut_len ns (some 12) (some 63)
    rw [show HT.sIx ns.length 0 (some 12) = min 12 ns.length from HT.sIx_nat ns.length 0 12] at l2 s2 ⊢
    have hd : (upd H1 d (.lst ((List.take (HT.sIx ns.length ns.length (some 63) - min 12 ns.length) (List.drop (min 12 ns.length) ns)).map V.int))) d = some (.lst ((List.take (HT.sIx ns.length ns.length (some 63) - min 12 ns.length) (List.drop (min 12 ns.length) ns)).map V.int)) := upd_same
    generalize (List.take (HT.sIx ns.length ns.length (some 63) - min 12 ns.length) (List.drop (min 12 ns.length) ns)) = ds at s2 l2 hd ⊢
    have ncd : c ≠ d := ne_of_none hC nd
    refine for_it (walk_enum (K := K) (a := d) (xs := ds.map V.int)) (fun i σ H' => ∃ (v2 v3 : Option V) (cs : List Int), σ = [some (.ref a), some (.ref c), v2, v3] ∧ Same H H' ∧ H' c = some (.lst (cs.map V.int)) ∧ cs.length = min 12 ns.length ∧ H' d = some (.lst (ds.map V.int)))
      ⟨none, none, cs, rfl, s1.trans s2, s2 _ _ hC, lC, hd⟩ ?_ ?_ ?_
    · rintro i σ H' _ ⟨_, _, _, _, _, _, _, h⟩
      exact SqL.of h
    · rintro i x σ H' H'' hi ⟨v2, v3, cs, rfl, s3, hC, lC, hD⟩ ⟨T, x1, y, rfl, nT, rfl, ex, ey⟩
      obtain rfl : V.int (i : Nat) = x1 := Option.some.inj ex
      obtain ⟨hi2, z, rfl⟩ := int_of ey
      have c12 : cs.length = 12 := by omega
      have sT : Same H' (upd H' T (.tup [.int (i : Nat), .int z])) := same_upd nT
      have hC' := sT _ _ hC
      have m0 := Int.emod_nonneg ((i : Nat) : Int) (show (12 : Int) ≠ 0 by decide)
      have m1 := Int.emod_lt_of_pos ((i : Nat) : Int) (show (0 : Int) < 12 by decide)
      obtain ⟨u, hu⟩ := atI_int (cs := cs) m0 (by omega)
      refine ⟨T, _, rfl, SqT.of upd_same, rfl, _, _, rfl, _, _, rfl, rfl, ?_⟩
      refine ⟨_, rfl, _, rfl, .inl ⟨_, rfl, _, _, rfl, rfl, (by show (0 : Int) < 12; decide), c, _, _, _, rfl, rfl, SqL.of hC', hu, _, rfl, _, _, rfl, rfl, _, rfl, _, rfl, .inl ⟨_, rfl, _, _, rfl, rfl, (by show (0 : Int) < 12; decide), c, _, _, _, rfl, rfl, hC', ixN_of m0 (by rw [List.length_map]; omega), ?_⟩⟩⟩
      refine ⟨_, _, cs.set ((i : Int) % 12).toNat (u + z), rfl, fun b o e => ?_, ?_, by rw [List.length_set]; exact lC, ?_⟩
      · have nb : b ≠ c := fun q => by
          rw [q, nc] at e
          cases e
        rw [upd_ne nb]
        exact sT _ _ (s3 _ _ e)
      · rw [upd_same, List.map_set]
      · rw [upd_ne ncd.symm]
        exact sT _ _ hD
    · rintro σ H' ⟨v2, v3, cs, rfl, s3, hC, lC, hD⟩
      refine ⟨_, rfl, (by show 3 ≤ sizeLine; decide), fun p hp => q _ p (s3.trans (same_upd hp)) (s3.free hp) ⟨c, cs, 0, 0, upd_same, ?_, ne_of_none hC hp, by omega, by decide, by decide, by decide⟩⟩
      exact same_upd hp _ _ hC
theorem ok_take (T : PenTxt K mg f1 f2 f3 f4 d1 d2 d3 d4) {k : Nat} : FnOk P w K mg base CX0 (k + 2) f3 d3 ["pen", "many"] spTake := by
  have F := T.FTake
  have GS : FnOk P w K mg base CX0 (k + 1) f1 d1 ["cell", "at"] spSpread := ok_spread T
  refine F.ok scTake (fun vs H Q E h => ?_) (fun cdv A outer s H vs Q E hr h => ?_)
  · obtain ⟨c, a, n, rfl, _⟩ := h
    rfl
  · obtain ⟨p, many, n, rfl, hP, hn, m0, m1, q⟩ := h
    refine ⟨_, (Evl.pss_cut (ps_if (pt_cmpR op_lt (pe_ix ix_list (pv 0) pe_int (fun _ _ => rfl)) (pv 1) (nomark _)) (pss_cons (ps_set (i := 2) scTake.nd rfl (.inl rfl) (pe_ix ix_list (pv 0) pe_int (fun _ _ => rfl)))
 (pss_cons (ps_set (i := 3) scTake.nd rfl (.inl rfl) pe_int)
 (Evl.pss_cut (ps_if (pt_cmpR op_lt (pv 2) (pe_callB call_len_seq (by rfl) T.len PySem.boot_len (pa_cons (pe_ix ix_list (pv 0) pe_int (fun _ _ => rfl)) pa_nil)) (nomark _)) (pss_one (ps_set (i := 3) scTake.nd rfl (.inl rfl) (pe_ix ix_list (pe_ix ix_list (pv 0) pe_int (fun _ _ => rfl)) (pv 2) (fun _ _ => rfl)))) (pss_one (ps_if (pt_cmpR op_gt (pe_callB call_len_seq (by rfl) T.len PySem.boot_len (pa_cons (pe_ix ix_list (pv 0) pe_int (fun _ _ => rfl)) pa_nil)) pe_int (nomark _)) (pss_one (ps_set (i := 3) scTake.nd rfl (.inl rfl) (pe_op op_mod (pe_callTy call_int1 (by rfl) T.int (by decide +kernel) (pa_cons (pe_ix ix_list (pe_ix ix_list (pv 0) pe_int (fun _ _ => rfl)) (pe_op op_mod (pe_callTy call_int1 (by rfl) T.int (by decide +kernel) (pa_cons (pe_op op_add (pe_op op_mul (pv 2) pe_int) pe_int) pa_nil)) (pe_callB call_len_seq (by rfl) T.len PySem.boot_len (pa_cons (pe_ix ix_list (pv 0) pe_int (fun _ _ => rfl)) pa_nil))) (fun _ _ => rfl)) pa_nil)) (pe_op op_add (pe_op op_pow pe_int pe_int) (pv 2))))) pss_nil)))
 (pss_cons (ps_asg (pe_op op_add (pv 2) pe_int) (pg_sub (pv 0) pe_int set_list))
 (pss_one (ps_asg (pe_call GS hr (by rfl) T.gSpread T.FSpread.kp T.bSpread .nil pass0 (pa_cons (pv 3) (pa_cons (pv 2) pa_nil))) (pg_sub (pv 0) pe_int set_list))))))) pss_nil)
 (pss_cons (ps_set (i := 4) scTake.nd rfl (.inl rfl) (pe_op op_mod (pe_callTy call_int1 (by rfl) T.int (by decide +kernel) (pa_cons (pe_ix ix_list (pv 0) pe_int (fun _ _ => rfl)) pa_nil)) (pv 1)))
 (pss_cons (ps_asg (pe_op op_fdivW (pe_ix ix_list (pv 0) pe_int (fun _ _ => rfl)) (pv 1)) (pg_sub (pv 0) pe_int set_list))
 (pss_one (ps_ret (pv 4)))))), ?_⟩
    obtain ⟨c, cs, a, r, hp, hc, ncp, lc, a0, a1, r0⟩ := hP.ex
    refine ⟨fun σ H' => ∃ v2 v3, σ = [some (.ref p), some (.int many), v2, v3, none] ∧ But p H H' ∧ Pen H' p (n + 1), ?_, ?_⟩
    · refine ⟨_, rfl, p, _, 2, .int r, rfl, rfl, SqL.of hp, atI_nat (j := 2) rfl, _, rfl, _, _, rfl, rfl, _, rfl, ite2 (fun _ => ?_) (fun _ => ?_)⟩
      · refine ⟨_, rfl, p, _, 1, .int a, rfl, rfl, SqL.of hp, atI_nat (j := 1) rfl, ?_⟩
        refine ⟨fun σ H' => ∃ z : Int, σ = [some (.ref p), some (.int many), some (.int a), some (.int z), none] ∧ H' = H, ?_, ?_⟩
        · refine ⟨_, rfl, _, rfl, p, _, 0, .ref c, rfl, rfl, SqL.of hp, atI_nat (j := 0) rfl, c, _, rfl, .inl (SqL.of hc), _, _, rfl, rfl, _, rfl, ite2 (fun e => ?_) (fun e => ?_)⟩
          · have e' := of_decide_eq_true e
            rw [List.length_map] at e'
            obtain ⟨z, hz⟩ := atI_int (cs := cs) a0 e'
            exact ⟨_, rfl, p, _, 0, .ref c, rfl, rfl, SqL.of hp, atI_nat (j := 0) rfl, _, rfl, c, _, _, _, rfl, rfl, SqL.of hc, hz, z, rfl, rfl⟩
          · refine ⟨_, rfl, p, _, 0, .ref c, rfl, rfl, SqL.of hp, atI_nat (j := 0) rfl, c, _, rfl, .inl (SqL.of hc), _, _, rfl, rfl, _, rfl, ite2 (fun e => ?_) (fun e => ?_)⟩
            · have e' := of_decide_eq_true e
              rw [List.length_map] at e'
              have k0 := Int.emod_nonneg (a * 5 + 3) (show (cs.length : Int) ≠ 0 by omega)
              have k1 := Int.emod_lt_of_pos (a * 5 + 3) e'
              obtain ⟨z, hz⟩ := atI_int (cs := cs) k0 k1
              have el : (List.map V.int cs).length = cs.length := List.length_map ..
              refine ⟨_, rfl, p, _, 0, .ref c, rfl, rfl, SqL.of hp, atI_nat (j := 0) rfl, _, rfl, _, _, rfl, rfl, .inr ⟨by decide, by decide⟩, _, _, rfl, rfl, .inl ⟨_, rfl, _, rfl, p, _, 0, .ref c, rfl, rfl, SqL.of hp, atI_nat (j := 0) rfl, c, _, rfl, .inl (SqL.of hc), _, _, rfl, rfl, (by rw [el]; exact e'), c, _, _, _, rfl, rfl, SqL.of hc, (by rw [el]; exact hz), .inl ⟨_, rfl, _, _, rfl, rfl, ⟨by decide, by decide, by decide⟩, _, rfl, _, _, rfl, rfl, _, _, rfl, rfl, ?_, _, rfl, rfl⟩⟩⟩
              have : (10 : Int) ^ (17 : Int).toNat = 100000000000000000 := by decide
              show 0 < (10 : Int) ^ (17 : Int).toNat + a
              omega
            · exact ⟨0, rfl, rfl⟩
        rintro σ H ⟨z, rfl, rfl⟩
        refine ⟨_, rfl, _, _, rfl, rfl, _, rfl, p, _, 1, 1, rfl, rfl, hp, rfl, ?_⟩
        refine ⟨_, rfl, _, rfl, z, a, rfl, a0, by omega, fun H2 r2 s2 r20 => ?_⟩
        have hp2 := s2 _ _ upd_same
        refine ⟨_, rfl, p, _, 2, 2, rfl, rfl, hp2, rfl, _, _, rfl, ?_, ⟨c, cs, a + 1, r2, upd_same, ?_, ncp, lc, by omega, by omega, r20⟩⟩
        · exact (but_upd.trans (But.of s2)).trans but_upd
        · rw [upd_ne ncp]
          exact s2 _ _ (by rw [upd_ne ncp]; exact hc)
      · exact ⟨_, _, rfl, fun _ _ _ e => e, hP.mono (Nat.le_succ n)⟩
    rintro σ H1 ⟨v2, v3, rfl, b1, hP1⟩
    obtain ⟨c, cs, a, r, hp, hc, ncp, lc, a0, a1, r0⟩ := hP1.ex
    refine ⟨_, rfl, p, _, 2, .int r, rfl, rfl, SqL.of hp, atI_nat (j := 2) rfl, .inl ⟨_, rfl, _, rfl, _, _, rfl, rfl, m0, ?_⟩⟩
    refine ⟨_, rfl, p, _, 2, .int r, rfl, rfl, SqL.of hp, atI_nat (j := 2) rfl, _, rfl, _, _, rfl, rfl, ⟨m0, m1⟩, _, rfl, p, _, 2, 2, rfl, rfl, hp, rfl, ?_⟩
    refine ⟨_, rfl, q _ _ (b1.trans but_upd) ⟨c, cs, a, r / many, upd_same, ?_, ncp, lc, a0, a1, Int.ediv_nonneg r0 (Int.le_of_lt m0)⟩ (Int.emod_nonneg _ (by omega)) (Int.emod_lt_of_pos _ m0)⟩
    rw [upd_ne ncp]
    exact hc
theorem ok_pick (T : PenTxt K mg f1 f2 f3 f4 d1 d2 d3 d4) {k : Nat} : FnOk P w K mg base CX0 (k + 3) f4 d4 ["pen", "some"] (spPick K) := by
  have F := T.FPick
  have GT : FnOk P w K mg base CX0 (k + 2) f3 d3 ["pen", "many"] spTake := ok_take T
  refine F.ok scPick (fun vs H Q E h => ?_) (fun cdv A outer s H vs Q E hr h => ?_)
  · obtain ⟨c, a, xs, n, rfl, _⟩ := h
    rfl
  · obtain ⟨p, l, xs, n, rfl, hP, hn, hS, nlp, l0, l1, q⟩ := h
    refine ⟨_, (pss_one (ps_ret (pe_ix ix_list (pv 1) (pe_call GT hr (by rfl) T.gTake T.FTake.kp T.bTake .nil pass0 (pa_cons (pv 0) (pa_cons (pe_callB call_len_seq (by rfl) T.len PySem.boot_len (pa_cons (pv 1) pa_nil)) pa_nil))) (fun _ _ => rfl)))), ?_⟩
    refine ⟨_, rfl, _, rfl, _, rfl, l, xs, rfl, .inl hS, p, _, n, rfl, hP, hn, by omega, ?_, fun H1 k b1 hP1 k0 k1 => ?_⟩
    · have h2 : ((xs.length : Int)).natAbs ≤ 1000 := by omega
      have h3 : ((xs.length : Int)).natAbs.log2 ≤ ((xs.length : Int)).natAbs := Nat.log2_le_self _
      omega
    · have hk : k.toNat < xs.length := by omega
      have e : xs[k.toNat]? = some xs[k.toNat] := List.getElem?_eq_getElem hk
      have hS1 : SqL K H1 l xs := by
        rcases hS with (h | ⟨o, h⟩) | h
        · exact .inl (.inl (b1 _ _ nlp h))
        · exact .inl (.inr ⟨o, b1 _ _ nlp h⟩)
        · exact .inr h
      exact ⟨l, xs, k, _, rfl, rfl, hS1, at_of (by omega) e, q H1 k.toNat _ b1 hP1 e⟩
end
end My
/-! ### the pen with its cells at c -/
namespace My
open PySem PySem.Spec PyProof.Rows L2
structure PenC (H : Hp) (p c : Addr) (n : Nat) : Prop where
  ex : ∃ (cs : List Int) (a r : Int), H p = some (.lst [.ref c, .int a, .int r]) ∧ H c = some (.lst (cs.map V.int)) ∧ c ≠ p ∧ cs.length ≤ 12 ∧ 0 ≤ a ∧ a ≤ (n : Int) ∧ 0 ≤ r
theorem PenC.pen {H : Hp} {p c : Addr} {n : Nat} (h : PenC H p c n) : Pen H p n := by
  obtain ⟨cs, a, r, h1⟩ := h.ex
  exact ⟨c, cs, a, r, h1⟩
theorem Pen.at {H : Hp} {p : Addr} {n : Nat} (h : Pen H p n) : ∃ c, PenC H p c n := by
  obtain ⟨c, cs, a, r, h1⟩ := h.ex
  exact ⟨c, cs, a, r, h1⟩
theorem PenC.mono {H : Hp} {p c : Addr} {n m : Nat} (h : PenC H p c n) (l : n ≤ m) : PenC H p c m := by
  obtain ⟨cs, a, r, h1, h2, h3, h4, h5, h6, h7⟩ := h.ex
  exact ⟨cs, a, r, h1, h2, h3, h4, h5, by omega, h7⟩
theorem PenC.keep {H H' : Hp} {p c : Addr} {n : Nat} (h : PenC H p c n) (hp : ∀ o, H p = some o → H' p = some o) (hc : ∀ o, H c = some o → H' c = some o) : PenC H' p c n := by
  obtain ⟨cs, a, r, h1, h2, h3⟩ := h.ex
  exact ⟨cs, a, r, hp _ h1, hc _ h2, h3⟩
def spTakeC : Sp := fun vs H Q _ => ∃ (p c : Addr) (many : Int) (n : Nat), vs = [.ref p, .int many] ∧ PenC H p c n ∧ n < 1048000 ∧ 0 < many ∧ many.natAbs.log2 < 9000 ∧ ∀ H' k, But p H H' → PenC H' p c (n + 1) → 0 ≤ k → k < many → Q (.int k) H'
section
variable {P : Program} {w : World} {K : PySem.W.Frag} {mg : Str → Option Value} {base : Heap} {f1 f2 f3 f4 : Addr} {d1 d2 d3 d4 : FuncData}
theorem ok_takeC (T : PenTxt K mg f1 f2 f3 f4 d1 d2 d3 d4) {k : Nat} : FnOk P w K mg base CX0 (k + 2) f3 d3 ["pen", "many"] spTakeC := by
  have F := T.FTake
  have GS : FnOk P w K mg base CX0 (k + 1) f1 d1 ["cell", "at"] spSpread := ok_spread T
  refine F.ok scTake (fun vs H Q E h => ?_) (fun cdv A outer s H vs Q E hr h => ?_)
  · obtain ⟨p, c, many, n, rfl, _⟩ := h
    rfl
  · obtain ⟨p, c, many, n, rfl, hP, hn, m0, m1, q⟩ := h
    refine ⟨_, (Evl.pss_cut (ps_if (pt_cmpR op_lt (pe_ix ix_list (pv 0) pe_int (fun _ _ => rfl)) (pv 1) (nomark _)) (pss_cons (ps_set (i := 2) scTake.nd rfl (.inl rfl) (pe_ix ix_list (pv 0) pe_int (fun _ _ => rfl)))
 (pss_cons (ps_set (i := 3) scTake.nd rfl (.inl rfl) pe_int)
 (Evl.pss_cut (ps_if (pt_cmpR op_lt (pv 2) (pe_callB call_len_seq (by rfl) T.len PySem.boot_len (pa_cons (pe_ix ix_list (pv 0) pe_int (fun _ _ => rfl)) pa_nil)) (nomark _)) (pss_one (ps_set (i := 3) scTake.nd rfl (.inl rfl) (pe_ix ix_list (pe_ix ix_list (pv 0) pe_int (fun _ _ => rfl)) (pv 2) (fun _ _ => rfl)))) (pss_one (ps_if (pt_cmpR op_gt (pe_callB call_len_seq (by rfl) T.len PySem.boot_len (pa_cons (pe_ix ix_list (pv 0) pe_int (fun _ _ => rfl)) pa_nil)) pe_int (nomark _)) (pss_one (ps_set (i := 3) scTake.nd rfl (.inl rfl) (pe_op op_mod (pe_callTy call_int1 (by rfl) T.int (by decide +kernel) (pa_cons (pe_ix ix_list (pe_ix ix_list (pv 0) pe_int (fun _ _ => rfl)) (pe_op op_mod (pe_callTy call_int1 (by rfl) T.int (by decide +kernel) (pa_cons (pe_op op_add (pe_op op_mul (pv 2) pe_int) pe_int) pa_nil)) (pe_callB call_len_seq (by rfl) T.len PySem.boot_len (pa_cons (pe_ix ix_list (pv 0) pe_int (fun _ _ => rfl)) pa_nil))) (fun _ _ => rfl)) pa_nil)) (pe_op op_add (pe_op op_pow pe_int pe_int) (pv 2))))) pss_nil)))
 (pss_cons (ps_asg (pe_op op_add (pv 2) pe_int) (pg_sub (pv 0) pe_int set_list))
 (pss_one (ps_asg (pe_call GS hr (by rfl) T.gSpread T.FSpread.kp T.bSpread .nil pass0 (pa_cons (pv 3) (pa_cons (pv 2) pa_nil))) (pg_sub (pv 0) pe_int set_list))))))) pss_nil)
 (pss_cons (ps_set (i := 4) scTake.nd rfl (.inl rfl) (pe_op op_mod (pe_callTy call_int1 (by rfl) T.int (by decide +kernel) (pa_cons (pe_ix ix_list (pv 0) pe_int (fun _ _ => rfl)) pa_nil)) (pv 1)))
 (pss_cons (ps_asg (pe_op op_fdivW (pe_ix ix_list (pv 0) pe_int (fun _ _ => rfl)) (pv 1)) (pg_sub (pv 0) pe_int set_list))
 (pss_one (ps_ret (pv 4)))))), ?_⟩
    obtain ⟨cs, a, r, hp, hc, ncp, lc, a0, a1, r0⟩ := hP.ex
    refine ⟨fun σ H' => ∃ v2 v3, σ = [some (.ref p), some (.int many), v2, v3, none] ∧ But p H H' ∧ PenC H' p c (n + 1), ?_, ?_⟩
    · refine ⟨_, rfl, p, _, 2, .int r, rfl, rfl, SqL.of hp, atI_nat (j := 2) rfl, _, rfl, _, _, rfl, rfl, _, rfl, ite2 (fun _ => ?_) (fun _ => ?_)⟩
      · refine ⟨_, rfl, p, _, 1, .int a, rfl, rfl, SqL.of hp, atI_nat (j := 1) rfl, ?_⟩
        refine ⟨fun σ H' => ∃ z : Int, σ = [some (.ref p), some (.int many), some (.int a), some (.int z), none] ∧ H' = H, ?_, ?_⟩
        · refine ⟨_, rfl, _, rfl, p, _, 0, .ref c, rfl, rfl, SqL.of hp, atI_nat (j := 0) rfl, c, _, rfl, .inl (SqL.of hc), _, _, rfl, rfl, _, rfl, ite2 (fun e => ?_) (fun e => ?_)⟩
          · have e' := of_decide_eq_true e
            rw [List.length_map] at e'
            obtain ⟨z, hz⟩ := atI_int (cs := cs) a0 e'
            exact ⟨_, rfl, p, _, 0, .ref c, rfl, rfl, SqL.of hp, atI_nat (j := 0) rfl, _, rfl, c, _, _, _, rfl, rfl, SqL.of hc, hz, z, rfl, rfl⟩
          · refine ⟨_, rfl, p, _, 0, .ref c, rfl, rfl, SqL.of hp, atI_nat (j := 0) rfl, c, _, rfl, .inl (SqL.of hc), _, _, rfl, rfl, _, rfl, ite2 (fun e => ?_) (fun e => ?_)⟩
            · have e' := of_decide_eq_true e
              rw [List.length_map] at e'
              have k0 := Int.emod_nonneg (a * 5 + 3) (show (cs.length : Int) ≠ 0 by omega)
              have k1 := Int.emod_lt_of_pos (a * 5 + 3) e'
              obtain ⟨z, hz⟩ := atI_int (cs := cs) k0 k1
              have el : (List.map V.int cs).length = cs.length := List.length_map ..
              refine ⟨_, rfl, p, _, 0, .ref c, rfl, rfl, SqL.of hp, atI_nat (j := 0) rfl, _, rfl, _, _, rfl, rfl, .inr ⟨by decide, by decide⟩, _, _, rfl, rfl, .inl ⟨_, rfl, _, rfl, p, _, 0, .ref c, rfl, rfl, SqL.of hp, atI_nat (j := 0) rfl, c, _, rfl, .inl (SqL.of hc), _, _, rfl, rfl, (by rw [el]; exact e'), c, _, _, _, rfl, rfl, SqL.of hc, (by rw [el]; exact hz), .inl ⟨_, rfl, _, _, rfl, rfl, ⟨by decide, by decide, by decide⟩, _, rfl, _, _, rfl, rfl, _, _, rfl, rfl, ?_, _, rfl, rfl⟩⟩⟩
              have : (10 : Int) ^ (17 : Int).toNat = 100000000000000000 := by decide
              show 0 < (10 : Int) ^ (17 : Int).toNat + a
              omega
            · exact ⟨0, rfl, rfl⟩
        rintro σ H ⟨z, rfl, rfl⟩
        refine ⟨_, rfl, _, _, rfl, rfl, _, rfl, p, _, 1, 1, rfl, rfl, hp, rfl, ?_⟩
        refine ⟨_, rfl, _, rfl, z, a, rfl, a0, by omega, fun H2 r2 s2 r20 => ?_⟩
        have hp2 := s2 _ _ upd_same
        refine ⟨_, rfl, p, _, 2, 2, rfl, rfl, hp2, rfl, _, _, rfl, ?_, ⟨cs, a + 1, r2, upd_same, ?_, ncp, lc, by omega, by omega, r20⟩⟩
        · exact (but_upd.trans (But.of s2)).trans but_upd
        · rw [upd_ne ncp]
          exact s2 _ _ (by rw [upd_ne ncp]; exact hc)
      · exact ⟨_, _, rfl, fun _ _ _ e => e, hP.mono (Nat.le_succ n)⟩
    rintro σ H1 ⟨v2, v3, rfl, b1, hP1⟩
    obtain ⟨cs, a, r, hp, hc, ncp, lc, a0, a1, r0⟩ := hP1.ex
    refine ⟨_, rfl, p, _, 2, .int r, rfl, rfl, SqL.of hp, atI_nat (j := 2) rfl, .inl ⟨_, rfl, _, rfl, _, _, rfl, rfl, m0, ?_⟩⟩
    refine ⟨_, rfl, p, _, 2, .int r, rfl, rfl, SqL.of hp, atI_nat (j := 2) rfl, _, rfl, _, _, rfl, rfl, ⟨m0, m1⟩, _, rfl, p, _, 2, 2, rfl, rfl, hp, rfl, ?_⟩
    refine ⟨_, rfl, q _ _ (b1.trans but_upd) ⟨cs, a, r / many, upd_same, ?_, ncp, lc, a0, a1, Int.ediv_nonneg r0 (Int.le_of_lt m0)⟩ (Int.emod_nonneg _ (by omega)) (Int.emod_lt_of_pos _ m0)⟩
    rw [upd_ne ncp]
    exact hc
end
end My
/-! ### promises of defs that show data: they are called where nothing is being shown -/
namespace My
open PySem PySem.Spec PyProof.Rows L2
/-- a def's promise, at the surroundings A alone -/
def RunAt (P : Program) (w : World) (K : PySem.W.Frag) (mg : Str → Option Value) (base : Heap) (CX : CXT) (f : Addr) (fd : FuncData) (ps : List Str) (sp : Sp) (A : Around) : Prop :=
  ∀ (out : List Env) (st : Shared) (G : Hp) (ar : Args) (uu : List Value) (vv : List V) (R : VK) (W : XK), Env0 P w K mg base A out st G →
    BindsTo st fd ar (ps.zip uu) → Vals vv uu → sp vv G R W → codeAny (model P w) A (.call (.ref f) ar) (CR CX out P w G st R W) st
/-- .. wherever nothing is being shown -/
structure FnG (P : Program) (w : World) (K : PySem.W.Frag) (mg : Str → Option Value) (base : Heap) (CX : CXT) (k : Nat) (f : Addr) (fd : FuncData) (ps : List Str) (sp : Sp) : Prop where
  len : ∀ vs H Q E, sp vs H Q E → vs.length = ps.length
  run : ∀ A : Around, A.guards = some [] → Room k A → RunAt P w K mg base CX f fd ps sp A
section
variable {P : Program} {w : World} {K : PySem.W.Frag} {mg : Str → Option Value} {base : Heap} {CX : CXT}
theorem FnG.of {k : Nat} {f : Addr} {fd : FuncData} {ps : List Str} {sp : Sp} (F : FnOk P w K mg base CX k f fd ps sp) : FnG P w K mg base CX k f fd ps sp :=
  ⟨F.len, fun A _ hr out st G ar uu vv R W e0 hb r h => F.run A out st G ar uu vv R W hr e0 hb r h⟩
theorem Fun.okG {x qual : Str} {st : Stmt} {f : Addr} {fd : FuncData} {N ps : List Str} {k : Nat} {sp : Sp} (F : Fun K x qual st f fd) (S : FnScope N ps (defScope st))
    (len : ∀ vs H Q E, sp vs H Q E → vs.length = ps.length)
    (hbody : ∀ (cdv : Value) (A : Around) (outer : List Env) (s : Shared) (H : Hp) (vs : List V) (Q : VK) (E : XK), A.guards = some [] → Room k (A.deeper (envOfC qual (defScope st) s.heap.objs.size f cdv)) → sp vs H Q E →
      ∃ t, PSs (cxOf CX P w K mg base N qual (defScope st) f cdv A outer s H E) (defBody st) t ∧ t { nx := fun _ H' => Q .non H', rt := Q } (start N vs) H) :
    FnG P w K mg base CX (k + 1) f fd ps sp := by
  obtain ⟨oc, od, kV, doc, pm, an, cdv, ct, osl, hfd, lk, hcode⟩ := F.ex
  subst hfd
  refine ⟨len, fun A hgd room out st' G ar uu vv R W e0 hb rv hs => ?_⟩
  have hlen := len _ _ _ _ hs
  have kin := e0.mod.kin.keeps fun b o e => (e0.bs b o e).1
  have nolim := e0.mod.nolimit.keeps fun b o e => (e0.bs b o e).1
  refine codeAny_call_function room.depth (kin _ _ lk) rfl S.co S.gen rfl (PySem.W.codeRec_of kin hcode) (hb _ _ _ _ ?_)
  refine wpAny_newFunctionEnv_cells S.kind (fun ⟨n, v⟩ hmem => ?kinds) fun env' heq s2 x2 => ?_
  case kinds =>
    cases S.par n (List.of_mem_zip hmem).1 with
    | inl q => exact .inl q
    | inr q => exact .inr ⟨q, PySem.W.cellsFrom_some _ _ _ (.inl q)⟩
  subst heq
  refine ⟨nolim.keeps x2.toInCall.keep, codeAny_func ?_⟩
  obtain ⟨t, der, reading⟩ := hbody cdv A out st' G vv R W hgd (room.deeper _) hs
  refine wpAny_mono (der.run [] s2 (start N vv) G _ (inv_start S room.hd e0 hlen rv x2) reading) (fun fl s3 end3 => ?_) fun _ _ end3 => end3
  cases fl with
  | next =>
    obtain ⟨_, G', J, q⟩ := end3
    exact ⟨V.non, G', J.os, J.bare, J.base, J.hok, rfl, q⟩
  | ret u =>
    obtain ⟨v, _, G', J, rv', q⟩ := end3
    exact ⟨v, G', J.os, J.bare, J.base, J.hok, rv', q⟩
  | brk => exact (let ⟨_, _, _, q⟩ := end3; False.elim q)
  | cont => exact (let ⟨_, _, _, q⟩ := end3; False.elim q)
end
section
variable {X : Cx} {k : Nat} {f : Addr} {fd : FuncData} {ps : List Str} {sp : Sp} {E : XK} {x : Str} {p pos : Pos} {e : Expr} {es : List Expr} {t : TA} {CX : CXT} {dvs : List V} {ds : List Value}
/-- a call of a def that shows data -/
theorem pe_callG (F : FnG X.prog X.w X.K X.mg X.base CX k f fd ps sp) (hgd : X.A.guards = some []) (hr : Room k X.A) (hg : Gl X x) (hm : X.mg x = some (.ref f)) (hk : PySem.W.keepIn X.K (.ref f) = true) (hb : Binds X.K fd ps ds) (hd : Vals dvs ds) (hx : Passes CX X E)
    (ha : PA X (e :: es) t) (hdb : (x == ("__debug__" : Str)) = false := by decide)
    (he : starEach (e :: es) X.env = (false, eval e X.env) :: starEach es X.env := by rfl)
    (hpl : (backTo pos (starEach es X.env)).any (·.1) = false := by rfl) : PE X (.Call (.Name x p) (e :: es) [] pos) (tCall sp dvs E t) := by
  constructor
  intro pins s σ H Q I h
  refine wpAny_Call_Name_kw (ld_glob I hg hm ?_ hdb)
  refine PySem.W.callWith_K (h₀ := X.base) I.ok.mod.kin hk (thn (ha.run pos pins s σ H _ I h) fun us s1 hh => ?_) he hpl
  obtain ⟨vs, H1, J, r, q⟩ := hh
  refine ⟨J.kIn, ?_⟩
  have r2 := r.append hd
  have hl : (us ++ ds).length = ps.length := r2.length.symm.trans (F.len _ _ _ _ q)
  refine wpAny_call (codeAny_mono (F.run X.A hgd hr X.stack s1 H1 ⟨us, []⟩ (us ++ ds) (vs ++ dvs) _ _ J.env0 (hb s1 us J.kIn hl) r2 q) fun res s2 hq => ?_)
  match res, hq with
  | .error e', hq => exact hx pins σ H1 s1 e' s2 J hq
  | .ok (.ret u), hq => exact J.after hq
  | .ok .next, hq => exact hq.elim
  | .ok .brk, hq => exact hq.elim
  | .ok .cont, hq => exact hq.elim
/-! ### repr of data -/
mutual
theorem dp_nodict {K : PySem.W.Frag} {H : Hp} : ∀ {v : V} {d : PyData}, Dp K H v d → d.hasDict = false
  | _, _, .non => by simp [PyData.hasDict]
  | _, _, .bl _ => by simp [PyData.hasDict]
  | _, _, .int _ => by simp [PyData.hasDict]
  | _, _, .str _ => by simp [PyData.hasDict]
  | _, _, .lst _ h => by simpa [PyData.hasDict] using dps_nodict h
  | _, _, .tup _ h => by simpa [PyData.hasDict] using dps_nodict h
theorem dps_nodict {K : PySem.W.Frag} {H : Hp} : ∀ {vs : List V} {ds : List PyData}, DpAll K H vs ds → PyData.hasDictAll ds = false
  | _, _, .nil => by simp [PyData.hasDictAll]
  | _, _, .cons h t => by simp [PyData.hasDictAll, dp_nodict h, dps_nodict t]
end
def rRepr (K : PySem.W.Frag) : List V → Hp → VK → Prop := fun xs H Q => ∃ x d, xs = [x] ∧ Dp K H x d ∧ d.showable = true ∧ d.depth ≤ 60 ∧ d.shown.length ≤ sizeLine ∧ Q (.str d.shown) H
theorem call_reprD (hgd : X.A.guards = some []) (hu : X.A.units + 64 < cLine) : CallR X (.builtin "repr") (rRepr X.K) := by
  intro pins s σ H xs us Q I r h
  obtain ⟨x, d, rfl, hd, hs, hdep, hz, q⟩ := h
  cases r with
  | @cons _ u _ _ ru rn =>
    cases rn
    obtain ⟨as, hr⟩ := Dp.reads I d x u hd ru
    have nod := dp_nodict hd
    cases hd with
    | non =>
      obtain rfl : u = Value.none := ru
      exact PySem.P.repr_of_none ⟨.str _, H, I.tok _, ⟨_, rfl⟩, by simpa only [PyData.shown] using q⟩
    | bl b =>
      obtain rfl : u = Value.bool b := ru
      exact PySem.P.repr_of_bool ⟨.str _, H, I.tok _, ⟨_, rfl⟩, by simpa only [PyData.shown] using q⟩
    | int i =>
      obtain ⟨t, rfl⟩ := ru
      exact PySem.P.repr_of_int (by simpa [PyData.showable] using hs) ⟨.str _, H, I.tok _, ⟨_, rfl⟩, by simpa only [PyData.shown] using q⟩
    | str z =>
      obtain ⟨t, rfl⟩ := ru
      exact PySem.P.repr_of_str ⟨.str _, H, I.tok _, ⟨_, rfl⟩, by simpa only [PyData.shown] using q⟩ (by simpa only [PyData.shown] using hz)
    | @lst a _ ds h1 h2 =>
      obtain rfl : u = Value.ref a := ru
      exact PySem.repr_of_reads' hr hs (fun z => absurd (nod.symm.trans z) (by decide)) hgd (by omega) (fun _ _ e => e) (fun h' u tk hk => ⟨.str _, H, I.kept hk, ⟨_, rfl⟩, q⟩) hz
    | @tup a _ ds h1 h2 =>
      obtain rfl : u = Value.ref a := ru
      exact PySem.repr_of_reads' hr hs (fun z => absurd (nod.symm.trans z) (by decide)) hgd (by omega) (fun _ _ e => e) (fun h' u tk hk => ⟨.str _, H, I.kept hk, ⟨_, rfl⟩, q⟩) hz
end
end My
/-! ### the end of a law whose def shows data -/
namespace My
open PySem PySem.Spec PyProof.Rows L2
/-- the law's call at the head, from its promise there: nothing is tracked but the script -/
theorem law_callG {P : Program} {w : World} {K : PySem.W.Frag} {mg mb : Str → Option Value} {CX : CXT} {k : Nat} {fa a : Addr} {fd : FuncData} {x : Str} {sp : Sp} {st : Shared} {vs : List Value} {ns : List Int}
    (KX : K.In st.heap) (hns : st.heap.Ns mainGlobals mg) (hb : st.heap.Ns builtinsNs mb) (hbb : ∀ x : Str, x ≠ "__name__" → mb x = bootBuiltins x)
    (hlim : st.heap.NoLimit) (hg : st.gens = #[]) (ha : st.heap.get? a = some { cls := .type "list", data := .seq vs.toArray }) (hi : IntsAre vs ns) (hl : ns.length ≤ sizeLine) (hr : Room k callerA)
    (F : ∀ base : Heap, K.In base → base.Ns mainGlobals mg → FnG P w K mg base CX k fa fd [x] sp)
    (hbind : ∀ (s : Shared) (u : Value), BindsTo s fd ⟨[u], []⟩ [(x, u)])
    (hsp : ∀ H : Hp, Only H → SqL K H a (ns.map V.int) → sp [.ref a] H (fun v _ => v = .bl true) fun _ _ _ => False)
    (hCX : ∀ H e s', CX [] H st (fun _ _ _ => False) e s' → False) :
    codeAny (model P w) callerA (.call (.ref fa) ⟨[.ref a], []⟩) (fun r s' => r = .ok (.ret (.bool true)) ∧ OldK st.heap s'.heap ∧ s'.os = st.os ∧ AllBare s'.gens) st := by
  have vints := vals_ints hi
  have vlen := hi.length
  have main : ∀ H : Hp, Only H → SqL K H a (ns.map V.int) → HOk P w H st.heap → (∀ b, b ≠ a → H b = none) → (K.lookup a = none ∨ H a = none) →
      codeAny (model P w) callerA (.call (.ref fa) ⟨[.ref a], []⟩) (fun r s' => r = .ok (.ret (.bool true)) ∧ OldK st.heap s'.heap ∧ s'.os = st.os ∧ AllBare s'.gens) st := by
    intro H only scr hok off onK
    have dictFree : ∀ {b : Addr} {m : Str → Option Value}, st.heap.Ns b m → (hidT st.heap H).Ns b m := by
      rintro b m ⟨o, es, ep, e, d, r⟩
      by_cases z : b = a
      · rw [z, ha] at e
        cases e
        cases d
      · exact ⟨o, es, ep, hidT_get e (off b z), d, r⟩
    have kIn : K.In (hidT st.heap H) := by
      intro b o e
      by_cases z : b = a
      · rcases onK with q | q
        · rw [z, q] at e
          cases e
        · exact hidT_get (KX b o e) (by rw [z]; exact q)
      · exact hidT_get (KX b o e) (off b z)
    obtain ⟨mc, lim1, lim2⟩ := hlim
    have md : Mod K mg (hidT st.heap H) := ⟨kIn, dictFree hns, ⟨mb, dictFree hb, hbb⟩, ⟨mc, dictFree lim1, lim2⟩⟩
    have e0 : Env0 P w K mg (hidT st.heap H) callerA [] st H :=
      { frames := rfl, mod := md, bs := fun b o e => of_hidT e, bsz := Nat.le_of_eq (hidT_size _ _), funs := trivial, frf := fun b z => (nomatch z), hok := hok, bare := .of_eq hg }
    have run := (F _ kIn (dictFree hns)).run callerA rfl hr [] st H ⟨[.ref a], []⟩ [.ref a] [.ref a] _ _ e0 (hbind st (.ref a)) (.cons rfl .nil) (hsp H only scr)
    refine codeAny_mono run fun r s' h => ?_
    match r, h with
    | .error e, h => exact (hCX H e s' h).elim
    | .ok .next, h => exact h.elim
    | .ok .brk, h => exact h.elim
    | .ok .cont, h => exact h.elim
    | .ok (.ret u), h =>
      obtain ⟨v, H', os, bare, un, hok', rv, q⟩ := h
      obtain rfl : v = .bl true := q
      obtain rfl : u = Value.bool true := rv
      refine ⟨rfl, OldK.of_keep fun b o e => ?_, os, bare⟩
      cases q : H b with
      | none => exact un.keep b o e q (fun z => nomatch z) (fun z => nomatch z)
      | some u =>
        cases only b with
        | inl z => rw [q] at z; cases z
        | inr z =>
          obtain ⟨ob, xs, z⟩ := z
          have old := (hok b _ z).1
          rw [e] at old
          cases old
          exact (hok' b _ (un.frzs b _ _ z)).1
  cases hk : K.lookup a with
  | some o =>
    have e := KX a o hk
    rw [ha] at e
    cases e
    exact main (fun _ => none) (fun _ => .inl rfl) (.inr ⟨_, vs.toArray, _, hk, rfl, rfl, rfl, by rw [List.size_toArray, vlen]; exact hl, by simpa using vints⟩)
      (fun _ _ z => by cases z) (fun _ _ => rfl) (.inr rfl)
  | none =>
    have off : ∀ b, b ≠ a → (fun b => if b = a then some (HO.frz { cls := .type "list", data := .seq vs.toArray } (.lst (ns.map V.int))) else none) b = none := fun b z => if_neg z
    refine main (fun b => if b = a then some (.frz { cls := .type "list", data := .seq vs.toArray } (.lst (ns.map V.int))) else none) (fun b => ?_) (.inl (.inr ⟨_, if_pos rfl⟩)) (fun b u z => ?_) off (.inl hk)
    · by_cases z : b = a
      · exact .inr ⟨_, _, if_pos z⟩
      · exact .inl (off b z)
    · by_cases q : b = a
      · obtain rfl := Option.some.inj ((if_pos q).symm.trans z)
        rw [q]
        exact ⟨ha, by rw [List.length_map]; exact hl, vs, _, vints, ha⟩
      · rw [off b q] at z
        cases z
/-- what k_head leaves, from the law's promise -/
theorem walk_ofG {l : PySem.W.OpenLaw} {n k : Nat} {q : Program} {loose : List Str} {XP : (Str → Option Value) → Heap → Prop} {YP : World → Heap → Prop} {d : DefRec} {K : Params → PySem.W.Frag} {CX : World → CXT} {sp : World → Sp} {x : Str}
    (hn : l.most = some n) (hn2 : n ≤ sizeLine) (hdf : d.params.defaults = []) (hr : Room k callerA) (hY : ∀ (w : World) (h : Heap), YP w h → (K w.params).In h)
    (F : ∀ (w : World) (mg : Str → Option Value) (fa : Addr) (h : Heap), (K w.params).In h → h.Ns mainGlobals mg → mg d.name = some (.ref fa) → ∃ fd : FuncData, (∀ (s : Shared) (u : Value), BindsTo s fd ⟨[u], []⟩ [(x, u)]) ∧
        ∀ base : Heap, (K w.params).In base → base.Ns mainGlobals mg → FnG l.prog w (K w.params) mg base (CX w) k fa fd [x] (sp w))
    (hsp : ∀ (w : World) (H : Hp) (a : Addr) (ns : List Int), ns.length ≤ n → Only H → SqL (K w.params) H a (ns.map V.int) → sp w [.ref a] H (fun v _ => v = .bl true) fun _ _ _ => False)
    (hCX : ∀ (w : World) (H : Hp) (s : Shared) (e : Value) (s' : Shared), CX w [] H s (fun _ _ _ => False) e s' → False) : PySem.W.WalkO q loose XP YP l.row.toRowW d [] (fun f vs => PySem.call f vs) := by
  refine Att.attach_call hn hdf ?_
  intro w s₀ st mg mb fa o pm cd doc a vs ns G Y ho hd hcd hmg hobj hints hlen hg
  have KX := hY w _ Y
  obtain ⟨fd, hb, hF⟩ := F w mg fa _ KX G.T.g hmg
  exact law_callG KX G.T.g G.T.b G.T.builtins G.T.nolimit hg hobj hints (Nat.le_trans hlen hn2) hr hF hb (hsp w · a ns hlen) fun H => hCX w H st
end My
/-! ### == and != of two built-in classes -/
namespace My
open PySem PySem.Spec PyProof.Rows L2 PySem.TypeEq
theorem ty_ne1 : Slot "type" (cmpInfo .NotEq).2.1 "object.__ne__" := .of (owner := "object") (n := "__ne__")
  (by rw [typeLookup_type, builtinLookup_eq_fast]; kernel_rfl) (by decide +kernel) (by decide +kernel) (by decide +kernel) (by first | exact .inr (by decide +kernel) | exact .inl (by decide +kernel))
  (by rw [isSubtype_type]; kernel_rfl)
theorem ty_ne2 : Slot "type" (cmpInfo .NotEq).2.2 "object.__ne__" := .of (owner := "object") (n := "__ne__")
  (by rw [typeLookup_type, builtinLookup_eq_fast]; kernel_rfl) (by decide +kernel) (by decide +kernel) (by decide +kernel) (by first | exact .inr (by decide +kernel) | exact .inl (by decide +kernel))
  (by rw [isSubtype_type]; kernel_rfl)
section
variable {prog : Program} {w : World} {A : Around} {E : Value → Shared → Prop} {s : Shared}
theorem objNe_body {X : String} {b : Value} {Q : Fin → Shared → Prop} (hX : ∀ s' : Shared, s'.TypeIs (.type X) "type") (hv : [Value.type X, b].any Value.onHeap = false)
    (hc : wpAny (model prog w) A (call (.builtin "object.__eq__") [.type X, b]) (fun v s' => (v = .notImplemented ∧ Q (.done (.ret .notImplemented)) s') ∨ ∃ k, v = .bool k ∧ Q (.done (.ret (.bool (!k)))) s') E s) :
    wpAny (model prog w) A (Builtin.«object.__ne__» ⟨[.type X, b], []⟩) Q E s := by
  unfold Builtin.«object.__ne__»
  refine wpAny_bind (m := slotArgs "__ne__" 1 ⟨[.type X, b], []⟩) (wpAny_pure ?_)
  dsimp only
  refine wpAny_bind (wpAny_cRoomFor_or (.inl hv) ?_)
  refine wpAny_bind (m := callSpecialIfBound? (.type X) (Str.ofString "__eq__") [b]) (wpAny_callSpecialIfBound?_slot (T := "type") (hX s) slot_type_eq (wpAny_mono hc (fun v s' h => ?_) fun _ _ e => e))
  rcases h with ⟨rfl, h⟩ | ⟨k, rfl, h⟩
  · exact wpAny_pure h
  · exact wpAny_bind (wpAny_truthy_bool (wpAny_pure h))
theorem ne_ty_same {X : String} {Q : Value → Shared → Prop} (hX : ∀ s' : Shared, s'.TypeIs (.type X) "type") (h : Q (.bool false) s) : wpAny (model prog w) A (compareOp .NotEq (.type X) (.type X)) Q E s := by
  show wpAny _ A (richCompare .NotEq _ _) Q E s
  refine wpAny_richCompare_same (T := "type") (hX s) (hX s) ty_ne1 (wpAny_call_entry ty_ne1 (hX s) F.entry_object_ne (objNe_body hX rfl ?_) (F.args_object_ne_2 _ _))
  exact call_gives slot_type_eq (hX s) F.entry_object_eq (F.args_object_eq_2 _ _) (object_eq_same rfl (by simp)) (.inr ⟨true, rfl, _, rfl, (by intro e; cases e), h⟩)
theorem ne_ty_other {X Y : String} {Q : Value → Shared → Prop} (hX : ∀ s' : Shared, s'.TypeIs (.type X) "type") (hY : ∀ s' : Shared, s'.TypeIs (.type Y) "type")
    (hne : (Value.type X == Value.type Y) = false) (hen : (Value.type Y == Value.type X) = false) (h : Q (.bool true) s) : wpAny (model prog w) A (compareOp .NotEq (.type X) (.type Y)) Q E s := by
  show wpAny _ A (richCompare .NotEq _ _) Q E s
  have k1 := ty_ne1
  have k2 := ty_ne2
  rcases hi : cmpInfo CmpOp.NotEq with ⟨sym, f, r⟩
  rw [hi] at k1 k2
  simp only [richCompare, hi, (hX s).oneThing_none]
  try with_reducible refine wpAny_holding ?_
  refine wpAny_bind (wpAny_cRoomFor_or (.inl rfl) ?_)
  refine wpAny_bind (wpAny_typeOf (hX s) ?_)
  refine wpAny_bind (wpAny_typeOf (hY s) ?_)
  simp only [bne_self_eq_false, Bool.false_eq_true, if_false, pure_bind, Bool.not_false, if_true]
  refine wpAny_bind (m := tryCompare (.type X) _ (.type Y)) (wpAny_tryCompare_declines (hX s) k1 ?_)
  refine wpAny_call_entry k1 (hX s) F.entry_object_ne (objNe_body hX rfl ?_) (F.args_object_ne_2 _ _)
  refine call_gives slot_type_eq (hX s) F.entry_object_eq (F.args_object_eq_2 _ _) (object_eq_other rfl hne) (.inl ⟨rfl, _, rfl, rfl, ?_⟩)
  refine wpAny_bind (m := tryCompare (.type Y) _ (.type X)) (wpAny_tryCompare_declines (hY s) k2 ?_)
  refine wpAny_call_entry k2 (hY s) F.entry_object_ne (objNe_body hY rfl ?_) (F.args_object_ne_2 _ _)
  refine call_gives slot_type_eq (hY s) F.entry_object_eq (F.args_object_eq_2 _ _) (object_eq_other rfl hen) (.inl ⟨rfl, _, rfl, rfl, ?_⟩)
  refine wpAny_bind (wpAny_rule (wpAny_bind (wpAny_of_eq (isSame_plain rfl) (wpAny_pure ?_))))
  rw [hne]
  exact h
end
/-- the built-in classes that are compared -/
def isTy (T : String) : Prop := ∀ s' : Shared, s'.TypeIs (.type T) "type"
theorem tyB_ty {K : PySem.W.Frag} {H : Hp} {x : V} {T : String} (h : TyB K H x T) : isTy T := by
  cases h with
  | non => exact meta_NoneType
  | bl => exact meta_bool
  | int => exact meta_int
  | str => exact meta_str
  | byt => exact meta_bytes
  | lst => exact meta_list
  | tup => exact meta_tuple
  | dK => exact meta_dict
section
variable {X : Cx}
def rTyEq : R2 := fun x y H Q => ∃ a b, x = .ty a ∧ y = .ty b ∧ isTy a ∧ isTy b ∧ Q (.bl (decide (a = b))) H
def rTyNe : R2 := fun x y H Q => ∃ a b, x = .ty a ∧ y = .ty b ∧ isTy a ∧ isTy b ∧ Q (.bl (!decide (a = b))) H
theorem op_eqTy : OpR X (compareOp .Eq) rTyEq := by
  intro pins s σ H x y v u Q I rx ry h
  obtain ⟨a, b, rfl, rfl, ha, hb, q⟩ := h
  obtain rfl : v = Value.type a := rx
  obtain rfl : u = Value.type b := ry
  by_cases e : a = b
  · subst e
    exact eq_type_same ha ⟨.bl true, H, I, rfl, by rw [decide_eq_true rfl] at q; exact q⟩
  · exact eq_type_other ha hb ((ty_beq a b).trans (decide_eq_false e)) ⟨.bl false, H, I, rfl, by rw [decide_eq_false e] at q; exact q⟩
theorem op_neTy : OpR X (compareOp .NotEq) rTyNe := by
  intro pins s σ H x y v u Q I rx ry h
  obtain ⟨a, b, rfl, rfl, ha, hb, q⟩ := h
  obtain rfl : v = Value.type a := rx
  obtain rfl : u = Value.type b := ry
  by_cases e : a = b
  · subst e
    exact ne_ty_same ha ⟨.bl false, H, I, rfl, by rw [decide_eq_true rfl] at q; exact q⟩
  · exact ne_ty_other ha hb ((ty_beq a b).trans (decide_eq_false e)) ((ty_beq b a).trans (decide_eq_false fun z => e z.symm)) ⟨.bl true, H, I, rfl, by rw [decide_eq_false e] at q; exact q⟩
end
end My
/-! ### len(set(t)), t a tuple of tuples of ints -/
namespace My
open PySem PySem.Spec PyProof.Rows L2
section
variable {P : Program} {w : World} {A : Around} {E : Value → Shared → Prop} {s : Shared}
abbrev set0 (w : World) : Obj := ⟨.type "set", none, .set #[] 0 (.fresh 0 0 (!w.params.followText "set-order")), #[]⟩
/-- what stands behind set(t) -/
def SetGot (P : Program) (w : World) (ks : List (Addr × List Int)) (s : Shared) (s' : Shared) : Prop :=
  ∃ h' tk L es ep t, s' = { s with heap := h', toks := tk } ∧ SetTR P w h' s.heap.objs.size L es ep t ∧ Got ks ks.length L ∧ ∀ b o, s.heap.get? b = some o → h'.get? b = some o
theorem beyond {h : Heap} {b : Addr} (hb : h.objs.size ≤ b) : h.get? b = none := by
  cases q : h.get? b with
  | none => rfl
  | some o =>
    exact absurd (Nat.lt_of_lt_of_le (Heap.lt_size q) hb) (Nat.lt_irrefl _)
theorem set_of_tup {l : Addr} {vs : Array Value} (ks : List (Addr × List Int)) {Q : Value → Shared → Prop} (h0 : A.handled = none) (ht : s.heap.IsTuple l vs) (hv : vs.toList = ks.map fun p => Value.ref p.1)
    (hk : ∀ p ∈ ks, IsT P w s.heap p.2 p.1) (few : ks.length < 64) (hu : A.units + 3 < cLine) (h : ∀ s', SetGot P w ks s s' → Q (.ref s.heap.objs.size) s') :
    wpAny (model P w) A (call (.type "set") [.ref l]) Q E s := by
  have sz : vs.size = ks.length := by
    rw [← Array.length_toList, hv, List.length_map]
  obtain ⟨c, tl, mro⟩ := F.called_set.mro
  have made := F.called_set.made
  have sub1 := F.called_set.sub
  refine wpAny_call (codeAny_of_tree ?_)
  show wpAny _ _ (callAny (.type "set") _) _ _ _
  refine wpAny_pure ⟨Code.quiet_builtin _ (by decide +kernel), codeAny_builtin F.entry_type_call ?_⟩
  rw [Around.under_plain (weight_type_call_type "set" [.ref l] []) rfl]
  have nt := F.called_set.notType
  have cc := F.called_set.canCreate
  have tc := F.typeCall_set_1 (.ref l)
  repeat (any_goals (first | assumption | wp_step))
  refine codeAny_mono (code_set_led1 (.ref l) (E := E) (Q₁ := fun o s1 => o = .ref s.heap.objs.size ∧ s1 = { s with heap := s.heap.push (set0 w) }) ⟨rfl, rfl⟩) fun r s1 hr => ?_
  cases r with
  | error e => exact hr
  | ok fl =>
    cases fl with
    | ret o =>
      obtain ⟨rfl, rfl⟩ := hr
      have gS : (s.heap.push (set0 w)).get? s.heap.objs.size = some (set0 w) := Heap.get?_push_size _ rfl
      have tS : Shared.TypeIs { s with heap := s.heap.push (set0 w) } (.ref s.heap.objs.size) "set" := ⟨_, gS, rfl⟩
      have li := F.called_set.init.lookup
      have bi := F.called_set.init.bind (.ref s.heap.objs.size)
      repeat (any_goals (first | assumption | wp_step))
      refine codeAny_mono (codeAny_call_builtin (R := wants (fun r s2 => r = .none ∧ SetGot P w ks s s2) E) F.called_set.init.plain F.entry_set_init (check_set_init_1 tS ?_)) fun r2 s2 hr2 => ?_
      · have ht1 : (s.heap.push (set0 w)).IsTuple l vs := ht.push _
        have lS : l < s.heap.objs.size := by
          obtain ⟨_, e, _⟩ := ht
          exact Heap.lt_size e
        obtain ⟨⟨c1, d1, x1, sl1⟩, g1, e1, n1, e2⟩ := ht1
        simp only at e1 e2
        subst e1
        subst e2
        have ht1 : (s.heap.push (set0 w)).IsTuple l vs := ⟨_, g1, rfl, n1, rfl⟩
        have f1 := F.sub_tuple_set
        have f2 := F.sub_tuple_frozenset
        have f3 : (Value.type "tuple" == Value.type "dict") = false := by decide
        unfold Builtin.«set.__init__» noKeywords Builtin.Frozenset.updateFrom
        generalize hPI : pyIter = PI
        wp_walk
        subst hPI
        refine wpAny_pyIter_tuple ht1 ?_
        refine wpAny_bind (wpAny_runValue ?_)
        have h3 : A.in1.in1.in1.handled = none := by simp [h0]
        have z1 : (s.heap.push (set0 w)).objs.size = s.heap.objs.size + 1 := Heap.size_push ..
        have lI : l ≠ (s.heap.push (set0 w)).objs.size := by
          rw [z1]
          exact Nat.ne_of_lt (Nat.lt_succ_of_lt lS)
        have item : ∀ (i : Nat) (v : Value), vs[i]? = some v → ∃ p, ks[i]? = some p ∧ v = .ref p.1 := fun i v e => by
          rw [← Array.getElem?_toList, hv, List.getElem?_map] at e
          cases q : ks[i]? with
          | none =>
            rw [q] at e
            cases e
          | some p =>
            rw [q] at e
            exact ⟨p, rfl, (Option.some.inj e).symm⟩
        refine set_update_tups ((Walks.tuple h3 _ l lI vs).toS) s.heap.objs.size ?n1 ks sz few item s.heap hk (beyond (Nat.le_refl _)) ?n2 hu vs.size 0 _ (by omega) (Nat.zero_le _)
          ⟨⟨_, Heap.get?_push_size _ rfl, rfl, rfl⟩, ht1.push _⟩ (fun b o e => Heap.get?_push_of_some _ (Heap.get?_push_of_some _ e)) ?n3 ?n4
        case n1 =>
          intro m
          rcases List.mem_cons.mp m with m | m
          · rw [z1] at m
            exact absurd m (Nat.ne_of_lt (Nat.lt_succ_self _))
          · exact absurd (List.mem_singleton.mp m).symm (Nat.ne_of_lt lS)
        case n2 =>
          intro b m
          refine beyond ?_
          rw [List.mem_singleton.mp m, z1]
          exact Nat.le_succ _
        case n3 => exact ⟨[], #[], 0, _, setTR_fresh (Heap.get?_push_of_some _ gS), Got.zero ks⟩
        case n4 =>
          rintro ⟨h', g2, d', tk', os'⟩ L es ep t mv hS' got keep
          have eg : g2 = s.gens := mv.gens
          have ed : d' = s.drawn := mv.drawn
          have eo : os' = s.os := mv.os
          subst eg ed eo
          rw [sz] at got
          show wpAny _ _ _ _ _ _
          refine wpAny_pure ?_
          show wpAny _ _ (ret Value.none) _ _ _
          exact wpAny_pure ⟨rfl, h', tk', L, es, ep, t, rfl, hS', got, keep⟩
      · cases r2 with
        | error e => exact hr2
        | ok fl2 =>
          cases fl2 with
          | ret r =>
            obtain ⟨rfl, hg⟩ := hr2
            have hq := h _ hg
            repeat (any_goals (first | assumption | wp_step))
          | _ => exact hr2.elim
    | _ => exact hr.elim
end
end My
/-! ### len(set(t)), as an expression -/
namespace My
open PySem PySem.Spec PyProof.Rows L2
theorem nd_le {α : Type} [DecidableEq α] : ∀ (l D : List α), l.Nodup → (∀ x ∈ l, x ∈ D) → l.length ≤ D.length
  | [], _, _, _ => Nat.zero_le _
  | x :: l, D, nd, h => by
    have hx := h x (.head _)
    have nd' := List.nodup_cons.mp nd
    have := nd_le l (D.erase x) nd'.2 fun y hy => (List.mem_erase_of_ne (fun e => nd'.1 (by rw [← e]; exact hy))).mpr (h y (.tail _ hy))
    rw [List.length_erase_of_mem hx] at this
    have := List.length_pos_of_mem hx
    rw [List.length_cons]
    omega
theorem dup_of {α : Type} [DecidableEq α] : ∀ D : List α, ¬ D.Nodup → ∃ x, x ∈ D.erase x
  | [], h => absurd List.nodup_nil h
  | y :: t, h => by
    by_cases hy : y ∈ t
    · exact ⟨y, by rw [List.erase_cons_head]; exact hy⟩
    · obtain ⟨x, hx⟩ := dup_of t fun n => h (List.nodup_cons.mpr ⟨hy, n⟩)
      have ne : y ≠ x := fun e => hy (e ▸ List.mem_of_mem_erase hx)
      refine ⟨x, ?_⟩
      rw [List.erase_cons_tail (by simpa using ne)]
      exact .tail _ hx
theorem nd_lt {α : Type} [DecidableEq α] {l D : List α} (nd : l.Nodup) (sub : ∀ x ∈ l, x ∈ D) (n : ¬ D.Nodup) : l.length < D.length := by
  obtain ⟨x, hx⟩ := dup_of _ n
  have h2 := nd_le _ (D.erase x) nd fun y hy => by
    by_cases e : y = x
    · rw [e]
      exact hx
    · exact (List.mem_erase_of_ne e).mpr (sub y hy)
  have hm := List.mem_of_mem_erase hx
  have := List.length_pos_of_mem hm
  rw [List.length_erase_of_mem hm] at h2
  omega
theorem got_len {ks L : List (Addr × List Int)} (g : Got ks ks.length L) (nd : (L.map (·.2)).Nodup) : L.length = ks.length ↔ (ks.map (·.2)).Nodup := by
  have sub : ∀ x ∈ L.map (·.2), x ∈ ks.map (·.2) := fun x hx => by
    obtain ⟨p, hp, rfl⟩ := List.mem_map.mp hx
    exact List.mem_map.mpr ⟨p, List.mem_of_mem_take (g.sub p hp), rfl⟩
  have all : ∀ x ∈ ks.map (·.2), x ∈ L.map (·.2) := fun x hx => by
    obtain ⟨p, hp, rfl⟩ := List.mem_map.mp hx
    exact g.all p (by rw [List.take_length]; exact hp)
  have h1 := nd_le _ _ nd sub
  rw [List.length_map, List.length_map] at h1
  constructor
  · intro e
    refine Decidable.byContradiction fun n => ?_
    have h2 := nd_lt nd sub n
    rw [List.length_map, List.length_map] at h2
    omega
  · intro n
    have h2 := nd_le _ _ n all
    rw [List.length_map, List.length_map] at h2
    omega
section
variable {X : Cx} {ta : TE}
def tLenSetT (K : PySem.W.Frag) (ta : TE) : TE := fun σ H Q => ta σ H fun x H1 => ∃ (l : Addr) (ks : List (Addr × List Int)), x = V.ref l ∧ SqT K H1 l (ks.map fun p => V.ref p.1) ∧ (∀ p ∈ ks, SqT K H1 p.1 (p.2.map V.int)) ∧ ks.length < 64 ∧
  ∀ n : Nat, (n = ks.length ↔ (ks.map (·.2)).Nodup) → Q (.int n) H1
theorem pe_lenSetT {a : Expr} {p p2 q pos : Pos} (hc : X.calm = true) (hu : X.A.units + 64 < cLine) (hg : Gl X "len") (hm : X.mg "len" = none) (hg2 : Gl X "set") (hm2 : X.mg "set" = none) (ha : PE X a ta)
    (na : starEach [a] X.env = (false, eval a X.env) :: starEach [] X.env := by rfl) : PE X (.Call (.Name "len" p) [.Call (.Name "set" p2) [a] [] q] [] pos) (tLenSetT X.K ta) := by
  refine ⟨fun pins s σ H Q I h => ?_⟩
  refine Call_ (ld_blt I hg hm PySem.boot_len (PyProof.Rows.callWith_builtin1 (PyProof.Rows.args_cons ?_ rfl) rfl rfl))
  refine Call_ (ld_blt I hg2 hm2 PyProof.Rows.boot_set (PyProof.Rows.callWith_type1 (PyProof.Rows.args_cons (thn (ha.run pins s σ H _ I h) fun v s1 hv => PyProof.Rows.args_nil ?_) na) na rfl))
  obtain ⟨x, H1, I1, r1, l, ks, rfl, hq, hk, few, q1⟩ := hv
  cases r1
  obtain ⟨its, r, pl, hz⟩ := I1.tuple hq
  refine set_of_tup (P := X.prog) (w := X.w) ks (I1.ok.hd hc) pl (by simpa using refs_of_vals r) (fun p hp => I1.isT (hk p hp)) few (by omega) fun s' hs => PyProof.Rows.args_nil ?_
  obtain ⟨h', tk, L, es, ep, t, rfl, R, g, keep⟩ := hs
  have I2 : Inv X pins σ H1 { s1 with heap := h', toks := tk } := I1.kept keep
  obtain ⟨o, ho, hex, hd⟩ := R.ob
  have sz := SetTR.size (s := { s1 with heap := h', toks := tk }) R
  have fits := SetTR.fits (s := { s1 with heap := h', toks := tk }) R
  have few2 := R.few
  refine call_len_set ho hex hd fits (by omega) ⟨.int es.size, H1, I2.tok _, ⟨_, rfl⟩, q1 _ ?_⟩
  rw [sz]
  exact got_len g R.nd
end
end My
/-! ### the program's looks at machines and rules, over data -/
namespace My
open PySem PySem.Spec PyProof.Rows L2
abbrev sWhole : Stmt := topS 15
abbrev sBetween : Stmt := topS 35
abbrev sTuple : Stmt := topS 34
abbrev sLetters : Stmt := topS 28
abbrev sWayOn : Stmt := topS 33
abbrev sTable : Stmt := topS 30
abbrev sRule : Stmt := topS 25
theorem scWhole : FnScope ["thing"] ["thing"] (defScope sWhole) := ⟨rfl, rfl, rfl, by decide +kernel, rfl, by decide +kernel, by decide +kernel⟩
theorem scBetween : FnScope ["thing", "low", "high"] ["thing", "low", "high"] (defScope sBetween) := ⟨rfl, rfl, rfl, by decide +kernel, rfl, by decide +kernel, by decide +kernel⟩
theorem scTuple : FnScope ["thing", "least", "most"] ["thing", "least", "most"] (defScope sTuple) := ⟨rfl, rfl, rfl, by decide +kernel, rfl, by decide +kernel, by decide +kernel⟩
theorem scLetters : FnScope ["thing", "ascending", "at"] ["thing"] (defScope sLetters) := ⟨rfl, rfl, rfl, by decide +kernel, rfl, by decide +kernel, by decide +kernel⟩
theorem scWayOn : FnScope ["state", "many", "targets", "target"] ["state", "many"] (defScope sWayOn) := ⟨rfl, rfl, rfl, by decide +kernel, rfl, by decide +kernel, by decide +kernel⟩
theorem scTable : FnScope ["thing", "letters", "most", "state"] ["thing", "letters", "most"] (defScope sTable) := ⟨rfl, rfl, rfl, by decide +kernel, rfl, by decide +kernel, by decide +kernel⟩
theorem scRule : FnScope ["thing", "letters", "states", "state"] ["thing"] (defScope sRule) := ⟨rfl, rfl, rfl, by decide +kernel, rfl, by decide +kernel, by decide +kernel⟩
/-! ### data: x is what d says, in the heap H -/
mutual
inductive Rp (K : PySem.W.Frag) (H : Hp) : V → PyData → Prop
  | non : Rp K H .non .none
  | bl (b : Bool) : Rp K H (.bl b) (.bool b)
  | int (i : Int) : Rp K H (.int i) (.int i)
  | str (x : Str) : x.length ≤ sizeLine → Rp K H (.str x) (.str x)
  | lst {a : Addr} {xs : List V} {ds : List PyData} : SqL K H a xs → RpAll K H xs ds → Rp K H (.ref a) (.list ds)
  | tup {a : Addr} {xs : List V} {ds : List PyData} : SqT K H a xs → RpAll K H xs ds → Rp K H (.ref a) (.tuple ds)
  | dct {a : Addr} : H a = some (.dK []) → Rp K H (.ref a) (.dict [])
inductive RpAll (K : PySem.W.Frag) (H : Hp) : List V → List PyData → Prop
  | nil : RpAll K H [] []
  | cons {v : V} {vs : List V} {d : PyData} {ds : List PyData} : Rp K H v d → RpAll K H vs ds → RpAll K H (v :: vs) (d :: ds)
end
def kindOf : PyData → String
  | .none => "NoneType"
  | .bool _ => "bool"
  | .int _ => "int"
  | .str _ => "str"
  | .list _ => "list"
  | .tuple _ => "tuple"
  | .dict _ => "dict"
theorem Rp.ty {K : PySem.W.Frag} {H : Hp} {v : V} {d : PyData} (h : Rp K H v d) : TyB K H v (kindOf d) := by
  cases h with
  | non => exact .non
  | bl => exact .bl _
  | int => exact .int _
  | str => exact .str _
  | lst h => exact .lst h
  | tup h => exact .tup h
  | dct h => exact .dK h
theorem same_tup {K : PySem.W.Frag} {H H' : Hp} {a : Addr} {xs : List V} (e : Same H H') (h : SqT K H a xs) : SqT K H' a xs := by
  rcases h with (h | ⟨o, h⟩) | h
  · exact .inl (.inl (e _ _ h))
  · exact .inl (.inr ⟨o, e _ _ h⟩)
  · exact .inr h
theorem eq_false_of_ne_true {b : Bool} (h : ¬ b = true) : b = false := by
  cases b
  · rfl
  · exact absurd rfl h
mutual
theorem Rp.go {K : PySem.W.Frag} {H H' : Hp} (s : Same H H') : ∀ {v : V} {d : PyData}, Rp K H v d → Rp K H' v d
  | _, _, .non => .non
  | _, _, .bl b => .bl b
  | _, _, .int i => .int i
  | _, _, .str x h => .str x h
  | _, _, .lst h t => .lst (s.seq h) (RpAll.go s t)
  | _, _, .tup h t => .tup (same_tup s h) (RpAll.go s t)
  | _, _, .dct h => .dct (s _ _ h)
theorem RpAll.go {K : PySem.W.Frag} {H H' : Hp} (s : Same H H') : ∀ {vs : List V} {ds : List PyData}, RpAll K H vs ds → RpAll K H' vs ds
  | _, _, .nil => .nil
  | _, _, .cons h t => .cons (Rp.go s h) (RpAll.go s t)
end
theorem RpAll.len {K : PySem.W.Frag} {H : Hp} : ∀ {vs : List V} {ds : List PyData}, RpAll K H vs ds → vs.length = ds.length
  | _, _, .nil => rfl
  | _, _, .cons _ t => congrArg (· + 1) t.len
theorem RpAll.at {K : PySem.W.Frag} {H : Hp} : ∀ {vs : List V} {ds : List PyData}, RpAll K H vs ds → ∀ {i : Nat} {v : V}, vs[i]? = some v → ∃ d, ds[i]? = some d ∧ Rp K H v d
  | _, _, .cons (d := d) h t, 0, v, e => ⟨d, rfl, by cases e; exact h⟩
  | _, _, .cons h t, i + 1, v, e => t.at (i := i) (by simpa using e)
/-! ### what the looks tell -/
def betD (lo hi : Int) : PyData → Bool
  | .int i => decide (lo ≤ i) && decide (i ≤ hi)
  | _ => false
def tupD (lo hi : Int) : PyData → Bool
  | .tuple ds => decide (lo ≤ (ds.length : Int)) && decide ((ds.length : Int) ≤ hi)
  | _ => false
def lettersL : List Nat → Bool
  | [a] => decide (97 ≤ a) && decide (a ≤ 122)
  | [a, b] => decide (a < b) && (decide (97 ≤ a) && decide (b ≤ 122))
  | [a, b, c] => (decide (a < b) && decide (b < c)) && (decide (97 ≤ a) && decide (c ≤ 122))
  | _ => false
def ltrD : PyData → Bool
  | .str z => lettersL z.cps.toList
  | _ => false
def pairD (most many : Int) : PyData → Bool
  | .tuple [p, t] => betD (-most) most p && betD 0 (many - 1) t
  | _ => false
theorem RpAll.two {K : PySem.W.Frag} {H : Hp} {vs : List V} {ds : List PyData} (h : RpAll K H vs ds) (e : ds.length = 2) : ∃ u v p t, vs = [u, v] ∧ ds = [p, t] ∧ Rp K H u p ∧ Rp K H v t := by
  cases h with
  | nil => cases e
  | cons h1 h =>
    cases h with
    | nil => cases e
    | cons h2 h =>
      cases h with
      | nil => exact ⟨_, _, _, _, rfl, rfl, h1, h2⟩
      | cons _ _ => simp at e
theorem tup_of {K : PySem.W.Frag} {H : Hp} {x : V} {d : PyData} {lo hi : Int} (h : Rp K H x d) (z : tupD lo hi d = true) : ∃ a xs ds, x = .ref a ∧ d = .tuple ds ∧ SqT K H a xs ∧ RpAll K H xs ds ∧ lo ≤ (ds.length : Int) ∧ (ds.length : Int) ≤ hi := by
  cases h with
  | tup h1 h2 =>
    rw [tupD, Bool.and_eq_true, decide_eq_true_eq, decide_eq_true_eq] at z
    exact ⟨_, _, _, rfl, rfl, h1, h2, z⟩
  | _ => exact absurd z (by simp [tupD])
theorem Rp.two {K : PySem.W.Frag} {H : Hp} {x : V} {d : PyData} (h : Rp K H x d) (z : tupD 2 2 d = true) : ∃ a u v p t, x = .ref a ∧ d = .tuple [p, t] ∧ SqT K H a [u, v] ∧ Rp K H u p ∧ Rp K H v t := by
  obtain ⟨a, xs, ds, rfl, rfl, hS, hA, l1, l2⟩ := tup_of h z
  obtain ⟨u, v, p, t, rfl, rfl, hp, ht⟩ := hA.two (by omega)
  exact ⟨a, u, v, p, t, rfl, rfl, hS, hp, ht⟩
theorem pairD_not {most many : Int} {d : PyData} (z : ¬ tupD 2 2 d = true) : pairD most many d = false := by
  unfold pairD
  split
  · exact absurd (show tupD 2 2 _ = true from rfl) z
  · rfl
theorem Rp.isStr {K : PySem.W.Frag} {H : Hp} {x : V} {d : PyData} (h : Rp K H x d) (e : kindOf d = "str") : ∃ z, x = .str z ∧ d = .str z ∧ z.length ≤ sizeLine := by
  cases h with
  | str z hz => exact ⟨z, rfl, rfl, hz⟩
  | _ => exact absurd e (by simp [kindOf])
theorem lettersL_not {z : Str} (h : ¬ (1 ≤ z.length ∧ z.length ≤ 3)) : lettersL z.cps.toList = false := by
  have e : z.cps.toList.length = z.length := Array.length_toList
  generalize z.cps.toList = l at e
  unfold lettersL
  split
  · exact absurd ⟨by rw [← e]; simp, by rw [← e]; simp⟩ h
  · exact absurd ⟨by rw [← e]; simp, by rw [← e]; simp⟩ h
  · exact absurd ⟨by rw [← e]; simp, by rw [← e]; simp⟩ h
  · rfl
theorem nat_at {l : List Nat} {j : Nat} (h : j < l.length) : l[j]? = some (l.getD j 0) := by
  rw [List.getD_eq_getElem?_getD, List.getElem?_eq_getElem h]
  rfl
theorem one_lt (a b : Nat) : decide (([a] : List Nat) < [b]) = decide (a < b) := by
  simp [List.cons_lt_cons_iff]
theorem atI_last {α : Type} {l : List α} (h : 0 < l.length) : atI l (-1) = l[l.length - 1]? := by
  unfold atI ixN
  rw [if_neg (by decide), if_pos (by omega)]
  show l[(-1 + (l.length : Int)).toNat]? = _
  rw [show (-1 + (l.length : Int)).toNat = l.length - 1 by omega]
theorem same_new {H H' : Hp} {D : Addr} {o : HO} (sm : Same H H') (n : H D = none) : Same H (upd H' D o) := fun b x e => by
  rw [upd_ne (ne_of_none e n)]
  exact sm _ _ e
theorem letters_eq {l : List Nat} (h : 1 ≤ l.length ∧ l.length ≤ 3) : lettersL l = (((List.range (l.length - 1)).map fun i => decide (l.getD i 0 < l.getD (i + 1) 0)).all id && (!decide (([l.getD 0 0] : List Nat) < [97]) && !decide (([122] : List Nat) < [l.getD (l.length - 1) 0]))) := by
  have e : ∀ a b : Nat, (!decide (a < b)) = decide (b ≤ a) := fun a b => by
    by_cases z : a < b
    · rw [decide_eq_true z, decide_eq_false (by omega)]
      rfl
    · rw [decide_eq_false z, decide_eq_true (by omega)]
      rfl
  rw [one_lt, one_lt, e, e]
  match l, h with
  | [a], _ => simp [lettersL]
  | [a, b], _ => simp [lettersL, List.range_succ]
  | [a, b, c], _ => simp [lettersL, List.range_succ]
theorem ltrD_not {d : PyData} (h : ¬ kindOf d = "str") : ltrD d = false := by
  cases d with
  | str z => exact absurd rfl h
  | _ => rfl
def lenD : PyData → Nat
  | .str z => z.length
  | _ => 0
def tabD (n : Nat) (most : Int) : PyData → Bool
  | .tuple ds => tupD 1 most (.tuple ds) && ds.all (tupD (n : Int) (n : Int))
  | _ => false
def frmD (most : Int) : PyData → Bool
  | .tuple [b, l, s] => betD 2 9 b && (ltrD l && tabD (lenD l) most s)
  | _ => false
def someD : PyData → Bool
  | .none => false
  | _ => true
def wayD (many : Int) : PyData → Bool
  | .tuple ds => decide ((0 : Int) < ((ds.filter someD).length : Int)) && (ds.filter someD).all (betD 0 (many - 1))
  | _ => false
theorem lc_tupO {K : PySem.W.Frag} {a : Addr} {xs : List V} {H0 : Hp} {Qd : Hp → Prop} {B : V → Hp → (Hp → Prop) → Prop} (Pv : Nat → Hp → Prop) (h0 : Pv 0 H0) (hl : ∀ i H, Pv i H → SqT K H a xs)
    (hs : ∀ i x H, xs[i]? = some x → Pv i H → B x H (Pv (i + 1))) (hd : ∀ H, Pv xs.length H → Qd H) :
    ∃ W : Nat → Nat → Hp → Prop, (∃ m, W 0 m H0) ∧ ∀ i m H, W i m H → ((Itt K a).stop i H ∧ Qd H) ∨ ((Itt K a).go i H ∧ ∃ Nx : Hp → Prop, (∀ H', Nx H' → ∃ m', m' < m ∧ W (i + 1) m' H') ∧ ∀ x H', (Itt K a).yld i H x H' → B x H' Nx) := by
  refine ⟨fun i m H => m + i = xs.length ∧ Pv i H, ⟨xs.length, by omega, h0⟩, fun i m H h => ?_⟩
  have q := hl i H h.2
  rcases Nat.lt_or_ge i xs.length with lt | ge
  · refine .inr ⟨⟨xs, xs[i], q, List.getElem?_eq_getElem lt⟩, Pv (i + 1), fun H' p => ⟨m - 1, by omega, by omega, p⟩, fun x H' y => ?_⟩
    obtain ⟨rfl, y⟩ := y
    exact hs i x _ (y xs q) h.2
  · obtain rfl : i = xs.length := by omega
    exact .inl ⟨⟨xs, q, Nat.le_refl _⟩, hd H h.2⟩
theorem lc_lstO {K : PySem.W.Frag} {a : Addr} {xs : List V} {H0 : Hp} {Qd : Hp → Prop} {B : V → Hp → (Hp → Prop) → Prop} (Pv : Nat → Hp → Prop) (h0 : Pv 0 H0) (hl : ∀ i H, Pv i H → SqL K H a xs)
    (hs : ∀ i x H, xs[i]? = some x → Pv i H → B x H (Pv (i + 1))) (hd : ∀ H, Pv xs.length H → Qd H) :
    ∃ W : Nat → Nat → Hp → Prop, (∃ m, W 0 m H0) ∧ ∀ i m H, W i m H → ((Itl K a).stop i H ∧ Qd H) ∨ ((Itl K a).go i H ∧ ∃ Nx : Hp → Prop, (∀ H', Nx H' → ∃ m', m' < m ∧ W (i + 1) m' H') ∧ ∀ x H', (Itl K a).yld i H x H' → B x H' Nx) := by
  refine ⟨fun i m H => m + i = xs.length ∧ Pv i H, ⟨xs.length, by omega, h0⟩, fun i m H h => ?_⟩
  have q := hl i H h.2
  rcases Nat.lt_or_ge i xs.length with lt | ge
  · refine .inr ⟨⟨xs, xs[i], q, List.getElem?_eq_getElem lt⟩, Pv (i + 1), fun H' p => ⟨m - 1, by omega, by omega, p⟩, fun x H' y => ?_⟩
    obtain ⟨rfl, y⟩ := y
    exact hs i x _ (y xs q) h.2
  · obtain rfl : i = xs.length := by omega
    exact .inl ⟨⟨xs, q, Nat.le_refl _⟩, hd H h.2⟩
theorem RpAll.three {K : PySem.W.Frag} {H : Hp} {vs : List V} {ds : List PyData} (h : RpAll K H vs ds) (e : ds.length = 3) : ∃ u v y p t z, vs = [u, v, y] ∧ ds = [p, t, z] ∧ Rp K H u p ∧ Rp K H v t ∧ Rp K H y z := by
  cases h with
  | nil => cases e
  | cons h1 h =>
    obtain ⟨_, _, _, _, rfl, rfl, h2, h3⟩ := h.two (by simpa using e)
    exact ⟨_, _, _, _, _, _, rfl, rfl, h1, h2, h3⟩
theorem frmD_not {most : Int} {d : PyData} (z : ¬ tupD 3 3 d = true) : frmD most d = false := by
  unfold frmD
  split
  · exact absurd (show tupD 3 3 _ = true from rfl) z
  · rfl
theorem tabD_not {n : Nat} {most : Int} {d : PyData} (z : ¬ tupD 1 most d = true) : tabD n most d = false := by
  unfold tabD
  split
  · rw [eq_false_of_ne_true z, Bool.false_and]
  · rfl
theorem take_all {α : Type} {f : α → Bool} {ds : List α} {j : Nat} {d : α} (e : ds[j]? = some d) : (ds.take (j + 1)).map f = (ds.take j).map f ++ [f d] := by
  rw [List.take_succ, e, List.map_append]
  rfl
theorem all_map {α : Type} (f : α → Bool) (ds : List α) : (ds.map f).all id = ds.all f := by
  rw [List.all_map]
  rfl
theorem ltrD_str {d : PyData} (h : ltrD d = true) : kindOf d = "str" := by
  cases d with
  | str z => rfl
  | _ => exact absurd h (by simp [ltrD])
def someV : V → Bool
  | .non => false
  | _ => true
theorem someV_eq (x : V) : someV x = !decide (x = .non) := by
  by_cases h : x = .non
  · rw [decide_eq_true h, h]
    rfl
  · rw [decide_eq_false h]
    cases x <;> first | rfl | exact absurd rfl h
theorem some_of {K : PySem.W.Frag} {H : Hp} {x : V} {d : PyData} (h : Rp K H x d) : someV x = someD d := by
  cases h <;> rfl
theorem RpAll.some {K : PySem.W.Frag} {H : Hp} : ∀ {vs : List V} {ds : List PyData}, RpAll K H vs ds → RpAll K H (vs.filter someV) (ds.filter someD)
  | _, _, .nil => .nil
  | _, _, .cons (v := v) (d := d) h t => by
    have e := some_of h
    rw [List.filter_cons, List.filter_cons, e]
    cases someD d
    · exact t.some
    · exact .cons h t.some
def rulD : PyData → Bool
  | .tuple [l, .tuple ss] => ltrD l && (tabD (lenD l) 4 (.tuple ss) && ss.all (wayD (ss.length : Int)))
  | _ => false
def elems : PyData → List PyData
  | .tuple ds => ds
  | _ => []
def keyD : PyData → List Int
  | .tuple [.int p, .int t] => [p, t]
  | _ => []
def chD (many : Int) : PyData → Bool
  | .tuple ds => tupD 1 3 (.tuple ds) && (ds.all (pairD 20 many) && decide ((ds.map keyD).Nodup))
  | _ => false
def plnD : PyData → Bool
  | .tuple [b, l, .tuple ss] => frmD 300 (.tuple [b, l, .tuple ss]) && (ss.flatMap fun st => (elems st).map (pairD ((10 : Int) ^ (30 : Int).toNat) (ss.length : Int))).all id
  | _ => false
def mchD : PyData → Bool
  | .tuple [b, l, .tuple ss] => frmD 4 (.tuple [b, l, .tuple ss]) && (ss.flatMap fun st => (elems st).map (chD (ss.length : Int))).all id
  | _ => false
theorem ltrD_len {d : PyData} (h : ltrD d = true) : lenD d ≤ 3 := by
  cases d with
  | str z =>
    by_cases e : 1 ≤ z.length ∧ z.length ≤ 3
    · exact e.2
    · rw [ltrD, lettersL_not e] at h
      cases h
  | _ => exact absurd h (by simp [ltrD])
theorem rulD_not {d : PyData} (z : ¬ tupD 2 2 d = true) : rulD d = false := by
  unfold rulD
  split
  · exact absurd (show tupD 2 2 _ = true from rfl) z
  · rfl
theorem tabD_tup {n : Nat} {most : Int} {d : PyData} (h : tabD n most d = true) : tupD 1 most d = true ∧ ∀ e ∈ elems d, tupD (n : Int) (n : Int) e = true := by
  cases d with
  | tuple ds =>
    rw [tabD, Bool.and_eq_true, List.all_eq_true] at h
    exact h
  | _ => exact absurd h (by simp [tabD])
theorem flat_len {α β : Type} {g : α → List β} {n : Nat} : ∀ (l : List α), (∀ x ∈ l, (g x).length ≤ n) → (l.flatMap g).length ≤ n * l.length
  | [], _ => by simp
  | x :: l, h => by
    have h1 := h x (.head _)
    have h2 := flat_len l fun y hy => h y (.tail _ hy)
    rw [List.flatMap_cons, List.length_append, List.length_cons, Nat.mul_add, Nat.mul_one]
    omega
theorem take_flat {α β : Type} {g : α → List β} {l : List α} {i : Nat} {x : α} (e : l[i]? = some x) : (l.take (i + 1)).flatMap g = (l.take i).flatMap g ++ g x := by
  rw [List.take_succ, e, List.flatMap_append]
  simp
theorem frm_of {K : PySem.W.Frag} {H : Hp} {x : V} {d : PyData} {most : Int} (h : Rp K H x d) (z : frmD most d = true) : ∃ a u v c b l ss xs, x = .ref a ∧ d = .tuple [b, l, .tuple ss] ∧ SqT K H a [u, v, .ref c] ∧ SqT K H c xs ∧ RpAll K H xs ss ∧ (∀ e ∈ ss, ∃ es, e = .tuple es ∧ es.length ≤ 3) ∧ 1 ≤ ss.length ∧ (ss.length : Int) ≤ most := by
  by_cases y : tupD 3 3 d = true
  · obtain ⟨a, xs, ds, rfl, rfl, hS, hA, l1, l2⟩ := tup_of h y
    obtain ⟨u, v, t, b, l, e, rfl, rfl, hb, hl, he⟩ := hA.three (by omega)
    rw [frmD, Bool.and_eq_true, Bool.and_eq_true] at z
    have ht := tabD_tup z.2.2
    have hlen := ltrD_len z.2.1
    obtain ⟨c, ys, ss, rfl, rfl, hS2, hA2, l3, l4⟩ := tup_of he ht.1
    refine ⟨a, u, v, c, b, l, ss, ys, rfl, rfl, hS, hS2, hA2, fun e he => ?_, by omega, l4⟩
    have := ht.2 e he
    cases e with
    | tuple es =>
      rw [tupD, Bool.and_eq_true, decide_eq_true_eq, decide_eq_true_eq] at this
      exact ⟨es, rfl, by omega⟩
    | _ => exact absurd this (by simp [tupD])
  · rw [frmD_not y] at z
    cases z
theorem plnD_not {d : PyData} (z : ¬ frmD 300 d = true) : plnD d = false := by
  unfold plnD
  split
  · rw [eq_false_of_ne_true z, Bool.false_and]
  · rfl
theorem mchD_not {d : PyData} (z : ¬ frmD 4 d = true) : mchD d = false := by
  unfold mchD
  split
  · rw [eq_false_of_ne_true z, Bool.false_and]
  · rfl
theorem Rp.isTup {K : PySem.W.Frag} {H : Hp} {x : V} {es : List PyData} (h : Rp K H x (.tuple es)) : ∃ a ys, x = .ref a ∧ SqT K H a ys ∧ RpAll K H ys es := by
  cases h with
  | tup h1 h2 => exact ⟨_, _, rfl, h1, h2⟩
theorem chD_not {many : Int} {d : PyData} (z : ¬ tupD 1 3 d = true) : chD many d = false := by
  unfold chD
  split
  · rw [eq_false_of_ne_true z, Bool.false_and]
  · rfl
theorem betD_int {lo hi : Int} {d : PyData} (h : betD lo hi d = true) : ∃ i, d = .int i := by
  cases d with
  | int i => exact ⟨i, rfl⟩
  | _ => exact absurd h (by simp [betD])
theorem Rp.isInt {K : PySem.W.Frag} {H : Hp} {x : V} {i : Int} (h : Rp K H x (.int i)) : x = .int i := by
  cases h
  rfl
theorem pairs_of {K : PySem.W.Frag} {H : Hp} {most many : Int} : ∀ {vs : List V} {ds : List PyData}, RpAll K H vs ds → (∀ e ∈ ds, pairD most many e = true) →
    ∃ ks : List (Addr × List Int), vs = ks.map (fun p => V.ref p.1) ∧ (∀ p ∈ ks, SqT K H p.1 (p.2.map V.int)) ∧ ks.map (·.2) = ds.map keyD
  | _, _, .nil, _ => ⟨[], rfl, fun _ h => (nomatch h), rfl⟩
  | _, _, .cons (d := d) h t, al => by
    obtain ⟨ks, e1, e2, e3⟩ := pairs_of t fun e he => al e (.tail _ he)
    have hd := al d (.head _)
    by_cases z : tupD 2 2 d = true
    · obtain ⟨a, u, v, p, t, rfl, rfl, hS, hp, ht⟩ := h.two z
      rw [pairD, Bool.and_eq_true] at hd
      obtain ⟨i, rfl⟩ := betD_int hd.1
      obtain ⟨j, rfl⟩ := betD_int hd.2
      obtain rfl := hp.isInt
      obtain rfl := ht.isInt
      refine ⟨(a, [i, j]) :: ks, by rw [e1]; rfl, fun p hp => ?_, by rw [List.map_cons, e3]; rfl⟩
      rcases List.mem_cons.mp hp with rfl | hp
      · exact hS
      · exact e2 p hp
    · rw [pairD_not z] at hd
      cases hd
theorem len_seqK {X : Cx} {K : PySem.W.Frag} (e : X.K = K) : CallR X (.builtin "len") (fun xs H Q => ∃ p ys, xs = [.ref p] ∧ (SqL K H p ys ∨ SqT K H p ys) ∧ Q (.int ys.length) H) := by
  subst e
  exact call_len_seq
theorem pi_tupK {X : Cx} {K : PySem.W.Frag} {tg l : Expr} {tl : TE} (e : X.K = K) (h : PE X l tl) : PI X tg l (iTup K tl) := by
  subst e
  exact pi_tup h
structure LookTxt (K : PySem.W.Frag) (mg : Str → Option Value) (m1 m2 m3 m4 m6 m7 m12 : Addr) (n1 n2 n3 n4 n6 n7 n12 : FuncData) (t1 t2 : Tok) : Prop where
  type : mg "type" = none
  int : mg "int" = none
  tuple : mg "tuple" = none
  str : mg "str" = none
  len : mg "len" = none
  all : mg "all" = none
  range : mg "range" = none
  mLetters : mg "MOST_LETTERS" = some (.int 3 t1)
  mStates : mg "MOST_STATES" = some (.int 4 t2)
  FWhole : Fun K "is_whole" "is_whole" sWhole m1 n1
  bWhole : Binds K n1 ["thing"] []
  gWhole : mg "is_whole" = some (.ref m1)
  FBetween : Fun K "is_between" "is_between" sBetween m2 n2
  bBetween : Binds K n2 ["thing", "low", "high"] []
  gBetween : mg "is_between" = some (.ref m2)
  FTuple : Fun K "is_tuple" "is_tuple" sTuple m3 n3
  bTuple : Binds K n3 ["thing", "least", "most"] []
  gTuple : mg "is_tuple" = some (.ref m3)
  FLetters : Fun K "is_letters" "is_letters" sLetters m4 n4
  bLetters : Binds K n4 ["thing"] []
  gLetters : mg "is_letters" = some (.ref m4)
  FWayOn : Fun K "is_way_on" "is_way_on" sWayOn m6 n6
  bWayOn : Binds K n6 ["state", "many"] []
  gWayOn : mg "is_way_on" = some (.ref m6)
  FTable : Fun K "is_table" "is_table" sTable m7 n7
  bTable : Binds K n7 ["thing", "letters", "most"] []
  gTable : mg "is_table" = some (.ref m7)
  FRule : Fun K "is_rule" "is_rule" sRule m12 n12
  bRule : Binds K n12 ["thing"] []
  gRule : mg "is_rule" = some (.ref m12)
/-! ### the promises -/
def spWhole (K : PySem.W.Frag) : Sp := fun vs H Q _ => ∃ x d, vs = [x] ∧ Rp K H x d ∧ Q (.bl (decide (kindOf d = "int"))) H
def spBetween (K : PySem.W.Frag) : Sp := fun vs H Q _ => ∃ x d lo hi, vs = [x, .int lo, .int hi] ∧ Rp K H x d ∧ Q (.bl (betD lo hi d)) H
def spTuple (K : PySem.W.Frag) : Sp := fun vs H Q _ => ∃ x d lo hi, vs = [x, .int lo, .int hi] ∧ Rp K H x d ∧ Q (.bl (tupD lo hi d)) H
def spLetters (K : PySem.W.Frag) : Sp := fun vs H Q _ => ∃ x d, vs = [x] ∧ Rp K H x d ∧ ∀ H', Same H H' → Q (.bl (ltrD d)) H'
def spTable (K : PySem.W.Frag) : Sp := fun vs H Q _ => ∃ x d z most, vs = [x, .str z, .int most] ∧ Rp K H x d ∧ z.length ≤ sizeLine ∧ most < sizeLine ∧ ∀ H', Same H H' → Q (.bl (tabD z.length most d)) H'
def spWayOn (K : PySem.W.Frag) : Sp := fun vs H Q _ => ∃ a xs ds many, vs = [.ref a, .int many] ∧ SqT K H a xs ∧ RpAll K H xs ds ∧ ds.length ≤ 1000 ∧ ∀ H', Same H H' → Q (.bl (wayD many (.tuple ds))) H'
def spRule (K : PySem.W.Frag) : Sp := fun vs H Q _ => ∃ x d, vs = [x] ∧ Rp K H x d ∧ ∀ H', Same H H' → Q (.bl (rulD d)) H'
section
variable {P : Program} {w : World} {K : PySem.W.Frag} {mg : Str → Option Value} {base : Heap} {m1 m2 m3 m4 m6 m7 m12 : Addr} {n1 n2 n3 n4 n6 n7 n12 : FuncData} {t1 t2 : Tok}
theorem ok_whole (T : LookTxt K mg m1 m2 m3 m4 m6 m7 m12 n1 n2 n3 n4 n6 n7 n12 t1 t2) {k : Nat} : FnOk P w K mg base CX0 (k + 1) m1 n1 ["thing"] (spWhole K) := by
  refine T.FWhole.ok scWhole (fun vs H Q E h => ?_) (fun cdv A outer s H vs Q E hr h => ?_)
  · obtain ⟨x, t, rfl, _⟩ := h
    rfl
  · obtain ⟨x, d, rfl, hd, q⟩ := h
    refine ⟨_, (pss_one (ps_ret (pe_cmpR op_eqTy (pe_callTy call_type1 (by rfl) T.type (by decide +kernel) (pa_cons (pv 0) pa_nil)) (pe_bltn (v := .ty "int") (by rfl) T.int (by decide +kernel) rfl) (nomark _)))), ?_⟩
    exact ⟨_, rfl, _, _, rfl, hd.ty, _, _, rfl, rfl, tyB_ty hd.ty, TypeEq.meta_int, q⟩
theorem ok_between (T : LookTxt K mg m1 m2 m3 m4 m6 m7 m12 n1 n2 n3 n4 n6 n7 n12 t1 t2) {k : Nat} : FnOk P w K mg base CX0 (k + 2) m2 n2 ["thing", "low", "high"] (spBetween K) := by
  have GW : FnOk P w K mg base CX0 (k + 1) m1 n1 ["thing"] (spWhole K) := ok_whole T
  refine T.FBetween.ok scBetween (fun vs H Q E h => ?_) (fun cdv A outer s H vs Q E hr h => ?_)
  · obtain ⟨x, t, lo, hi, rfl, _⟩ := h
    rfl
  · obtain ⟨x, d, lo, hi, rfl, hd, q⟩ := h
    refine ⟨_, (pss_one (ps_ret (pe_and (pe_call GW hr (by rfl) T.gWhole T.FWhole.kp T.bWhole .nil pass0 (pa_cons (pv 0) pa_nil)) (pe_one (pe_chain op_le op_le (pv 1) (pv 0) (pv 2)))))), ?_⟩
    refine ⟨_, rfl, x, d, rfl, hd, _, rfl, ?_⟩
    cases hd with
    | int i =>
      refine ite2 (fun _ => ?_) (fun z => absurd (decide_eq_true rfl) z)
      refine ⟨_, rfl, _, rfl, _, _, rfl, rfl, _, rfl, ite2 (fun z => ?_) (fun z => ?_)⟩
      · refine ⟨_, rfl, _, _, rfl, rfl, ?_⟩
        rw [betD, z, Bool.true_and] at q
        exact q
      · rw [betD, eq_false_of_ne_true z, Bool.false_and] at q
        exact q
    | _ => exact ite2 (fun z => absurd (of_decide_eq_true z) (by simp [kindOf])) (fun _ => q)
theorem ok_tuple (T : LookTxt K mg m1 m2 m3 m4 m6 m7 m12 n1 n2 n3 n4 n6 n7 n12 t1 t2) {k : Nat} : FnOk P w K mg base CX0 (k + 1) m3 n3 ["thing", "least", "most"] (spTuple K) := by
  refine T.FTuple.ok scTuple (fun vs H Q E h => ?_) (fun cdv A outer s H vs Q E hr h => ?_)
  · obtain ⟨x, t, lo, hi, rfl, _⟩ := h
    rfl
  · obtain ⟨x, d, lo, hi, rfl, hd, q⟩ := h
    refine ⟨_, (pss_one (ps_ret (pe_and (pe_cmpR op_eqTy (pe_callTy call_type1 (by rfl) T.type (by decide +kernel) (pa_cons (pv 0) pa_nil)) (pe_bltn (v := .ty "tuple") (by rfl) T.tuple (by decide +kernel) rfl) (nomark _)) (pe_one (pe_chain op_le op_le (pv 1) (pe_callB call_len_seq (by rfl) T.len PySem.boot_len (pa_cons (pv 0) pa_nil)) (pv 2)))))), ?_⟩
    refine ⟨_, rfl, _, _, rfl, hd.ty, _, _, rfl, rfl, tyB_ty hd.ty, TypeEq.meta_tuple, _, rfl, ?_⟩
    cases hd with
    | @tup a xs ds h1 h2 =>
      refine ite2 (fun _ => ?_) (fun z => absurd (decide_eq_true rfl) z)
      refine ⟨_, rfl, _, rfl, a, xs, rfl, .inr h1, _, _, rfl, rfl, _, rfl, ?_⟩
      rw [h2.len]
      refine ite2 (fun z => ?_) (fun z => ?_)
      · refine ⟨_, rfl, _, _, rfl, rfl, ?_⟩
        rw [tupD, z, Bool.true_and] at q
        exact q
      · rw [tupD, eq_false_of_ne_true z, Bool.false_and] at q
        exact q
    | _ => exact ite2 (fun z => absurd (of_decide_eq_true z) (by simp [kindOf])) (fun _ => q)
theorem ok_letters (T : LookTxt K mg m1 m2 m3 m4 m6 m7 m12 n1 n2 n3 n4 n6 n7 n12 t1 t2) {k : Nat} : FnOk P w K mg base CX0 (k + 1) m4 n4 ["thing"] (spLetters K) := by
  refine T.FLetters.ok scLetters (fun vs H Q E h => ?_) (fun cdv A outer s H vs Q E hr h => ?_)
  · obtain ⟨x, t, rfl, _⟩ := h
    rfl
  · obtain ⟨x, d, rfl, hd, q⟩ := h
    refine ⟨_, (pss_cons (ps_if (PW.pt (pw_or (pt_cmpR op_neTy (pe_callTy call_type1 (by rfl) T.type (by decide +kernel) (pa_cons (pv 0) pa_nil)) (pe_bltn (v := .ty "str") (by rfl) T.str (by decide +kernel) rfl) (nomark _)) (pw_or1 (pt_not (pt_chain op_le op_le pe_int (pe_callB call_len_str (by rfl) T.len PySem.boot_len (pa_cons (pv 0) pa_nil)) (pe_glob (v := .int 3) (by rfl) T.mLetters ⟨_, rfl⟩)))))) (pss_one (ps_ret pe_bl)) pss_nil)
 (pss_cons (ps_setLc (i := 1) (own := [("at", 2)]) (g := gName 2) (tt := tYes) (by rfl) scLetters.nd rfl rfl (sw_true rfl rfl rfl (by decide +kernel)) (pi_range1 (by rfl) T.range (pa_cons (pe_op op_sub (pe_callB call_len_str (by rfl) T.len PySem.boot_len (pa_cons (pv 0) pa_nil)) pe_int) pa_nil)) (blkOk_by (N := ["thing", "ascending", "at"]) (sc := defScope sLetters) (by decide +kernel)) (fun _ _ _ _ _ => pg_name (i := 2) scLetters.nd rfl (Or.inl rfl)) (fun _ _ _ _ _ => pts_nil) (fun _ _ _ _ _ => (pe_cmpR op_lt_str (pe_ix ix_str (pv 0) (pv 2) (fun _ _ => rfl)) (pe_ix ix_str (pv 0) (pe_op op_add (pv 2) pe_int) (fun _ _ => rfl)) (nomark _))))
 (pss_one (ps_ret (pe_and (pe_callB (cr_all rfl) (by rfl) T.all (by decide +kernel) (pa_cons (pv 1) pa_nil)) (pe_and (pe_cmpR op_le_str pe_str (pe_ix ix_str (pv 0) pe_int (fun _ _ => rfl)) (nomark _)) (pe_one (pe_cmpR op_le_str (pe_ix ix_str (pv 0) (pe_un un_neg pe_int) (fun _ _ => rfl)) pe_str (nomark _))))))))), ?_⟩
    refine ⟨_, rfl, _, _, rfl, hd.ty, _, _, rfl, rfl, tyB_ty hd.ty, TypeEq.meta_str, _, rfl, ?_⟩
    by_cases hk : kindOf d = "str"
    · obtain ⟨z, rfl, rfl, hz⟩ := hd.isStr hk
      refine ite2 (fun y => absurd y (by simp [kindOf])) (fun _ => ?_)
      refine ⟨_, rfl, z, rfl, hz, _, _, rfl, rfl, _, rfl, ?_⟩
      by_cases hl : 1 ≤ z.length ∧ z.length ≤ 3
      · have e1 : (1 : Int) ≤ (z.length : Int) := by omega
        have e3 : (z.length : Int) ≤ 3 := by omega
        refine ite2 (fun _ => ?_) (fun y => absurd (decide_eq_true e1) y)
        refine ⟨_, _, rfl, rfl, _, rfl, ?_⟩
        refine ite2 (fun y => absurd y (by rw [decide_eq_true e3]; decide)) (fun _ => ?_)
        refine ⟨_, rfl, z, rfl, hz, _, _, rfl, rfl, ?_⟩
        refine ⟨_, rfl, by omega, by omega, fun D nD => ?_⟩
        have en : ((z.length : Int) - 1).toNat = z.length - 1 := by omega
        rw [en]
        have ll : z.cps.toList.length = z.length := Array.length_toList
        refine lc_range (lo := 0) (n := z.length - 1) (fun j H' => Same H H' ∧ H' D = some (.lst (((List.range j).map fun i => decide (z.cps.toList.getD i 0 < z.cps.toList.getD (i + 1) 0)).map V.bl))) ⟨same_upd nD, upd_same⟩ ?_ ?_
        · rintro j H' hj ⟨sm, hD⟩
          have a1 := nat_at (l := z.cps.toList) (j := j) (by omega)
          have a2 := nat_at (l := z.cps.toList) (j := j + 1) (by omega)
          refine ⟨rfl, ?_⟩
          refine ⟨_, rfl, _, rfl, z, _, _, rfl, rfl, hz, (by rw [Int.zero_add]; exact atI_nat a1), ?_⟩
          refine ⟨_, rfl, _, rfl, _, _, rfl, rfl, z, _, _, rfl, rfl, hz, (by rw [show (0 + (j : Int)) + 1 = ((j + 1 : Nat) : Int) by omega]; exact atI_nat a2), ?_⟩
          refine ⟨_, _, rfl, rfl, _, hD, ?_, same_new sm nD, ?_⟩
          · rw [List.length_map, List.length_map, List.length_range]
            exact Nat.lt_of_lt_of_le (show j < 3 by omega) (by decide)
          · rw [upd_same, List.range_succ, List.map_append, List.map_append]
            show some (HO.lst (_ ++ [V.bl (decide ([z.cps.toList.getD j 0] < [z.cps.toList.getD (j + 1) 0]))])) = _
            rw [one_lt]
            rfl
        · rintro H' ⟨sm, hD⟩
          have a1 := nat_at (l := z.cps.toList) (j := 0) (by omega)
          have a2 := nat_at (l := z.cps.toList) (j := z.cps.toList.length - 1) (by omega)
          have q1 := q H' sm
          rw [ltrD, letters_eq (by rw [ll]; exact hl), ll] at q1
          refine ⟨_, rfl, D, _, rfl, SqL.of hD, _, rfl, ite2 (fun y => ?_) (fun y => ?_)⟩
          · rw [y, Bool.true_and] at q1
            refine ⟨_, rfl, z, 0, _, rfl, rfl, hz, atI_nat (j := 0) a1, _, _, rfl, rfl, _, rfl, ite2 (fun u => ?_) (fun u => ?_)⟩
            · refine ⟨_, rfl, _, rfl, z, _, _, rfl, rfl, hz, (atI_last (by omega)).trans a2, _, _, rfl, rfl, ?_⟩
              rw [show (!decide ([z.cps.toList.getD 0 0] < [97])) = true from u, Bool.true_and] at q1
              rw [ll]
              exact q1
            · rw [show (!decide ([z.cps.toList.getD 0 0] < [97])) = false from eq_false_of_ne_true u, Bool.false_and] at q1
              exact q1
          · rw [eq_false_of_ne_true y, Bool.false_and] at q1
            exact q1
      · have q0 := q H (Same.refl H)
        rw [ltrD, lettersL_not hl] at q0
        refine ite2 (fun y => ?_) (fun y => ?_)
        · refine ⟨_, _, rfl, rfl, _, rfl, ?_⟩
          refine ite2 (fun _ => q0) (fun z3 => absurd ?_ z3)
          have y1 := of_decide_eq_true y
          rw [decide_eq_false (by omega)]
          rfl
        · exact ⟨_, rfl, ite2 (fun _ => q0) (fun u => absurd rfl u)⟩
    · refine ite2 (fun _ => ?_) (fun y => absurd (by rw [decide_eq_false hk]; rfl) y)
      have q0 := q H (Same.refl H)
      rw [ltrD_not hk] at q0
      exact q0
theorem ok_table (T : LookTxt K mg m1 m2 m3 m4 m6 m7 m12 n1 n2 n3 n4 n6 n7 n12 t1 t2) {k : Nat} : FnOk P w K mg base CX0 (k + 2) m7 n7 ["thing", "letters", "most"] (spTable K) := by
  have GT : FnOk P w K mg base CX0 (k + 1) m3 n3 ["thing", "least", "most"] (spTuple K) := ok_tuple T
  refine T.FTable.ok scTable (fun vs H Q E h => ?_) (fun cdv A outer s H vs Q E hr h => ?_)
  · obtain ⟨x, d, z, most, rfl, _⟩ := h
    rfl
  · obtain ⟨x, d, z, most, rfl, hd, hz, hm, q⟩ := h
    refine ⟨_, (pss_cons (ps_if (pt_not (pt_val (pe_call GT hr (by rfl) T.gTuple T.FTuple.kp T.bTuple .nil pass0 (pa_cons (pv 0) (pa_cons pe_int (pa_cons (pv 2) pa_nil)))))) (pss_one (ps_ret pe_bl)) pss_nil)
 (pss_one (ps_ret (pe_callB (cr_all rfl) (by rfl) T.all (by decide +kernel) (pa_cons (pe_lc (own := [("state", 3)]) (g := gName 3) (tt := tYes) (by rfl) scTable.nd (pi_tup (pv 0)) (blkOk_by (N := ["thing", "letters", "most", "state"]) (sc := defScope sTable) (by decide +kernel)) (fun _ _ _ _ _ => pg_name (i := 3) scTable.nd rfl (Or.inl rfl)) (fun _ _ _ _ _ => pts_nil) (fun _ _ _ _ _ => (pe_call GT hr (by rfl) T.gTuple T.FTuple.kp T.bTuple .nil pass0 (pa_cons (pv 3) (pa_cons (pe_callB call_len_str (by rfl) T.len PySem.boot_len (pa_cons (pv 1) pa_nil)) (pa_cons (pe_callB call_len_str (by rfl) T.len PySem.boot_len (pa_cons (pv 1) pa_nil)) pa_nil)))))) pa_nil))))), ?_⟩
    refine ⟨_, rfl, _, rfl, x, d, 1, most, rfl, hd, ?_⟩
    by_cases y : tupD 1 most d = true
    · obtain ⟨a, xs, ds, rfl, rfl, hS, hA, l1, l2⟩ := tup_of hd y
      refine ⟨_, rfl, ite2 (fun u => absurd u (by rw [y]; decide)) (fun _ => ?_)⟩
      refine ⟨_, rfl, a, rfl, ⟨xs, hS⟩, fun D nD => ?_⟩
      refine lc_tupO (xs := xs) (fun j H' => Same H H' ∧ H' D = some (.lst (((ds.take j).map (tupD (z.length : Int) (z.length : Int))).map V.bl))) ⟨same_upd nD, upd_same⟩ (fun i H' h => same_tup h.1 hS) ?_ ?_
      · rintro i u H' hu ⟨sm, hD⟩
        obtain ⟨e, he, re⟩ := hA.at hu
        refine ⟨rfl, ?_⟩
        refine ⟨_, rfl, _, rfl, z, rfl, hz, _, rfl, z, rfl, hz, u, e, _, _, rfl, re.go sm, _, hD, ?_, same_new sm nD, ?_⟩
        · rw [List.length_map, List.length_map]
          have := List.length_take_le' i ds
          omega
        · rw [upd_same, take_all he, List.map_append]
          rfl
      · rintro H' ⟨sm, hD⟩
        have q1 := q H' sm
        refine ⟨D, _, rfl, SqL.of hD, ?_⟩
        rw [hA.len, List.take_length, all_map]
        rw [tabD, y, Bool.true_and] at q1
        exact q1
    · refine ⟨_, rfl, ite2 (fun _ => ?_) (fun u => absurd (by rw [eq_false_of_ne_true y]; rfl) u)⟩
      have q1 := q H (Same.refl H)
      rw [tabD_not y] at q1
      exact q1
theorem ok_wayOn (T : LookTxt K mg m1 m2 m3 m4 m6 m7 m12 n1 n2 n3 n4 n6 n7 n12 t1 t2) {k : Nat} : FnOk P w K mg base CX0 (k + 3) m6 n6 ["state", "many"] (spWayOn K) := by
  have GB : FnOk P w K mg base CX0 (k + 2) m2 n2 ["thing", "low", "high"] (spBetween K) := ok_between T
  refine T.FWayOn.ok scWayOn (fun vs H Q E h => ?_) (fun cdv A outer s H vs Q E hr h => ?_)
  · obtain ⟨a, xs, ds, many, rfl, _⟩ := h
    rfl
  · obtain ⟨a, xs, ds, many, rfl, hS, hA, hl, q⟩ := h
    refine ⟨_, (pss_cons (ps_setLc (i := 2) (own := [("target", 3)]) (g := gName 3) (by rfl) scWayOn.nd rfl rfl (sw_true rfl rfl rfl (by decide +kernel)) (pi_tup (pv 0)) (blkOk_by (N := ["state", "many", "targets", "target"]) (sc := defScope sWayOn) (by decide +kernel)) (fun _ _ _ _ _ => pg_name (i := 3) scWayOn.nd rfl (Or.inl rfl)) (fun _ _ _ _ _ => (pts_one (pt_cmpR op_notN (pv 3) pe_non (nomark _)))) (fun _ _ _ _ _ => (pv 3)))
 (pss_one (ps_ret (pe_and (pe_cmpR op_gt (pe_callB call_len_seq (by rfl) T.len PySem.boot_len (pa_cons (pv 2) pa_nil)) pe_int (nomark _)) (pe_one (pe_callB (cr_all rfl) (by rfl) T.all (by decide +kernel) (pa_cons (pe_lc (own := [("target", 3)]) (g := gName 3) (tt := tYes) (by rfl) scWayOn.nd (pi_list (pv 2)) (blkOk_by (N := ["state", "many", "targets", "target"]) (sc := defScope sWayOn) (by decide +kernel)) (fun _ _ _ _ _ => pg_name (i := 3) scWayOn.nd rfl (Or.inl rfl)) (fun _ _ _ _ _ => pts_nil) (fun _ _ _ _ _ => (pe_call GB hr (by rfl) T.gBetween T.FBetween.kp T.bBetween .nil pass0 (pa_cons (pv 3) (pa_cons pe_int (pa_cons (pe_op op_sub (pv 1) pe_int) pa_nil)))))) pa_nil))))))), ?_⟩
    refine ⟨_, rfl, a, rfl, ⟨xs, hS⟩, fun D nD => ?_⟩
    refine lc_tupO (xs := xs) (fun j H' => Same H H' ∧ H' D = some (.lst ((xs.take j).filter someV))) ⟨same_upd nD, upd_same⟩ (fun i H' h => same_tup h.1 hS) ?_ ?_
    · rintro i u H' hu ⟨sm, hD⟩
      refine ⟨rfl, ?_⟩
      refine ⟨_, rfl, rfl, _, rfl, ite2 (fun z => ?_) (fun z => ?_)⟩
      · refine ⟨_, rfl, _, hD, ?_, same_new sm nD, ?_⟩
        · have h1 := List.length_filter_le someV (xs.take i)
          have h2 := List.length_take_le' i xs
          have h3 := hA.len
          exact Nat.lt_of_le_of_lt (show _ ≤ 1000 by omega) (by decide)
        · rw [upd_same, List.take_succ, hu, List.filter_append]
          show _ = some (HO.lst (_ ++ [u].filter someV))
          rw [List.filter_cons, someV_eq, z]
          rfl
      · refine ⟨sm, ?_⟩
        rw [hD, List.take_succ, hu, List.filter_append]
        show _ = some (HO.lst (_ ++ [u].filter someV))
        rw [List.filter_cons, someV_eq, eq_false_of_ne_true z]
        simp
    · rintro H' ⟨sm, hD⟩
      rw [List.take_length] at hD
      have hF := hA.some
      have hl2 : (ds.filter someD).length ≤ 1000 := Nat.le_trans (List.length_filter_le _ _) hl
      refine ⟨_, rfl, D, _, rfl, .inl (SqL.of hD), _, _, rfl, rfl, _, rfl, ?_⟩
      rw [hF.len]
      refine ite2 (fun z => ?_) (fun z => ?_)
      · refine ⟨_, rfl, D, rfl, ⟨_, SqL.of hD⟩, fun D2 nD2 => ?_⟩
        refine lc_lstO (xs := xs.filter someV) (fun j H2 => Same H' H2 ∧ H2 D2 = some (.lst ((((ds.filter someD).take j).map (betD 0 (many - 1))).map V.bl))) ⟨same_upd nD2, upd_same⟩ (fun i H2 h => h.1.seq (SqL.of hD)) ?_ ?_
        · rintro i u H2 hu ⟨s2, hD2⟩
          obtain ⟨e, he, re⟩ := hF.at hu
          refine ⟨rfl, ?_⟩
          refine ⟨_, rfl, _, rfl, _, _, rfl, rfl, u, e, _, _, rfl, re.go (sm.trans s2), _, hD2, ?_, same_new s2 nD2, ?_⟩
          · rw [List.length_map, List.length_map]
            have := List.length_take_le' i (ds.filter someD)
            exact Nat.lt_of_le_of_lt (show _ ≤ 1000 by omega) (by decide)
          · rw [upd_same, take_all he, List.map_append]
            rfl
        · rintro H2 ⟨s2, hD2⟩
          have q1 := q H2 (sm.trans s2)
          refine ⟨D2, _, rfl, SqL.of hD2, ?_⟩
          rw [hF.len, List.take_length, all_map]
          rw [wayD, z, Bool.true_and] at q1
          exact q1
      · have q1 := q H' sm
        rw [wayD, eq_false_of_ne_true z, Bool.false_and] at q1
        exact q1
theorem ok_rule (T : LookTxt K mg m1 m2 m3 m4 m6 m7 m12 n1 n2 n3 n4 n6 n7 n12 t1 t2) {k : Nat} : FnOk P w K mg base CX0 (k + 4) m12 n12 ["thing"] (spRule K) := by
  have GT : FnOk P w K mg base CX0 (k + 3) m3 n3 ["thing", "least", "most"] (spTuple K) := ok_tuple T
  have GL : FnOk P w K mg base CX0 (k + 3) m4 n4 ["thing"] (spLetters K) := ok_letters T
  have GA : FnOk P w K mg base CX0 (k + 3) m7 n7 ["thing", "letters", "most"] (spTable K) := ok_table T
  have GW : FnOk P w K mg base CX0 (k + 3) m6 n6 ["state", "many"] (spWayOn K) := ok_wayOn T
  refine T.FRule.ok scRule (fun vs H Q E h => ?_) (fun cdv A outer s H vs Q E hr h => ?_)
  · obtain ⟨x, d, rfl, _⟩ := h
    rfl
  · obtain ⟨x, d, rfl, hd, q⟩ := h
    refine ⟨_, (pss_cons (ps_if (pt_not (pt_val (pe_call GT hr (by rfl) T.gTuple T.FTuple.kp T.bTuple .nil pass0 (pa_cons (pv 0) (pa_cons pe_int (pa_cons pe_int pa_nil)))))) (pss_one (ps_ret pe_bl)) pss_nil)
 (pss_cons (ps_asg (pv 0) (pg_tup rfl (pgs_cons (pg_name (i := 1) scRule.nd rfl (.inl rfl)) (pgs_cons (pg_name (i := 2) scRule.nd rfl (.inr rfl)) pgs_nil))))
 (pss_cons (ps_if (PW.pt (pw_or (pt_not (pt_val (pe_call GL hr (by rfl) T.gLetters T.FLetters.kp T.bLetters .nil pass0 (pa_cons (pv 1) pa_nil)))) (pw_or1 (pt_not (pt_val (pe_call GA hr (by rfl) T.gTable T.FTable.kp T.bTable .nil pass0 (pa_cons (pv 2) (pa_cons (pv 1) (pa_cons (pe_glob (v := .int 4) (by rfl) T.mStates ⟨_, rfl⟩) pa_nil))))))))) (pss_one (ps_ret pe_bl)) pss_nil)
 (pss_one (ps_ret (pe_callB (cr_all rfl) (by rfl) T.all (by decide +kernel) (pa_cons (pe_lc (own := [("state", 3)]) (g := gName 3) (tt := tYes) (by rfl) scRule.nd (pi_tup (pv 2)) (blkOk_by (N := ["thing", "letters", "states", "state"]) (sc := defScope sRule) (by decide +kernel)) (fun _ _ _ _ _ => pg_name (i := 3) scRule.nd rfl (Or.inl rfl)) (fun _ _ _ _ _ => pts_nil) (fun _ _ _ _ _ => (pe_call GW hr (by rfl) T.gWayOn T.FWayOn.kp T.bWayOn .nil pass0 (pa_cons (pv 3) (pa_cons (pe_callB (len_seqK (K := K) rfl) (by rfl) T.len PySem.boot_len (pa_cons (pv 2) pa_nil)) pa_nil))))) pa_nil))))))), ?_⟩
    refine ⟨_, rfl, x, d, 2, 2, rfl, hd, ?_⟩
    by_cases y : tupD 2 2 d = true
    · obtain ⟨a, u, v, l, st, rfl, rfl, hS, hl, hst⟩ := hd.two y
      refine ⟨_, rfl, ite2 (fun u => absurd u (by rw [y]; decide)) (fun _ => ?_)⟩
      refine ⟨_, rfl, a, _, rfl, hS, rfl, u, [v], rfl, v, [], rfl, rfl, ?_⟩
      have bad : ∀ H', Same H H' → (ltrD l && tabD (lenD l) 4 st) = false → Q (.bl false) H' := fun H' s' e => by
        have q1 := q H' s'
        have : rulD (.tuple [l, st]) = false := by
          cases st with
          | tuple ss => rw [rulD, ← Bool.and_assoc, e, Bool.false_and]
          | _ => rfl
        rw [this] at q1
        exact q1
      refine ⟨_, rfl, u, l, rfl, hl, fun H1 s1 => ⟨_, rfl, ?_⟩⟩
      by_cases zl : ltrD l = true
      · obtain ⟨w1, rfl, rfl, hw⟩ := hl.isStr (ltrD_str zl)
        refine ite2 (fun u => absurd u (by rw [zl]; decide)) (fun _ => ?_)
        refine ⟨_, rfl, _, rfl, v, st, w1, 4, rfl, hst.go s1, hw, (by decide), fun H2 s2 => ⟨_, rfl, ?_⟩⟩
        by_cases zt : tabD w1.length 4 st = true
        · refine ite2 (fun u => absurd u (by rw [zt]; decide)) (fun _ => ?_)
          have ht := tabD_tup zt
          obtain ⟨b, xs, ds, rfl, rfl, hS2, hA, l1, l2⟩ := tup_of hst ht.1
          have s12 := s1.trans s2
          refine ⟨_, rfl, b, rfl, ⟨xs, same_tup s12 hS2⟩, fun D nD => ?_⟩
          refine lc_tupO (xs := xs) (fun j H' => Same H2 H' ∧ H' D = some (.lst (((ds.take j).map (wayD (ds.length : Int))).map V.bl))) ⟨same_upd nD, upd_same⟩ (fun i H' h => same_tup (s12.trans h.1) hS2) ?_ ?_
          · rintro i u H' hu ⟨sm, hD⟩
            obtain ⟨e, he, re⟩ := hA.at hu
            obtain ⟨a2, ys, es, rfl, rfl, hS3, hA3, l3, l4⟩ := tup_of re (ht.2 e (List.mem_of_getElem? he))
            have lw := ltrD_len zl
            have s13 := s12.trans sm
            refine ⟨rfl, ?_⟩
            refine ⟨_, rfl, _, rfl, b, xs, rfl, .inr (same_tup s13 hS2), a2, ys, es, _, rfl, same_tup s13 hS3, ?_, ?_, fun H3 s3 => ?_⟩
            · exact hA3.go s13
            · have l5 : w1.length ≤ 3 := lw
              omega
            · refine ⟨_, s3 _ _ hD, ?_, same_new (sm.trans s3) nD, ?_⟩
              · rw [List.length_map, List.length_map]
                have := List.length_take_le' i ds
                exact Nat.lt_of_le_of_lt (show _ ≤ 1000 by omega) (by decide)
              · rw [upd_same, take_all he, List.map_append, hA.len]
                rfl
          · rintro H' ⟨sm, hD⟩
            have q1 := q H' (s12.trans sm)
            refine ⟨D, _, rfl, SqL.of hD, ?_⟩
            rw [hA.len, List.take_length, all_map]
            rw [rulD, show lenD (.str w1) = w1.length from rfl, zl, zt, Bool.true_and, Bool.true_and] at q1
            exact q1
        · refine ite2 (fun _ => ?_) (fun u => absurd (by rw [eq_false_of_ne_true zt]; rfl) u)
          exact bad H2 (s1.trans s2) (by rw [show lenD (.str w1) = w1.length from rfl, eq_false_of_ne_true zt, Bool.and_false])
      · refine ite2 (fun _ => ?_) (fun u => absurd (by rw [eq_false_of_ne_true zl]; rfl) u)
        exact bad H1 s1 (by rw [eq_false_of_ne_true zl, Bool.false_and])
    · refine ⟨_, rfl, ite2 (fun _ => ?_) (fun u => absurd (by rw [eq_false_of_ne_true y]; rfl) u)⟩
      have q1 := q H (Same.refl H)
      rw [rulD_not y] at q1
      exact q1
end
end My
/-! ### machines -/
namespace My
open PySem PySem.Spec PyProof.Rows L2
abbrev sPair : Stmt := topS 32
abbrev sFrame : Stmt := topS 29
abbrev sChoice : Stmt := topS 31
abbrev sMachine : Stmt := topS 23
abbrev sPlain : Stmt := topS 24
theorem scPair : FnScope ["thing", "most", "many", "pay", "state"] ["thing", "most", "many"] (defScope sPair) := ⟨rfl, rfl, rfl, by decide +kernel, rfl, by decide +kernel, by decide +kernel⟩
theorem scFrame : FnScope ["thing", "most", "base", "letters", "states"] ["thing", "most"] (defScope sFrame) := ⟨rfl, rfl, rfl, by decide +kernel, rfl, by decide +kernel, by decide +kernel⟩
theorem scChoice : FnScope ["thing", "many", "pair"] ["thing", "many"] (defScope sChoice) := ⟨rfl, rfl, rfl, by decide +kernel, rfl, by decide +kernel, by decide +kernel⟩
theorem scMachine : FnScope ["thing", "states", "state", "choice"] ["thing"] (defScope sMachine) := ⟨rfl, rfl, rfl, by decide +kernel, rfl, by decide +kernel, by decide +kernel⟩
theorem scPlain : FnScope ["thing", "states", "state", "pair"] ["thing"] (defScope sPlain) := ⟨rfl, rfl, rfl, by decide +kernel, rfl, by decide +kernel, by decide +kernel⟩
structure MachTxt (K : PySem.W.Frag) (mg : Str → Option Value) (m1 m2 m3 m4 m5 m6 m7 m8 m9 m10 m11 m12 : Addr) (n1 n2 n3 n4 n5 n6 n7 n8 n9 n10 n11 n12 : FuncData) (t1 t2 t3 t4 t5 : Tok) : Prop where
  look : LookTxt K mg m1 m2 m3 m4 m6 m7 m12 n1 n2 n3 n4 n6 n7 n12 t1 t2
  set : mg "set" = none
  mPlain : mg "MOST_PLAIN_STATES" = some (.int 300 t3)
  mWide : ∃ t, mg "MOST_PLAIN_PAY" = some (.int ((10 : Int) ^ (30 : Int).toNat) t)
  mPairs : mg "MOST_PAIRS" = some (.int 3 t4)
  mPay : mg "MOST_PAY" = some (.int 20 t5)
  FPair : Fun K "is_pair" "is_pair" sPair m5 n5
  bPair : Binds K n5 ["thing", "most", "many"] []
  gPair : mg "is_pair" = some (.ref m5)
  FFrame : Fun K "is_frame" "is_frame" sFrame m8 n8
  bFrame : Binds K n8 ["thing", "most"] []
  gFrame : mg "is_frame" = some (.ref m8)
  FChoice : Fun K "is_choice" "is_choice" sChoice m9 n9
  bChoice : Binds K n9 ["thing", "many"] []
  gChoice : mg "is_choice" = some (.ref m9)
  FMachine : Fun K "is_machine" "is_machine" sMachine m10 n10
  bMachine : Binds K n10 ["thing"] []
  gMachine : mg "is_machine" = some (.ref m10)
  FPlain : Fun K "is_plain" "is_plain" sPlain m11 n11
  bPlain : Binds K n11 ["thing"] []
  gPlain : mg "is_plain" = some (.ref m11)
/-! ### the promises -/
def spPair (K : PySem.W.Frag) : Sp := fun vs H Q _ => ∃ x d most many, vs = [x, .int most, .int many] ∧ Rp K H x d ∧ Q (.bl (pairD most many d)) H
def spFrame (K : PySem.W.Frag) : Sp := fun vs H Q _ => ∃ x d most, vs = [x, .int most] ∧ Rp K H x d ∧ most < sizeLine ∧ ∀ H', Same H H' → Q (.bl (frmD most d)) H'
def spChoice (K : PySem.W.Frag) : Sp := fun vs H Q _ => ∃ x d many, vs = [x, .int many] ∧ Rp K H x d ∧ ∀ H', Same H H' → Q (.bl (chD many d)) H'
def spPlain (K : PySem.W.Frag) : Sp := fun vs H Q _ => ∃ x d, vs = [x] ∧ Rp K H x d ∧ ∀ H', Same H H' → Q (.bl (plnD d)) H'
def spMachine (K : PySem.W.Frag) : Sp := fun vs H Q _ => ∃ x d, vs = [x] ∧ Rp K H x d ∧ ∀ H', Same H H' → Q (.bl (mchD d)) H'
section
variable {P : Program} {w : World} {K : PySem.W.Frag} {mg : Str → Option Value} {base : Heap} {m1 m2 m3 m4 m5 m6 m7 m8 m9 m10 m11 m12 : Addr} {n1 n2 n3 n4 n5 n6 n7 n8 n9 n10 n11 n12 : FuncData} {t1 t2 t3 t4 t5 : Tok}
theorem ok_pair (T : MachTxt K mg m1 m2 m3 m4 m5 m6 m7 m8 m9 m10 m11 m12 n1 n2 n3 n4 n5 n6 n7 n8 n9 n10 n11 n12 t1 t2 t3 t4 t5) {k : Nat} : FnOk P w K mg base CX0 (k + 3) m5 n5 ["thing", "most", "many"] (spPair K) := by
  have GB : FnOk P w K mg base CX0 (k + 2) m2 n2 ["thing", "low", "high"] (spBetween K) := ok_between T.look
  have GT : FnOk P w K mg base CX0 (k + 2) m3 n3 ["thing", "least", "most"] (spTuple K) := ok_tuple T.look
  refine T.FPair.ok scPair (fun vs H Q E h => ?_) (fun cdv A outer s H vs Q E hr h => ?_)
  · obtain ⟨x, t, lo, hi, rfl, _⟩ := h
    rfl
  · obtain ⟨x, d, most, many, rfl, hd, q⟩ := h
    refine ⟨_, (pss_cons (ps_if (pt_not (pt_val (pe_call GT hr (by rfl) T.look.gTuple T.look.FTuple.kp T.look.bTuple .nil pass0 (pa_cons (pv 0) (pa_cons pe_int (pa_cons pe_int pa_nil)))))) (pss_one (ps_ret pe_bl)) pss_nil)
 (pss_cons (ps_asg (pv 0) (pg_tup rfl (pgs_cons (pg_name (i := 3) scPair.nd rfl (.inl rfl)) (pgs_cons (pg_name (i := 4) scPair.nd rfl (.inl rfl)) pgs_nil))))
 (pss_one (ps_ret (pe_and (pe_call GB hr (by rfl) T.look.gBetween T.look.FBetween.kp T.look.bBetween .nil pass0 (pa_cons (pv 3) (pa_cons (pe_un un_neg (pv 1)) (pa_cons (pv 1) pa_nil)))) (pe_one (pe_call GB hr (by rfl) T.look.gBetween T.look.FBetween.kp T.look.bBetween .nil pass0 (pa_cons (pv 4) (pa_cons pe_int (pa_cons (pe_op op_sub (pv 2) pe_int) pa_nil)))))))))), ?_⟩
    refine ⟨_, rfl, x, d, 2, 2, rfl, hd, ?_⟩
    by_cases z : tupD 2 2 d = true
    · obtain ⟨a, u, v, p, t, rfl, rfl, hS, hp, ht⟩ := hd.two z
      refine ⟨_, rfl, ite2 (fun y => absurd y (by rw [z]; decide)) (fun _ => ?_)⟩
      refine ⟨_, rfl, a, _, rfl, hS, rfl, u, [v], rfl, v, [], rfl, rfl, ?_⟩
      refine ⟨_, rfl, _, rfl, _, rfl, _, rfl, u, p, _, _, rfl, hp, _, rfl, ?_⟩
      refine ite2 (fun y => ?_) (fun y => ?_)
      · refine ⟨_, rfl, _, rfl, _, _, rfl, rfl, v, t, _, _, rfl, ht, ?_⟩
        rw [pairD, y, Bool.true_and] at q
        exact q
      · rw [pairD, eq_false_of_ne_true y, Bool.false_and] at q
        exact q
    · refine ⟨_, rfl, ite2 (fun _ => ?_) (fun y => absurd (by rw [eq_false_of_ne_true z]; rfl) y)⟩
      rw [pairD_not z] at q
      exact q
theorem ok_frame (T : MachTxt K mg m1 m2 m3 m4 m5 m6 m7 m8 m9 m10 m11 m12 n1 n2 n3 n4 n5 n6 n7 n8 n9 n10 n11 n12 t1 t2 t3 t4 t5) {k : Nat} : FnOk P w K mg base CX0 (k + 3) m8 n8 ["thing", "most"] (spFrame K) := by
  have GT : FnOk P w K mg base CX0 (k + 2) m3 n3 ["thing", "least", "most"] (spTuple K) := ok_tuple T.look
  have GB : FnOk P w K mg base CX0 (k + 2) m2 n2 ["thing", "low", "high"] (spBetween K) := ok_between T.look
  have GL : FnOk P w K mg base CX0 (k + 2) m4 n4 ["thing"] (spLetters K) := ok_letters T.look
  have GA : FnOk P w K mg base CX0 (k + 2) m7 n7 ["thing", "letters", "most"] (spTable K) := ok_table T.look
  refine T.FFrame.ok scFrame (fun vs H Q E h => ?_) (fun cdv A outer s H vs Q E hr h => ?_)
  · obtain ⟨x, d, most, rfl, _⟩ := h
    rfl
  · obtain ⟨x, d, most, rfl, hd, hm, q⟩ := h
    refine ⟨_, (pss_cons (ps_if (pt_not (pt_val (pe_call GT hr (by rfl) T.look.gTuple T.look.FTuple.kp T.look.bTuple .nil pass0 (pa_cons (pv 0) (pa_cons pe_int (pa_cons pe_int pa_nil)))))) (pss_one (ps_ret pe_bl)) pss_nil)
 (pss_cons (ps_asg (pv 0) (pg_tup rfl (pgs_cons (pg_name (i := 2) scFrame.nd rfl (.inl rfl)) (pgs_cons (pg_name (i := 3) scFrame.nd rfl (.inl rfl)) (pgs_cons (pg_name (i := 4) scFrame.nd rfl (.inl rfl)) pgs_nil)))))
 (pss_one (ps_ret (pe_and (pe_call GB hr (by rfl) T.look.gBetween T.look.FBetween.kp T.look.bBetween .nil pass0 (pa_cons (pv 2) (pa_cons pe_int (pa_cons pe_int pa_nil)))) (pe_and (pe_call GL hr (by rfl) T.look.gLetters T.look.FLetters.kp T.look.bLetters .nil pass0 (pa_cons (pv 3) pa_nil)) (pe_one (pe_call GA hr (by rfl) T.look.gTable T.look.FTable.kp T.look.bTable .nil pass0 (pa_cons (pv 4) (pa_cons (pv 3) (pa_cons (pv 1) pa_nil))))))))))), ?_⟩
    refine ⟨_, rfl, x, d, 3, 3, rfl, hd, ?_⟩
    by_cases y : tupD 3 3 d = true
    · obtain ⟨a, xs, ds, rfl, rfl, hS, hA, l1, l2⟩ := tup_of hd y
      obtain ⟨u, v, t, b, l, e, rfl, rfl, hb, hl, he⟩ := hA.three (by omega)
      refine ⟨_, rfl, ite2 (fun u => absurd u (by rw [y]; decide)) (fun _ => ?_)⟩
      refine ⟨_, rfl, a, _, rfl, hS, rfl, u, [v, t], rfl, v, [t], rfl, t, [], rfl, rfl, ?_⟩
      refine ⟨_, rfl, u, b, _, _, rfl, hb, _, rfl, ite2 (fun z => ?_) (fun z => ?_)⟩
      · refine ⟨_, rfl, v, l, rfl, hl, fun H1 s1 => ⟨_, rfl, ite2 (fun zl => ?_) (fun zl => ?_)⟩⟩
        · obtain ⟨w1, rfl, rfl, hw⟩ := hl.isStr (ltrD_str zl)
          refine ⟨_, rfl, _, rfl, _, rfl, t, e, w1, most, rfl, he.go s1, hw, hm, fun H2 s2 => ?_⟩
          have q1 := q H2 (s1.trans s2)
          rw [frmD, z, zl, Bool.true_and, Bool.true_and] at q1
          exact q1
        · have q1 := q H1 s1
          rw [frmD, eq_false_of_ne_true zl, Bool.false_and, Bool.and_false] at q1
          exact q1
      · have q1 := q H (Same.refl H)
        rw [frmD, eq_false_of_ne_true z, Bool.false_and] at q1
        exact q1
    · refine ⟨_, rfl, ite2 (fun _ => ?_) (fun u => absurd (by rw [eq_false_of_ne_true y]; rfl) u)⟩
      have q1 := q H (Same.refl H)
      rw [frmD_not y] at q1
      exact q1
theorem ok_plain (T : MachTxt K mg m1 m2 m3 m4 m5 m6 m7 m8 m9 m10 m11 m12 n1 n2 n3 n4 n5 n6 n7 n8 n9 n10 n11 n12 t1 t2 t3 t4 t5) {k : Nat} : FnOk P w K mg base CX0 (k + 4) m11 n11 ["thing"] (spPlain K) := by
  have GF : FnOk P w K mg base CX0 (k + 3) m8 n8 ["thing", "most"] (spFrame K) := ok_frame T
  have GP : FnOk P w K mg base CX0 (k + 3) m5 n5 ["thing", "most", "many"] (spPair K) := ok_pair T
  refine T.FPlain.ok scPlain (fun vs H Q E h => ?_) (fun cdv A outer s H vs Q E hr h => ?_)
  · obtain ⟨x, d, rfl, _⟩ := h
    rfl
  · obtain ⟨x, d, rfl, hd, q⟩ := h
    obtain ⟨tW, hWide⟩ := T.mWide
    refine ⟨_, (pss_cons (ps_if (pt_not (pt_val (pe_call GF hr (by rfl) T.gFrame T.FFrame.kp T.bFrame .nil pass0 (pa_cons (pv 0) (pa_cons (pe_glob (v := .int 300) (by rfl) T.mPlain ⟨_, rfl⟩) pa_nil))))) (pss_one (ps_ret pe_bl)) pss_nil)
 (pss_cons (ps_set (i := 1) scPlain.nd rfl (.inr rfl) (pe_ix ix_tup (pv 0) pe_int (fun _ _ => rfl)))
 (pss_one (ps_ret (pe_callB (cr_all rfl) (by rfl) T.look.all (by decide +kernel) (pa_cons (pe_lc2 (own := [("state", 2), ("pair", 3)]) (vs1 := [3]) (g := gName 2) (g1 := gName 3) (tt := tYes) (tt1 := tYes) (by rfl) scPlain.nd (pi_tup (pv 1)) (blkOk_by (N := ["thing", "states", "state", "pair"]) (sc := defScope sPlain) (by decide +kernel)) (by decide) (fun _ _ _ _ _ => pg_name (i := 2) scPlain.nd rfl (Or.inl rfl)) (fun _ _ _ _ _ => pts_nil) (fun _ _ _ _ _ => (pi_tupK (K := K) rfl (pv 2))) (fun _ _ _ _ _ => pg_name (i := 3) scPlain.nd rfl (Or.inl rfl)) (fun _ _ _ _ _ => pts_nil) (fun _ _ _ _ _ => (pe_call GP hr (by rfl) T.gPair T.FPair.kp T.bPair .nil pass0 (pa_cons (pv 3) (pa_cons (pe_glob (v := .int ((10 : Int) ^ (30 : Int).toNat)) (by rfl) hWide ⟨_, rfl⟩) (pa_cons (pe_callB (len_seqK (K := K) rfl) (by rfl) T.look.len PySem.boot_len (pa_cons (pv 1) pa_nil)) pa_nil)))))) pa_nil)))))), ?_⟩
    refine ⟨_, rfl, x, d, 300, rfl, hd, (by decide), fun H1 s1 => ⟨_, rfl, ?_⟩⟩
    by_cases y : frmD 300 d = true
    · refine ite2 (fun u => absurd u (by rw [y]; decide)) (fun _ => ?_)
      obtain ⟨a, u, v, c, b, l, ss, xs, rfl, rfl, hS, hS2, hA, hall, hl1, hl2⟩ := frm_of hd y
      refine ⟨_, rfl, _, _, 2, _, rfl, rfl, same_tup s1 hS, rfl, ?_⟩
      have sS := same_tup s1 hS2
      have ln := hA.len
      refine ⟨_, rfl, c, rfl, ⟨xs, sS⟩, fun D nD => ?_⟩
      refine lc_tupO (xs := xs) (fun i H' => Same H1 H' ∧ H' D = some (.lst (((ss.take i).flatMap fun st => (elems st).map (pairD ((10 : Int) ^ (30 : Int).toNat) (ss.length : Int))).map V.bl))) ⟨same_upd nD, upd_same⟩ (fun i H' h => same_tup h.1 sS) ?_ ?_
      · rintro i u2 H' hu ⟨sm, hD⟩
        obtain ⟨e, he, re⟩ := hA.at hu
        obtain ⟨es, rfl, le⟩ := hall e (List.mem_of_getElem? he)
        obtain ⟨a2, ys, rfl, hS3, hA3⟩ := re.isTup
        have s13 := s1.trans sm
        refine ⟨rfl, ?_⟩
        refine ⟨_, rfl, a2, rfl, ⟨ys, same_tup s13 hS3⟩, ?_⟩
        refine lc_tupO (xs := ys) (fun j H2 => Same H1 H2 ∧ H2 D = some (.lst ((((ss.take i).flatMap fun st => (elems st).map (pairD ((10 : Int) ^ (30 : Int).toNat) (ss.length : Int))) ++ (es.take j).map (pairD ((10 : Int) ^ (30 : Int).toNat) (ss.length : Int))).map V.bl))) ⟨sm, by rw [hD]; simp⟩ (fun j H2 h => same_tup (s1.trans h.1) hS3) ?_ ?_
        · rintro j u3 H2 hu3 ⟨sm2, hD2⟩
          obtain ⟨e3, he3, re3⟩ := hA3.at hu3
          have bound : ((((ss.take i).flatMap fun st => (elems st).map (pairD ((10 : Int) ^ (30 : Int).toNat) (ss.length : Int))) ++ (es.take j).map (pairD ((10 : Int) ^ (30 : Int).toNat) (ss.length : Int))).map V.bl).length < sizeLine := by
            have h1 := flat_len (g := fun st => (elems st).map (pairD ((10 : Int) ^ (30 : Int).toNat) (ss.length : Int))) (n := 3) (ss.take i) fun x hx => by
              obtain ⟨es', rfl, le'⟩ := hall x (List.mem_of_mem_take hx)
              rw [List.length_map]
              exact le'
            have h2 := List.length_take_le' i ss
            have h3 := List.length_take_le' j es
            rw [List.length_map, List.length_append, List.length_map]
            exact Nat.lt_of_le_of_lt (show _ ≤ 1000 by omega) (by decide)
          refine ⟨rfl, ?_⟩
          refine ⟨_, rfl, _, rfl, c, xs, rfl, .inr (same_tup sm2 sS), u3, e3, _, _, rfl, re3.go (s1.trans sm2), _, hD2, bound, same_new sm2 nD, ?_⟩
          rw [upd_same, take_all he3, ln]
          simp only [List.map_append, List.map_cons, List.map_nil, List.append_assoc]
        · rintro H2 ⟨sm2, hD2⟩
          refine ⟨sm2, ?_⟩
          rw [hD2, hA3.len, List.take_length, take_flat he]
          rfl
      · rintro H' ⟨sm, hD⟩
        have q1 := q H' (s1.trans sm)
        refine ⟨D, _, rfl, SqL.of hD, ?_⟩
        rw [ln, List.take_length]
        rw [plnD, y, Bool.true_and] at q1
        exact q1
    · refine ite2 (fun _ => ?_) (fun u => absurd (by rw [eq_false_of_ne_true y]; rfl) u)
      have q1 := q H1 s1
      rw [plnD_not y] at q1
      exact q1
theorem ok_choice (T : MachTxt K mg m1 m2 m3 m4 m5 m6 m7 m8 m9 m10 m11 m12 n1 n2 n3 n4 n5 n6 n7 n8 n9 n10 n11 n12 t1 t2 t3 t4 t5) {k : Nat} : FnOk P w K mg base CX0 (k + 4) m9 n9 ["thing", "many"] (spChoice K) := by
  have GT : FnOk P w K mg base CX0 (k + 3) m3 n3 ["thing", "least", "most"] (spTuple K) := ok_tuple T.look
  have GP : FnOk P w K mg base CX0 (k + 3) m5 n5 ["thing", "most", "many"] (spPair K) := ok_pair T
  refine T.FChoice.ok scChoice (fun vs H Q E h => ?_) (fun cdv A outer s H vs Q E hr h => ?_)
  · obtain ⟨x, d, many, rfl, _⟩ := h
    rfl
  · obtain ⟨x, d, many, rfl, hd, q⟩ := h
    have hu : (A.deeper (envOfC "is_choice" (defScope sChoice) s.heap.objs.size m9 cdv)).units + 64 < cLine := by have := hr.un; omega
    refine ⟨_, (pss_cons (ps_if (pt_not (pt_val (pe_call GT hr (by rfl) T.look.gTuple T.look.FTuple.kp T.look.bTuple .nil pass0 (pa_cons (pv 0) (pa_cons pe_int (pa_cons (pe_glob (v := .int 3) (by rfl) T.mPairs ⟨_, rfl⟩) pa_nil)))))) (pss_one (ps_ret pe_bl)) pss_nil)
 (pss_one (ps_ret (pe_and (pe_callB (cr_all rfl) (by rfl) T.look.all (by decide +kernel) (pa_cons (pe_lc (own := [("pair", 2)]) (g := gName 2) (tt := tYes) (by rfl) scChoice.nd (pi_tup (pv 0)) (blkOk_by (N := ["thing", "many", "pair"]) (sc := defScope sChoice) (by decide +kernel)) (fun _ _ _ _ _ => pg_name (i := 2) scChoice.nd rfl (Or.inl rfl)) (fun _ _ _ _ _ => pts_nil) (fun _ _ _ _ _ => (pe_call GP hr (by rfl) T.gPair T.FPair.kp T.bPair .nil pass0 (pa_cons (pv 2) (pa_cons (pe_glob (v := .int 20) (by rfl) T.mPay ⟨_, rfl⟩) (pa_cons (pv 1) pa_nil)))))) pa_nil)) (pe_one (pe_cmpR op_eq (pe_lenSetT rfl hu (by rfl) T.look.len (by rfl) T.set (pv 0)) (pe_callB call_len_seq (by rfl) T.look.len PySem.boot_len (pa_cons (pv 0) pa_nil)) (nomark _))))))), ?_⟩
    refine ⟨_, rfl, x, d, 1, 3, rfl, hd, _, rfl, ?_⟩
    by_cases y : tupD 1 3 d = true
    · refine ite2 (fun u => absurd u (by rw [y]; decide)) (fun _ => ?_)
      obtain ⟨a, xs, ds, rfl, rfl, hS, hA, l1, l2⟩ := tup_of hd y
      have ln := hA.len
      refine ⟨_, rfl, a, rfl, ⟨xs, hS⟩, fun D nD => ?_⟩
      refine lc_tupO (xs := xs) (fun j H' => Same H H' ∧ H' D = some (.lst (((ds.take j).map (pairD 20 many)).map V.bl))) ⟨same_upd nD, upd_same⟩ (fun i H' h => same_tup h.1 hS) ?_ ?_
      · rintro i u H' hu ⟨sm, hD⟩
        obtain ⟨e, he, re⟩ := hA.at hu
        refine ⟨rfl, ?_⟩
        refine ⟨_, rfl, _, rfl, u, e, _, _, rfl, re.go sm, _, hD, ?_, same_new sm nD, ?_⟩
        · rw [List.length_map, List.length_map]
          have := List.length_take_le' i ds
          exact Nat.lt_of_le_of_lt (show _ ≤ 1000 by omega) (by decide)
        · rw [upd_same, take_all he, List.map_append]
          rfl
      · rintro H' ⟨sm, hD⟩
        have q1 := q H' sm
        rw [chD, y, Bool.true_and] at q1
        refine ⟨D, _, rfl, SqL.of hD, _, rfl, ?_⟩
        rw [ln, List.take_length, all_map]
        refine ite2 (fun z => ?_) (fun z => ?_)
        · rw [z, Bool.true_and] at q1
          obtain ⟨ks, rfl, hk, ek⟩ := pairs_of hA fun e he => List.all_eq_true.mp z e he
          have sS := same_tup sm hS
          rw [List.length_map] at ln
          refine ⟨_, rfl, a, ks, rfl, sS, fun p hp => same_tup sm (hk p hp), by omega, fun n hn => ?_⟩
          refine ⟨_, rfl, a, _, rfl, .inr sS, rfl, ?_⟩
          rw [List.length_map]
          rw [ek] at hn
          by_cases nd : (ds.map keyD).Nodup
          · rw [decide_eq_true nd] at q1
            rw [hn.mpr nd, decide_eq_true rfl]
            exact q1
          · rw [decide_eq_false nd] at q1
            rw [decide_eq_false (fun e => nd (hn.mp (by have := V.int.inj e; omega)))]
            exact q1
        · rw [eq_false_of_ne_true z, Bool.false_and] at q1
          exact q1
    · refine ite2 (fun _ => ?_) (fun u => absurd (by rw [eq_false_of_ne_true y]; rfl) u)
      have q1 := q H (Same.refl H)
      rw [chD_not y] at q1
      exact q1
theorem ok_machine (T : MachTxt K mg m1 m2 m3 m4 m5 m6 m7 m8 m9 m10 m11 m12 n1 n2 n3 n4 n5 n6 n7 n8 n9 n10 n11 n12 t1 t2 t3 t4 t5) {k : Nat} : FnOk P w K mg base CX0 (k + 5) m10 n10 ["thing"] (spMachine K) := by
  have GF : FnOk P w K mg base CX0 (k + 4) m8 n8 ["thing", "most"] (spFrame K) := ok_frame T
  have GC : FnOk P w K mg base CX0 (k + 4) m9 n9 ["thing", "many"] (spChoice K) := ok_choice T
  refine T.FMachine.ok scMachine (fun vs H Q E h => ?_) (fun cdv A outer s H vs Q E hr h => ?_)
  · obtain ⟨x, d, rfl, _⟩ := h
    rfl
  · obtain ⟨x, d, rfl, hd, q⟩ := h
    refine ⟨_, (pss_cons (ps_if (pt_not (pt_val (pe_call GF hr (by rfl) T.gFrame T.FFrame.kp T.bFrame .nil pass0 (pa_cons (pv 0) (pa_cons (pe_glob (v := .int 4) (by rfl) T.look.mStates ⟨_, rfl⟩) pa_nil))))) (pss_one (ps_ret pe_bl)) pss_nil)
 (pss_cons (ps_set (i := 1) scMachine.nd rfl (.inr rfl) (pe_ix ix_tup (pv 0) pe_int (fun _ _ => rfl)))
 (pss_one (ps_ret (pe_callB (cr_all rfl) (by rfl) T.look.all (by decide +kernel) (pa_cons (pe_lc2 (own := [("state", 2), ("choice", 3)]) (vs1 := [3]) (g := gName 2) (g1 := gName 3) (tt := tYes) (tt1 := tYes) (by rfl) scMachine.nd (pi_tup (pv 1)) (blkOk_by (N := ["thing", "states", "state", "choice"]) (sc := defScope sMachine) (by decide +kernel)) (by decide) (fun _ _ _ _ _ => pg_name (i := 2) scMachine.nd rfl (Or.inl rfl)) (fun _ _ _ _ _ => pts_nil) (fun _ _ _ _ _ => (pi_tupK (K := K) rfl (pv 2))) (fun _ _ _ _ _ => pg_name (i := 3) scMachine.nd rfl (Or.inl rfl)) (fun _ _ _ _ _ => pts_nil) (fun _ _ _ _ _ => (pe_call GC hr (by rfl) T.gChoice T.FChoice.kp T.bChoice .nil pass0 (pa_cons (pv 3) (pa_cons (pe_callB (len_seqK (K := K) rfl) (by rfl) T.look.len PySem.boot_len (pa_cons (pv 1) pa_nil)) pa_nil))))) pa_nil)))))), ?_⟩
    refine ⟨_, rfl, x, d, 4, rfl, hd, (by decide), fun H1 s1 => ⟨_, rfl, ?_⟩⟩
    by_cases y : frmD 4 d = true
    · refine ite2 (fun u => absurd u (by rw [y]; decide)) (fun _ => ?_)
      obtain ⟨a, u, v, c, b, l, ss, xs, rfl, rfl, hS, hS2, hA, hall, hl1, hl2⟩ := frm_of hd y
      refine ⟨_, rfl, _, _, 2, _, rfl, rfl, same_tup s1 hS, rfl, ?_⟩
      have sS := same_tup s1 hS2
      have ln := hA.len
      refine ⟨_, rfl, c, rfl, ⟨xs, sS⟩, fun D nD => ?_⟩
      refine lc_tupO (xs := xs) (fun i H' => Same H1 H' ∧ H' D = some (.lst (((ss.take i).flatMap fun st => (elems st).map (chD (ss.length : Int))).map V.bl))) ⟨same_upd nD, upd_same⟩ (fun i H' h => same_tup h.1 sS) ?_ ?_
      · rintro i u2 H' hu ⟨sm, hD⟩
        obtain ⟨e, he, re⟩ := hA.at hu
        obtain ⟨es, rfl, le⟩ := hall e (List.mem_of_getElem? he)
        obtain ⟨a2, ys, rfl, hS3, hA3⟩ := re.isTup
        have s13 := s1.trans sm
        refine ⟨rfl, ?_⟩
        refine ⟨_, rfl, a2, rfl, ⟨ys, same_tup s13 hS3⟩, ?_⟩
        refine lc_tupO (xs := ys) (fun j H2 => Same H1 H2 ∧ H2 D = some (.lst ((((ss.take i).flatMap fun st => (elems st).map (chD (ss.length : Int))) ++ (es.take j).map (chD (ss.length : Int))).map V.bl))) ⟨sm, by rw [hD]; simp⟩ (fun j H2 h => same_tup (s1.trans h.1) hS3) ?_ ?_
        · rintro j u3 H2 hu3 ⟨sm2, hD2⟩
          obtain ⟨e3, he3, re3⟩ := hA3.at hu3
          have bound : ((((ss.take i).flatMap fun st => (elems st).map (chD (ss.length : Int))) ++ (es.take j).map (chD (ss.length : Int))).map V.bl).length < sizeLine := by
            have h1 := flat_len (g := fun st => (elems st).map (chD (ss.length : Int))) (n := 3) (ss.take i) fun x hx => by
              obtain ⟨es', rfl, le'⟩ := hall x (List.mem_of_mem_take hx)
              rw [List.length_map]
              exact le'
            have h2 := List.length_take_le' i ss
            have h3 := List.length_take_le' j es
            rw [List.length_map, List.length_append, List.length_map]
            exact Nat.lt_of_le_of_lt (show _ ≤ 1000 by omega) (by decide)
          refine ⟨rfl, ?_⟩
          refine ⟨_, rfl, _, rfl, c, xs, rfl, .inr (same_tup sm2 sS), u3, e3, _, rfl, re3.go (s1.trans sm2), fun H3 s3 => ⟨_, s3 _ _ hD2, bound, same_new (sm2.trans s3) nD, ?_⟩⟩
          rw [upd_same, take_all he3, ln]
          simp only [List.map_append, List.map_cons, List.map_nil, List.append_assoc]
        · rintro H2 ⟨sm2, hD2⟩
          refine ⟨sm2, ?_⟩
          rw [hD2, hA3.len, List.take_length, take_flat he]
          rfl
      · rintro H' ⟨sm, hD⟩
        have q1 := q H' (s1.trans sm)
        refine ⟨D, _, rfl, SqL.of hD, ?_⟩
        rw [ln, List.take_length]
        rw [mchD, y, Bool.true_and] at q1
        exact q1
    · refine ite2 (fun _ => ?_) (fun u => absurd (by rw [eq_false_of_ne_true y]; rfl) u)
      have q1 := q H1 s1
      rw [mchD_not y] at q1
      exact q1
end
end My
/-! ### what arguments have to be -/
namespace My
open PySem PySem.Spec PyProof.Rows L2
abbrev sNeedMachine : Stmt := topS 37
abbrev sWith : Stmt := topS 26
theorem scNeedMachine : FnScope ["thing", "name"] ["thing", "name"] (defScope sNeedMachine) := ⟨rfl, rfl, rfl, by decide +kernel, rfl, by decide +kernel, by decide +kernel⟩
theorem scWith : FnScope ["plain", "base", "letters", "states", "state", "pair"] ["plain"] (defScope sWith) := ⟨rfl, rfl, rfl, by decide +kernel, rfl, by decide +kernel, by decide +kernel⟩
/-- an own class of errors over ValueError, without an __init__ -/
structure ExcF (K : PySem.W.Frag) (mg : Str → Option Value) (x : Str) (C : Addr) : Prop where
  g : mg x = some (.ref C)
  q : PySem.W.excIn K C [.type "ValueError", .type "Exception", .type "BaseException", .type "object"] "ValueError.__new__" = true
  k : PySem.W.keepIn K (.ref C) = true
  b : PySem.W.subIn K (.ref C) (.type "BaseException") = some true
  t : PySem.W.typeIn K (.ref C) = some (.type "type")
structure FrmTxt (K : PySem.W.Frag) (mg : Str → Option Value) (m1 m2 m3 m4 m5 m6 m7 m8 m9 m10 m11 m12 : Addr) (n1 n2 n3 n4 n5 n6 n7 n8 n9 n10 n11 n12 : FuncData) (t1 t2 t3 t4 t5 : Tok) (CM a1 a3 : Addr) (b1 b3 : FuncData) : Prop where
  mach : MachTxt K mg m1 m2 m3 m4 m5 m6 m7 m8 m9 m10 m11 m12 n1 n2 n3 n4 n5 n6 n7 n8 n9 n10 n11 n12 t1 t2 t3 t4 t5
  noMachine : ExcF K mg "NoMachine" CM
  FNeedMachine : Fun K "need_machine" "need_machine" sNeedMachine a1 b1
  bNeedMachine : Binds K b1 ["thing", "name"] []
  gNeedMachine : mg "need_machine" = some (.ref a1)
  FWith : Fun K "with_choices" "with_choices" sWith a3 b3
  bWith : Binds K b3 ["plain"] []
  gWith : mg "with_choices" = some (.ref a3)
/-- a plain machine with choices of one pair -/
def withD : PyData → PyData
  | .tuple [b, l, .tuple ss] => .tuple [b, l, .tuple (ss.map fun st => .tuple ((elems st).map fun pr => .tuple [pr]))]
  | d => d
def spWith (K : PySem.W.Frag) : Sp := fun vs H Q _ => ∃ x d, vs = [x] ∧ Rp K H x d ∧ plnD d = true ∧ ∀ H' t, Same H H' → Rp K H' (.ref t) (withD d) → Q (.ref t) H'
theorem call_tuple_ofK {X : Cx} {K : PySem.W.Frag} (e : X.K = K) : CallR X (.type "tuple") (fun xs H Q => ∃ p ys, xs = [.ref p] ∧ ((SqL K H p ys ∧ ∀ l, H l = none → Q (.ref l) (upd H l (.tup ys))) ∨ (SqT K H p ys ∧ Q (.ref p) H))) := by
  subst e
  exact call_tuple_of
/-! new tuples over data that stands -/
def ButU (H H' : Hp) : Prop := ∀ b xs, H b = some (.tup xs) → H' b = some (.tup xs)
theorem butU_same {H H' : Hp} (s : Same H H') : ButU H H' := fun b xs e => s b _ e
theorem butU_lst {S : Addr} {ys : List V} {o : HO} {H : Hp} (h : H S = some (.lst ys)) : ButU H (upd H S o) := fun b xs e => by
  rw [upd_ne (ne_of e h (by intro z; cases z))]
  exact e
mutual
inductive Rk (K : PySem.W.Frag) (H0 H : Hp) : V → PyData → Prop
  | base {v : V} {d : PyData} (h : Rp K H0 v d) : Rk K H0 H v d
  | tup {a : Addr} {xs : List V} {ds : List PyData} (h : H a = some (.tup xs)) (t : RkAll K H0 H xs ds) : Rk K H0 H (.ref a) (.tuple ds)
inductive RkAll (K : PySem.W.Frag) (H0 H : Hp) : List V → List PyData → Prop
  | nil : RkAll K H0 H [] []
  | cons {v : V} {d : PyData} {vs : List V} {ds : List PyData} (h : Rk K H0 H v d) (t : RkAll K H0 H vs ds) : RkAll K H0 H (v :: vs) (d :: ds)
end
mutual
theorem Rk.go {K : PySem.W.Frag} {H0 H H' : Hp} (s : ButU H H') : ∀ {v : V} {d : PyData}, Rk K H0 H v d → Rk K H0 H' v d
  | _, _, .base h => .base h
  | _, _, .tup h t => .tup (s _ _ h) (RkAll.go s t)
theorem RkAll.go {K : PySem.W.Frag} {H0 H H' : Hp} (s : ButU H H') : ∀ {vs : List V} {ds : List PyData}, RkAll K H0 H vs ds → RkAll K H0 H' vs ds
  | _, _, .nil => .nil
  | _, _, .cons h t => .cons (Rk.go s h) (RkAll.go s t)
end
mutual
theorem Rk.rp {K : PySem.W.Frag} {H0 H : Hp} (s : Same H0 H) : ∀ {v : V} {d : PyData}, Rk K H0 H v d → Rp K H v d
  | _, _, .base h => h.go s
  | _, _, .tup h t => .tup (SqT.of h) (RkAll.rp s t)
theorem RkAll.rp {K : PySem.W.Frag} {H0 H : Hp} (s : Same H0 H) : ∀ {vs : List V} {ds : List PyData}, RkAll K H0 H vs ds → RpAll K H vs ds
  | _, _, .nil => .nil
  | _, _, .cons h t => .cons (Rk.rp s h) (RkAll.rp s t)
end
theorem RkAll.snoc {K : PySem.W.Frag} {H0 H : Hp} {v : V} {d : PyData} : ∀ {vs : List V} {ds : List PyData}, RkAll K H0 H vs ds → Rk K H0 H v d → RkAll K H0 H (vs ++ [v]) (ds ++ [d])
  | _, _, .nil, h => .cons h .nil
  | _, _, .cons a t, h => .cons a (t.snoc h)
theorem frm_of2 {K : PySem.W.Frag} {H : Hp} {x : V} {d : PyData} {most : Int} (h : Rp K H x d) (z : frmD most d = true) : ∃ a u v c b l ss xs, x = .ref a ∧ d = .tuple [b, l, .tuple ss] ∧ SqT K H a [u, v, .ref c] ∧ SqT K H c xs ∧ RpAll K H xs ss ∧ (∀ e ∈ ss, ∃ es, e = .tuple es ∧ es.length ≤ 3) ∧ (ss.length : Int) ≤ most ∧ Rp K H u b ∧ Rp K H v l := by
  by_cases y : tupD 3 3 d = true
  · obtain ⟨a, xs, ds, rfl, rfl, hS, hA, l1, l2⟩ := tup_of h y
    obtain ⟨u, v, t, b, l, e, rfl, rfl, hb, hl, he⟩ := hA.three (by omega)
    rw [frmD, Bool.and_eq_true, Bool.and_eq_true] at z
    have ht := tabD_tup z.2.2
    have hlen := ltrD_len z.2.1
    obtain ⟨c, ys, ss, rfl, rfl, hS2, hA2, l3, l4⟩ := tup_of he ht.1
    refine ⟨a, u, v, c, b, l, ss, ys, rfl, rfl, hS, hS2, hA2, fun e he => ?_, l4, hb, hl⟩
    have := ht.2 e he
    cases e with
    | tuple es =>
      rw [tupD, Bool.and_eq_true, decide_eq_true_eq, decide_eq_true_eq] at this
      exact ⟨es, rfl, by omega⟩
    | _ => exact absurd this (by simp [tupD])
  · rw [frmD_not y] at z
    cases z
def choD (st : PyData) : PyData := .tuple ((elems st).map fun pr => .tuple [pr])
/-- the frame: the machine itself, or the plain one with choices of one pair -/
def spNeedMachine (K : PySem.W.Frag) (CM : Addr) : Sp := fun vs H Q E => ∃ x d nm, vs = [x, .str nm] ∧ Rp K H x d ∧ nm.length ≤ 100 ∧
  ((mchD d = true ∧ ∀ H', Same H H' → Q x H') ∨ (mchD d = false ∧ plnD d = true ∧ ∀ H' t, Same H H' → Rp K H' (.ref t) (withD d) → Q (.ref t) H') ∨ (mchD d = false ∧ plnD d = false ∧ ∀ H', Same H H' → E (.ref CM) none H'))
section
variable {P : Program} {w : World} {K : PySem.W.Frag} {mg : Str → Option Value} {base : Heap} {m1 m2 m3 m4 m5 m6 m7 m8 m9 m10 m11 m12 : Addr} {n1 n2 n3 n4 n5 n6 n7 n8 n9 n10 n11 n12 : FuncData} {t1 t2 t3 t4 t5 t6 t7 : Tok} {r2 : Addr} {v2 : FuncData} {CM CW a1 a2 a3 : Addr} {b1 b2 b3 : FuncData}
theorem ok_with (T : FrmTxt K mg m1 m2 m3 m4 m5 m6 m7 m8 m9 m10 m11 m12 n1 n2 n3 n4 n5 n6 n7 n8 n9 n10 n11 n12 t1 t2 t3 t4 t5 CM a1 a3 b1 b3) {k : Nat} : FnOk P w K mg base CX0 (k + 1) a3 b3 ["plain"] (spWith K) := by
  refine T.FWith.ok scWith (fun vs H Q E h => ?_) (fun cdv A outer s H vs Q E hr h => ?_)
  · obtain ⟨x, d, rfl, _⟩ := h
    rfl
  · obtain ⟨x, d, rfl, hd, hp, q⟩ := h
    refine ⟨_, (pss_cons (ps_asg (pv 0) (pg_tup rfl (pgs_cons (pg_name (i := 1) scWith.nd rfl (.inl rfl)) (pgs_cons (pg_name (i := 2) scWith.nd rfl (.inl rfl)) (pgs_cons (pg_name (i := 3) scWith.nd rfl (.inl rfl)) pgs_nil)))))
 (pss_one (ps_ret (pe_tup (pa_cons (pv 1) (pa_cons (pv 2) (pa_cons (pe_callTy (call_tuple_ofK (K := K) rfl) (by rfl) T.mach.look.tuple (by decide +kernel) (pa_cons (pe_lc (own := [("state", 4)]) (g := gName 4) (tt := tYes) (by rfl) scWith.nd (pi_tup (pv 3)) (blkOk_by (N := ["plain", "base", "letters", "states", "state", "pair"]) (sc := defScope sWith) (by decide +kernel)) (fun _ _ _ _ _ => pg_name (i := 4) scWith.nd rfl (Or.inl rfl)) (fun _ _ _ _ _ => pts_nil) (fun _ _ _ _ _ => (pe_callTy (call_tuple_ofK (K := K) rfl) (by rfl) T.mach.look.tuple (by decide +kernel) (pa_cons (pe_lc (own := [("pair", 5)]) (g := gName 5) (tt := tYes) (by rfl) scWith.nd (pi_tupK (K := K) rfl (pv 4)) (blkOk_by (N := ["plain", "base", "letters", "states", "state", "pair"]) (sc := { kind := ScopeKind.function, names := [(".0", NameKind.local), ("state", NameKind.local), ("tuple", NameKind.globalImplicit)], isGenerator := false, isCoroutine := false }) (by decide +kernel)) (fun _ _ _ _ _ => pg_name (i := 5) scWith.nd rfl (Or.inl rfl)) (fun _ _ _ _ _ => pts_nil) (fun _ _ _ _ _ => (pe_tup (pa_cons (pv 5) pa_nil)))) pa_nil)))) pa_nil)) pa_nil))))))), ?_⟩
    have y : frmD 300 d = true := by
      cases e : frmD 300 d with
      | true => rfl
      | false =>
        rw [plnD_not (by rw [e]; decide)] at hp
        cases hp
    obtain ⟨a, u, v, c, b, l, ss, xs, rfl, rfl, hS, hS2, hA, hall, hl2, hb, hl⟩ := frm_of2 hd y
    have ln := hA.len
    refine ⟨_, rfl, a, _, rfl, hS, rfl, u, [v, .ref c], rfl, v, [.ref c], rfl, .ref c, [], rfl, rfl, ?_⟩
    refine ⟨_, rfl, _, rfl, _, rfl, c, rfl, ⟨xs, hS2⟩, fun D nD => ?_⟩
    refine lc_tupO (xs := xs) (fun i H' => Same H H' ∧ ∃ us, H' D = some (.lst us) ∧ us.length = i ∧ RkAll K H H' us ((ss.take i).map choD)) ⟨same_upd nD, [], upd_same, rfl, .nil⟩ (fun i H' h => same_tup h.1 hS2) ?_ ?_
    · rintro i u2 H' hu ⟨sm, us, hD, lu, hU⟩
      obtain ⟨e, he, re⟩ := hA.at hu
      obtain ⟨es, rfl, le⟩ := hall e (List.mem_of_getElem? he)
      obtain ⟨a2, ys, rfl, hS3, hA3⟩ := re.isTup
      refine ⟨rfl, ?_⟩
      refine ⟨_, rfl, a2, rfl, ⟨ys, same_tup sm hS3⟩, fun D2 nD2 => ?_⟩
      have nDD : D ≠ D2 := ne_of_none hD nD2
      refine lc_tupO (xs := ys) (fun j H2 => Same H' H2 ∧ ∃ ws, H2 D2 = some (.lst ws) ∧ ws.length = j ∧ RkAll K H H2 ws ((es.take j).map fun pr => .tuple [pr])) ⟨same_upd nD2, [], upd_same, rfl, .nil⟩ (fun j H2 h => same_tup (sm.trans h.1) hS3) ?_ ?_
      · rintro j u3 H2 hu3 ⟨s2, ws, hD2, lw, hW⟩
        obtain ⟨e3, he3, re3⟩ := hA3.at hu3
        refine ⟨rfl, ?_⟩
        refine ⟨_, rfl, (by show 1 ≤ sizeLine; decide), fun t ht => ?_⟩
        have xt := same_upd (o := HO.tup [u3]) ht
        have hD2t := xt _ _ hD2
        have bt := butU_lst (o := HO.lst (ws ++ [V.ref t])) hD2t
        have jl : j < es.length := by
          have := (List.getElem?_eq_some_iff.mp he3).1
          exact this
        refine ⟨_, hD2t, Nat.lt_of_le_of_lt (show _ ≤ 1000 by omega) (by decide), same_new (s2.trans xt) nD2, ws ++ [V.ref t], upd_same, by rw [List.length_append, lw]; rfl, ?_⟩
        rw [List.take_succ, he3, List.map_append]
        exact ((hW.go (butU_same xt)).go bt).snoc (.tup (bt _ _ upd_same) (.cons (.base re3) .nil))
      · rintro H2 ⟨s2, ws, hD2, lw, hW⟩
        rw [hA3.len, List.take_length] at hW
        refine ⟨D2, _, rfl, .inl ⟨SqL.of hD2, fun t ht => ?_⟩⟩
        have xt := same_upd (o := HO.tup ws) ht
        have hDt := xt _ _ (s2 _ _ hD)
        have bt := butU_lst (o := HO.lst (us ++ [V.ref t])) hDt
        have il : i < ss.length := (List.getElem?_eq_some_iff.mp he).1
        refine ⟨_, hDt, Nat.lt_of_le_of_lt (show _ ≤ 1000 by omega) (by decide), same_new (sm.trans (s2.trans xt)) nD, us ++ [V.ref t], upd_same, by rw [List.length_append, lu]; rfl, ?_⟩
        rw [List.take_succ, he, List.map_append]
        exact ((hU.go (butU_same (s2.trans xt))).go bt).snoc (.tup (bt _ _ upd_same) ((hW.go (butU_same xt)).go bt))
    · rintro H' ⟨sm, us, hD, lu, hU⟩
      rw [ln, List.take_length] at hU
      refine ⟨D, _, rfl, .inl ⟨SqL.of hD, fun t ht => ⟨(by show 3 ≤ sizeLine; decide), fun t2 ht2 => ?_⟩⟩⟩
      have xt := same_upd (o := HO.tup us) ht
      have xt2 := same_upd (o := HO.tup [u, v, V.ref t]) ht2
      have s4 := sm.trans (xt.trans xt2)
      exact q _ t2 s4 (.tup (SqT.of upd_same) (.cons (hb.go s4) (.cons (hl.go s4) (.cons (.tup (SqT.of (xt2 _ _ upd_same)) ((hU.go (butU_same (xt.trans xt2))).rp s4)) .nil))))
theorem ok_needMachine (T : FrmTxt K mg m1 m2 m3 m4 m5 m6 m7 m8 m9 m10 m11 m12 n1 n2 n3 n4 n5 n6 n7 n8 n9 n10 n11 n12 t1 t2 t3 t4 t5 CM a1 a3 b1 b3) {k : Nat} : FnOk P w K mg base (L2.CX P w) (k + 6) a1 b1 ["thing", "name"] (spNeedMachine K CM) := by
  have GM : FnOk P w K mg base CX0 (k + 5) m10 n10 ["thing"] (spMachine K) := ok_machine T.mach
  have GP : FnOk P w K mg base CX0 (k + 5) m11 n11 ["thing"] (spPlain K) := ok_plain T.mach (k := k + 1)
  have GW : FnOk P w K mg base CX0 (k + 5) a3 b3 ["plain"] (spWith K) := ok_with T (k := k + 4)
  refine T.FNeedMachine.okX scNeedMachine (fun vs H Q E h => ?_) (fun cdv A outer s H vs Q E hr h => ?_)
  · obtain ⟨x, d, nm, rfl, _⟩ := h
    rfl
  · obtain ⟨x, d, nm, rfl, hd, hn, h⟩ := h
    refine ⟨_, (pss_cons (ps_if (pt_val (pe_call GM hr (by rfl) T.mach.gMachine T.mach.FMachine.kp T.mach.bMachine .nil pass0 (pa_cons (pv 0) pa_nil))) (pss_one (ps_ret (pv 0))) pss_nil)
 (pss_cons (ps_if (pt_not (pt_val (pe_call GP hr (by rfl) T.mach.gPlain T.mach.FPlain.kp T.mach.bPlain .nil pass0 (pa_cons (pv 0) pa_nil)))) (pss_one (ps_raise rfl (takes_of rfl rfl rfl rfl) (SkE.pmk_own1 PySem.F.excBase_ValueError T.noMachine.q T.noMachine.g T.noMachine.k (raises_own T.noMachine.b T.noMachine.t) (by exact rfl) (pe_joined (.cons (pe_fmt (pv 1)) (.cons pe_str .nil)))))) pss_nil)
 (pss_one (ps_ret (pe_call GW hr (by rfl) T.gWith T.FWith.kp T.bWith .nil pass0 (pa_cons (pv 0) pa_nil)))))), ?_⟩
    refine ⟨_, rfl, x, d, rfl, hd, fun H1 s1 => ⟨_, rfl, ?_⟩⟩
    rcases h with ⟨zm, q⟩ | ⟨zm, zp, q⟩ | ⟨zm, zp, q⟩
    · exact ite2 (fun _ => ⟨_, rfl, q H1 s1⟩) (fun u => absurd zm u)
    · refine ite2 (fun u => absurd u (by rw [zm]; decide)) (fun _ => ?_)
      refine ⟨_, rfl, x, d, rfl, hd.go s1, fun H2 s2 => ⟨_, rfl, ite2 (fun u => absurd u (by rw [zp]; decide)) (fun _ => ?_)⟩⟩
      exact ⟨_, rfl, x, d, rfl, (hd.go s1).go s2, zp, fun H3 t s3 r3 => q H3 t (s1.trans (s2.trans s3)) r3⟩
    · refine ite2 (fun u => absurd u (by rw [zm]; decide)) (fun _ => ?_)
      refine ⟨_, rfl, x, d, rfl, hd.go s1, fun H2 s2 => ⟨_, rfl, ite2 (fun _ => ?_) (fun u => absurd (by rw [zp]; rfl) u)⟩⟩
      have big : 1000 ≤ sizeLine := by decide
      have ap : ∀ a b : Str, (a ++ b).length = a.length + b.length := fun a b => Array.size_append
      have l1 : (Str.empty ++ nm).length ≤ 100 := by
        rw [ap]
        show 0 + nm.length ≤ 100
        omega
      refine ⟨_, rfl, .inl ⟨nm, rfl, Nat.le_trans hn (by decide), nm, rfl, by omega, _, rfl, ?_, q H2 (s1.trans s2)⟩⟩
      rw [ap]
      refine Nat.le_trans (show _ ≤ 200 from ?_) (by decide)
      have l2 : (Str.ofString " is neither a machine nor a plain machine").length ≤ 100 := by decide +kernel
      omega
end
end My
namespace My
/-! ### dicts of ints, as lists of pairs -/
abbrev Dk := List (Int × Int)
def getI (d : Dk) (k : Int) : Option Int := (d.find? fun kv => decide (kv.1 = k)).map (·.2)
def putI (d : Dk) (k v : Int) : Dk := if (d.any fun kv => decide (kv.1 = k)) = true then d.map (fun kv => if kv.1 = k then (kv.1, v) else kv) else d ++ [(k, v)]
def upMax (d : Dk) (k v : Int) : Dk := match getI d k with
  | none => putI d k v
  | some w => if w < v then putI d k v else d
theorem getI_nil {k : Int} : getI [] k = none := rfl
theorem getI_cons (p : Int × Int) (r : Dk) (k : Int) : getI (p :: r) k = if p.1 = k then some p.2 else getI r k := by
  unfold getI
  rw [List.find?_cons]
  by_cases e : p.1 = k <;> simp [e]
theorem getI_any (k : Int) : ∀ d : Dk, (d.any fun kv => decide (kv.1 = k)) = (getI d k).isSome
  | [] => rfl
  | p :: r => by
    rw [List.any_cons, getI_cons, getI_any k r]
    by_cases e : p.1 = k <;> simp [e]
theorem getI_map (k j y : Int) : ∀ d : Dk, getI (d.map fun kv => if kv.1 = k then (kv.1, y) else kv) j = (getI d j).map fun x => if j = k then y else x
  | [] => rfl
  | p :: r => by
    rw [List.map_cons, getI_cons, getI_cons, getI_map k j y r]
    by_cases h : p.1 = k
    · rw [if_pos h]
      by_cases e : p.1 = j
      · simp [e, ← h]
      · simp [e]
    · rw [if_neg h]
      by_cases e : p.1 = j
      · have : ¬ j = k := fun z => h (e.trans z)
        simp [e, this]
      · simp [e]
theorem getI_snoc (k j y : Int) : ∀ d : Dk, getI d k = none → getI (d ++ [(k, y)]) j = if j = k then some y else getI d j
  | [], _ => by
    rw [List.nil_append, getI_cons]
    by_cases e : k = j
    · rw [if_pos e, if_pos e.symm]
    · rw [if_neg e, if_neg (fun z => e z.symm)]
  | p :: r, h => by
    rw [getI_cons] at h
    by_cases e : p.1 = k
    · rw [if_pos e] at h
      cases h
    · rw [if_neg e] at h
      rw [List.cons_append, getI_cons, getI_cons, getI_snoc k j y r h]
      by_cases e2 : p.1 = j
      · rw [if_pos e2, if_pos e2, if_neg (fun z => e (e2.trans z))]
      · rw [if_neg e2, if_neg e2]
theorem getI_put (d : Dk) (k j y : Int) : getI (putI d k y) j = if j = k then some y else getI d j := by
  unfold putI
  rw [getI_any]
  cases h : getI d k with
  | none => exact getI_snoc k j y d h
  | some x =>
    rw [if_pos (show (some x).isSome = true from rfl), getI_map]
    by_cases e : j = k
    · rw [e, h]; simp
    · simp [e]
def keysI (d : Dk) : List Int := d.map (·.1)
theorem put_keys (d : Dk) (k y : Int) : keysI (putI d k y) = if (getI d k).isSome then keysI d else keysI d ++ [k] := by
  unfold putI
  rw [getI_any]
  split
  · unfold keysI
    rw [List.map_map]
    refine List.map_congr_left fun p _ => ?_
    show (if p.1 = k then (p.1, y) else p).1 = p.1
    split <;> rfl
  · unfold keysI
    rw [List.map_append]
    rfl
theorem getI_mem {d : Dk} {k : Int} : (getI d k).isSome = true ↔ k ∈ keysI d := by
  rw [← getI_any, List.any_eq_true]
  unfold keysI
  simp only [decide_eq_true_eq, List.mem_map]
theorem getI_some_mem {d : Dk} {k v : Int} (h : getI d k = some v) : (k, v) ∈ d := by
  induction d with
  | nil => cases h
  | cons p r ih =>
    rw [getI_cons] at h
    by_cases e : p.1 = k
    · rw [if_pos e] at h
      cases h
      rw [← e]
      exact .head _
    · rw [if_neg e] at h
      exact .tail _ (ih h)
theorem mem_getI {d : Dk} {k v : Int} (nd : (keysI d).Nodup) (h : (k, v) ∈ d) : getI d k = some v := by
  induction d with
  | nil => cases h
  | cons p r ih =>
    rw [getI_cons]
    have nd2 : p.1 ∉ keysI r ∧ (keysI r).Nodup := List.nodup_cons.mp nd
    rcases List.mem_cons.mp h with e | e
    · rw [← e, if_pos rfl]
    · have : ¬ p.1 = k := fun z => nd2.1 (by rw [z]; exact List.mem_map_of_mem (f := (·.1)) e)
      rw [if_neg this]
      exact ih nd2.2 e
theorem put_nodup {d : Dk} {k y : Int} (nd : (keysI d).Nodup) : (keysI (putI d k y)).Nodup := by
  rw [put_keys]
  split
  · exact nd
  · rename_i h
    rw [List.nodup_append]
    refine ⟨nd, by simp, fun a ha b hb => ?_⟩
    simp only [List.mem_singleton] at hb
    rintro rfl
    rw [hb] at ha
    exact h (getI_mem.mpr ha)
theorem up_get (d : Dk) (k v j : Int) : getI (upMax d k v) j = if j = k then some (match getI d k with | none => v | some w => if w < v then v else w) else getI d j := by
  unfold upMax
  cases h : getI d k with
  | none => exact getI_put d k j v
  | some w =>
    show getI (if w < v then putI d k v else d) j = if j = k then some (if w < v then v else w) else getI d j
    by_cases l : w < v
    · rw [if_pos l, if_pos l]
      exact getI_put d k j v
    · rw [if_neg l, if_neg l]
      by_cases e : j = k
      · rw [e, h, if_pos rfl]
      · rw [if_neg e]
theorem up_nodup {d : Dk} {k v : Int} (nd : (keysI d).Nodup) : (keysI (upMax d k v)).Nodup := by
  unfold upMax
  split
  · exact put_nodup nd
  · split
    · exact put_nodup nd
    · exact nd
theorem put_same {d : Dk} {k v : Int} (nd : (keysI d).Nodup) (h : getI d k = some v) : putI d k v = d := by
  unfold putI
  rw [getI_any, h, if_pos (show (some v).isSome = true from rfl)]
  have : ∀ p ∈ d, (fun kv : Int × Int => if kv.1 = k then (kv.1, v) else kv) p = id p := fun p hp => by
    show (if p.1 = k then (p.1, v) else p) = p
    split
    · rename_i e
      have := mem_getI nd (k := p.1) (v := p.2) hp
      rw [e, h] at this
      cases this
      rfl
    · rfl
  rw [List.map_congr_left this, List.map_id]
/-- the law's own way to the greater one -/
theorem up_put {d : Dk} {k v : Int} (nd : (keysI d).Nodup) : putI d k (max v ((getI d k).getD v)) = upMax d k v := by
  unfold upMax
  cases h : getI d k with
  | none =>
    show putI d k (max v v) = putI d k v
    rw [Int.max_self]
  | some w =>
    show putI d k (max v w) = if w < v then putI d k v else d
    by_cases l : w < v
    · rw [if_pos l, Int.max_eq_left (by omega)]
    · rw [if_neg l, Int.max_eq_right (by omega)]
      exact put_same nd h
/-! ### the best ways on -/
def bestIn (f : Int → Int → Int) (v : Int) (ps : List (Int × Int)) (d : Dk) : Dk := ps.foldl (fun l pr => upMax l pr.2 (f v pr.1)) d
def bestOn (P : Int → List (Int × Int)) (f : Int → Int → Int) (d l : Dk) : Dk := d.foldl (fun l kv => bestIn f kv.2 (P kv.1) l) l
def bestOf (P : Int → List (Int × Int)) (f : Int → Int → Int) (d : Dk) : Dk := bestOn P f d []
theorem bestIn_nodup {f : Int → Int → Int} {v : Int} : ∀ {ps : List (Int × Int)} {d : Dk}, (keysI d).Nodup → (keysI (bestIn f v ps d)).Nodup
  | [], _, h => h
  | p :: ps, d, h => bestIn_nodup (ps := ps) (d := upMax d p.2 (f v p.1)) (up_nodup h)
theorem bestOn_nodup {P : Int → List (Int × Int)} {f : Int → Int → Int} : ∀ {d l : Dk}, (keysI l).Nodup → (keysI (bestOn P f d l)).Nodup
  | [], _, h => h
  | q :: d, l, h => bestOn_nodup (d := d) (l := bestIn f q.2 (P q.1) l) (bestIn_nodup h)
theorem up_le (d : Dk) (k v : Int) {j w : Int} (h : getI d j = some w) : ∃ u, getI (upMax d k v) j = some u ∧ w ≤ u := by
  rw [up_get]
  by_cases e : j = k
  · subst e
    rw [if_pos rfl, h]
    refine ⟨_, rfl, ?_⟩
    show w ≤ if w < v then v else w
    split <;> omega
  · rw [if_neg e]
    exact ⟨w, h, Int.le_refl _⟩
theorem up_has (d : Dk) (k v : Int) : ∃ u, getI (upMax d k v) k = some u ∧ v ≤ u := by
  rw [up_get, if_pos rfl]
  refine ⟨_, rfl, ?_⟩
  split
  · exact Int.le_refl _
  · split <;> omega
theorem up_from {d : Dk} {k v j w : Int} (h : getI (upMax d k v) j = some w) : getI d j = some w ∨ (j = k ∧ w = v) := by
  rw [up_get] at h
  by_cases e : j = k
  · rw [if_pos e] at h
    cases g : getI d k with
    | none =>
      rw [g] at h
      cases h
      exact .inr ⟨e, rfl⟩
    | some x =>
      rw [g] at h
      have h2 : (if x < v then v else x) = w := Option.some.inj h
      by_cases l : x < v
      · rw [if_pos l] at h2
        exact .inr ⟨e, h2.symm⟩
      · rw [if_neg l] at h2
        rw [e, g, h2]
        exact .inl rfl
  · rw [if_neg e] at h
    exact .inl h
theorem bestIn_le {f : Int → Int → Int} {v : Int} : ∀ (ps : List (Int × Int)) (d : Dk) {j w : Int}, getI d j = some w → ∃ u, getI (bestIn f v ps d) j = some u ∧ w ≤ u
  | [], _, _, w, h => ⟨w, h, Int.le_refl _⟩
  | p :: ps, d, j, w, h => by
    obtain ⟨u, h2, l2⟩ := up_le d p.2 (f v p.1) h
    obtain ⟨u3, h3, l3⟩ := bestIn_le ps _ h2
    exact ⟨u3, h3, Int.le_trans l2 l3⟩
theorem bestIn_has {f : Int → Int → Int} {v : Int} : ∀ (ps : List (Int × Int)) (d : Dk) {p k : Int}, (p, k) ∈ ps → ∃ u, getI (bestIn f v ps d) k = some u ∧ f v p ≤ u
  | q :: ps, d, p, k, h => by
    rcases List.mem_cons.mp h with e | e
    · subst e
      obtain ⟨u, h2, l2⟩ := up_has d k (f v p)
      obtain ⟨u3, h3, l3⟩ := bestIn_le ps (upMax d k (f v p)) h2
      exact ⟨u3, h3, Int.le_trans l2 l3⟩
    · exact bestIn_has ps _ e
theorem bestIn_from {f : Int → Int → Int} {v : Int} : ∀ (ps : List (Int × Int)) (d : Dk) {j w : Int}, getI (bestIn f v ps d) j = some w → getI d j = some w ∨ ∃ p, (p, j) ∈ ps ∧ w = f v p
  | [], _, _, _, h => .inl h
  | q :: ps, d, j, w, h => by
    rcases bestIn_from ps _ h with h | ⟨p, h, e⟩
    · rcases up_from h with h | ⟨e1, e2⟩
      · exact .inl h
      · refine .inr ⟨q.1, ?_, e2⟩
        rw [e1]
        exact .head _
    · exact .inr ⟨p, .tail _ h, e⟩
theorem bestOn_le {P : Int → List (Int × Int)} {f : Int → Int → Int} : ∀ (d l : Dk) {j w : Int}, getI l j = some w → ∃ u, getI (bestOn P f d l) j = some u ∧ w ≤ u
  | [], _, _, w, h => ⟨w, h, Int.le_refl _⟩
  | q :: d, l, j, w, h => by
    obtain ⟨u, h2, l2⟩ := bestIn_le (f := f) (v := q.2) (P q.1) l h
    obtain ⟨u3, h3, l3⟩ := bestOn_le (P := P) (f := f) d _ h2
    exact ⟨u3, h3, Int.le_trans l2 l3⟩
theorem bestOn_has {P : Int → List (Int × Int)} {f : Int → Int → Int} : ∀ (d l : Dk) {s v p k : Int}, (s, v) ∈ d → (p, k) ∈ P s → ∃ u, getI (bestOn P f d l) k = some u ∧ f v p ≤ u
  | q :: d, l, s, v, p, k, h, hp => by
    rcases List.mem_cons.mp h with e | e
    · subst e
      obtain ⟨u, h2, l2⟩ := bestIn_has (f := f) (v := v) (P s) l hp
      obtain ⟨u3, h3, l3⟩ := bestOn_le (P := P) (f := f) d _ h2
      exact ⟨u3, h3, Int.le_trans l2 l3⟩
    · exact bestOn_has (P := P) (f := f) d _ e hp
theorem bestOn_from {P : Int → List (Int × Int)} {f : Int → Int → Int} : ∀ (d l : Dk) {j w : Int}, getI (bestOn P f d l) j = some w → getI l j = some w ∨ ∃ s v p, (s, v) ∈ d ∧ (p, j) ∈ P s ∧ w = f v p
  | [], _, _, _, h => .inl h
  | q :: d, l, j, w, h => by
    rcases bestOn_from d _ h with h | ⟨s, v, p, h, hp, e⟩
    · rcases bestIn_from (P q.1) l h with h | ⟨p, h, e⟩
      · exact .inl h
      · exact .inr ⟨q.1, q.2, p, .head _, h, e⟩
    · exact .inr ⟨s, v, p, .tail _ h, hp, e⟩
/-! ### the greatest of some -/
def maxL : List Int → Int
  | [] => 0
  | x :: xs => xs.foldl max x
def minL : List Int → Int
  | [] => 0
  | x :: xs => xs.foldl min x
theorem foldmax_le : ∀ (xs : List Int) (x : Int), x ≤ xs.foldl max x ∧ ∀ y ∈ xs, y ≤ xs.foldl max x
  | [], x => ⟨Int.le_refl _, fun _ h => nomatch h⟩
  | z :: xs, x => by
    have := foldmax_le xs (max x z)
    refine ⟨by show x ≤ xs.foldl max (max x z); omega, fun y hy => ?_⟩
    rcases List.mem_cons.mp hy with e | e
    · subst e
      show y ≤ xs.foldl max (max x y)
      omega
    · exact this.2 y e
theorem foldmax_mem : ∀ (xs : List Int) (x : Int), xs.foldl max x = x ∨ xs.foldl max x ∈ xs
  | [], x => .inl rfl
  | z :: xs, x => by
    show xs.foldl max (max x z) = x ∨ xs.foldl max (max x z) ∈ z :: xs
    rcases foldmax_mem xs (max x z) with h | h
    · rw [h]
      rcases (show max x z = x ∨ max x z = z by omega) with e | e
      · exact .inl e
      · rw [e]; exact .inr (.head _)
    · exact .inr (.tail _ h)
theorem maxL_mem {l : List Int} (h : l ≠ []) : maxL l ∈ l := by
  cases l with
  | nil => exact absurd rfl h
  | cons x xs =>
    rcases foldmax_mem xs x with e | e
    · show xs.foldl max x ∈ _
      rw [e]; exact .head _
    · exact .tail _ e
theorem le_maxL {l : List Int} {y : Int} (h : y ∈ l) : y ≤ maxL l := by
  cases l with
  | nil => cases h
  | cons x xs =>
    rcases List.mem_cons.mp h with e | e
    · subst e; exact (foldmax_le xs y).1
    · exact (foldmax_le xs x).2 y e
theorem maxL_eq {l : List Int} {m : Int} (h : m ∈ l) (g : ∀ y ∈ l, y ≤ m) : m = maxL l := by
  have h1 := le_maxL h
  have h2 := g _ (maxL_mem (l := l) (by intro z; rw [z] at h; cases h))
  omega
theorem foldmin_le : ∀ (xs : List Int) (x : Int), xs.foldl min x ≤ x ∧ ∀ y ∈ xs, xs.foldl min x ≤ y
  | [], x => ⟨Int.le_refl _, fun _ h => nomatch h⟩
  | z :: xs, x => by
    have := foldmin_le xs (min x z)
    refine ⟨by show xs.foldl min (min x z) ≤ x; omega, fun y hy => ?_⟩
    rcases List.mem_cons.mp hy with e | e
    · subst e
      show xs.foldl min (min x y) ≤ y
      omega
    · exact this.2 y e
theorem foldmin_mem : ∀ (xs : List Int) (x : Int), xs.foldl min x = x ∨ xs.foldl min x ∈ xs
  | [], x => .inl rfl
  | z :: xs, x => by
    show xs.foldl min (min x z) = x ∨ xs.foldl min (min x z) ∈ z :: xs
    rcases foldmin_mem xs (min x z) with h | h
    · rw [h]
      rcases (show min x z = x ∨ min x z = z by omega) with e | e
      · exact .inl e
      · rw [e]; exact .inr (.head _)
    · exact .inr (.tail _ h)
theorem minL_mem {l : List Int} (h : l ≠ []) : minL l ∈ l := by
  cases l with
  | nil => exact absurd rfl h
  | cons x xs =>
    rcases foldmin_mem xs x with e | e
    · show xs.foldl min x ∈ _
      rw [e]; exact .head _
    · exact .tail _ e
theorem minL_le {l : List Int} {y : Int} (h : y ∈ l) : minL l ≤ y := by
  cases l with
  | nil => cases h
  | cons x xs =>
    rcases List.mem_cons.mp h with e | e
    · subst e; exact (foldmin_le xs y).1
    · exact (foldmin_le xs x).2 y e
theorem minL_eq {l : List Int} {m : Int} (h : m ∈ l) (g : ∀ y ∈ l, m ≤ y) : m = minL l := by
  have h1 := minL_le h
  have h2 := g _ (minL_mem (l := l) (by intro z; rw [z] at h; cases h))
  omega
/-! ### sorted -/
def insI (x : Int) : List Int → List Int
  | [] => [x]
  | y :: r => if x ≤ y then x :: y :: r else y :: insI x r
def sortI : List Int → List Int
  | [] => []
  | x :: r => insI x (sortI r)
theorem ins_perm (x : Int) : ∀ l, (insI x l).Perm (x :: l)
  | [] => .refl _
  | y :: r => by
    unfold insI
    split
    · exact .refl _
    · exact ((ins_perm x r).cons y).trans (.swap x y r)
theorem sort_perm : ∀ l, (sortI l).Perm l
  | [] => .refl _
  | x :: r => (ins_perm x _).trans ((sort_perm r).cons x)
theorem ins_sorted {x : Int} : ∀ {l : List Int}, l.Pairwise (· ≤ ·) → (insI x l).Pairwise (· ≤ ·)
  | [], _ => by simp [insI]
  | y :: r, h => by
    have h2 := List.pairwise_cons.mp h
    unfold insI
    split
    · rename_i l
      refine List.pairwise_cons.mpr ⟨fun z hz => ?_, h⟩
      rcases List.mem_cons.mp hz with e | e
      · omega
      · have := h2.1 z e; omega
    · rename_i l
      refine List.pairwise_cons.mpr ⟨fun z hz => ?_, ins_sorted h2.2⟩
      rcases List.mem_cons.mp ((ins_perm x r).mem_iff.mp hz) with e | e
      · omega
      · exact h2.1 z e
theorem sort_sorted : ∀ l : List Int, (sortI l).Pairwise (· ≤ ·)
  | [] => .nil
  | _ :: r => ins_sorted (sort_sorted r)
theorem sorted_unique : ∀ {a b : List Int}, a.Perm b → a.Pairwise (· ≤ ·) → b.Pairwise (· ≤ ·) → a = b
  | [], b, p, _, _ => (List.Perm.nil_eq p)
  | x :: a, [], p, _, _ => absurd p.length_eq (by simp)
  | x :: a, y :: b, p, ha, hb => by
    have ha2 := List.pairwise_cons.mp ha
    have hb2 := List.pairwise_cons.mp hb
    have h1 : x = y ∨ x ∈ b := by
      have := p.mem_iff.mp (List.mem_cons_self (a := x) (l := a))
      rcases List.mem_cons.mp this with e | e
      · exact .inl e
      · exact .inr e
    have h2 : y = x ∨ y ∈ a := by
      have := p.mem_iff.mpr (List.mem_cons_self (a := y) (l := b))
      rcases List.mem_cons.mp this with e | e
      · exact .inl e
      · exact .inr e
    have e : x = y := by
      rcases h1 with e | e
      · exact e
      · rcases h2 with e2 | e2
        · exact e2.symm
        · have a1 := hb2.1 x e
          have a2 := ha2.1 y e2
          omega
    subst e
    rw [sorted_unique (p.cons_inv) ha2.2 hb2.2]
theorem sort_eq {l ys : List Int} (p : ys.Perm l) (h : ys.Pairwise (· ≤ ·)) : ys = sortI l := sorted_unique (p.trans (sort_perm l).symm) h (sort_sorted l)
/-! ### lacks -/
def hopes (b sp k : Int) : Bool := decide (k = 0) || decide (k * (b - 1) < sp * b)
def laterOf (b sp : Int) (g : Dk) : Dk := (sortI (keysI g)).filterMap fun to => if hopes b sp (b * (maxL (g.map (·.2)) - (getI g to).getD 0)) = true then some (to, b * (maxL (g.map (·.2)) - (getI g to).getD 0)) else none
def gainOf (P : Int → List (Int × Int)) (d : Dk) : Dk := bestOf P (fun v p => p - v) d
def sumOf (P : Int → List (Int × Int)) (b : Int) (d : Dk) : Dk := bestOf P (fun v p => b * v + p) d
theorem later_keys {b sp : Int} {g : Dk} (nd : (keysI g).Nodup) : (keysI (laterOf b sp g)).Nodup := by
  have h1 : (sortI (keysI g)).Nodup := (sort_perm _).nodup_iff.mpr nd
  unfold laterOf keysI
  unfold keysI at h1
  generalize hF : (fun to => if hopes b sp (b * (maxL (g.map (·.2)) - (getI g to).getD 0)) = true then some (to, b * (maxL (g.map (·.2)) - (getI g to).getD 0)) else none) = F
  have hk : ∀ t p, F t = some p → p.1 = t := fun t p e => by
    rw [← hF] at e
    simp only at e
    split at e
    · cases e; rfl
    · cases e
  generalize sortI (List.map (fun x => x.fst) g) = l at h1 ⊢
  clear hF
  induction l with
  | nil => exact .nil
  | cons x r ih =>
    have h2 := List.nodup_cons.mp h1
    rw [List.filterMap_cons]
    cases e : F x with
    | none => exact ih h2.2
    | some p =>
      rw [List.map_cons]
      refine List.nodup_cons.mpr ⟨fun hm => ?_, ih h2.2⟩
      obtain ⟨q, hq, e2⟩ := List.mem_map.mp hm
      obtain ⟨t, ht, e3⟩ := List.mem_filterMap.mp hq
      rw [hk _ _ e3, hk _ _ e] at e2
      exact h2.1 (e2 ▸ ht)
theorem later_get {b sp : Int} {g : Dk} (nd : (keysI g).Nodup) {to k : Int} : getI (laterOf b sp g) to = some k ↔ ∃ x, getI g to = some x ∧ k = b * (maxL (g.map (·.2)) - x) ∧ hopes b sp k = true := by
  constructor
  · intro h
    have hm := getI_some_mem h
    unfold laterOf at hm
    obtain ⟨t, ht, e⟩ := List.mem_filterMap.mp hm
    split at e
    · rename_i hh
      cases e
      have : to ∈ keysI g := (sort_perm _).mem_iff.mp ht
      obtain ⟨x, hx⟩ := Option.isSome_iff_exists.mp (getI_mem.mpr this)
      rw [hx] at hh
      exact ⟨x, hx, by rw [hx]; rfl, by rw [hx]; exact hh⟩
    · cases e
  · rintro ⟨x, hx, rfl, hh⟩
    refine mem_getI (later_keys nd) ?_
    unfold laterOf
    refine List.mem_filterMap.mpr ⟨to, (sort_perm _).mem_iff.mpr (getI_mem.mp (by rw [hx]; rfl)), ?_⟩
    rw [hx, Option.getD_some, if_pos hh]
/-- what holds behind a word between the sums, the lacks and what is paid in all -/
structure Lk (b sp T : Int) (S D : Dk) : Prop where
  nS : (keysI S).Nodup
  nD : (keysI D).Nodup
  top : ∃ s, getI S s = some T ∧ getI D s = some 0
  of : ∀ s v, getI S s = some v → v ≤ T ∧ (getI D s = some (b * (T - v)) ∨ (getI D s = none ∧ 0 < b * (T - v) ∧ sp * b ≤ b * (T - v) * (b - 1)))
  sub : ∀ s k, getI D s = some k → ∃ v, getI S s = some v ∧ k = b * (T - v)
theorem lk_start (b sp : Int) : Lk b sp 0 [(0, 0)] [(0, 0)] := by
  refine ⟨by simp [keysI], by simp [keysI], ⟨0, rfl, rfl⟩, fun s v h => ?_, fun s k h => ?_⟩
  · rw [getI_cons] at h
    split at h
    · rename_i e
      cases h
      refine ⟨Int.le_refl _, .inl ?_⟩
      rw [getI_cons, if_pos e]
      simp
    · cases h
  · rw [getI_cons] at h
    split at h
    · rename_i e
      cases h
      exact ⟨0, by rw [getI_cons, if_pos e], by simp⟩
    · cases h
theorem lk_step {P : Int → List (Int × Int)} {b T lo hi : Int} {S D : Dk} (h : Lk b (hi - lo) T S D) (b2 : 2 ≤ b) (hl : lo ≤ hi)
    (hP : ∀ s v, getI S s = some v → ∃ p k, (p, k) ∈ P s) (hlo : ∀ s v p k, getI S s = some v → (p, k) ∈ P s → lo ≤ p ∧ p ≤ hi) :
    Lk b (hi - lo) (b * T + maxL ((gainOf P D).map (·.2))) (sumOf P b S) (laterOf b (hi - lo) (gainOf P D)) ∧ gainOf P D ≠ [] ∧ sumOf P b S ≠ [] := by
  have nS := bestOn_nodup (P := P) (f := fun v p => b * v + p) (d := S) (l := []) .nil
  have nG := bestOn_nodup (P := P) (f := fun v p => p - v) (d := D) (l := []) .nil
  have eS : ∀ {k w}, getI (sumOf P b S) k = some w → ∃ s v p, getI S s = some v ∧ (p, k) ∈ P s ∧ w = b * v + p := fun {k w} e => by
    rcases bestOn_from S [] e with e | ⟨s, v, p, m, hp, e⟩
    · cases e
    · exact ⟨s, v, p, mem_getI h.nS m, hp, e⟩
  have eG : ∀ {k w}, getI (gainOf P D) k = some w → ∃ s v p, getI D s = some v ∧ (p, k) ∈ P s ∧ w = p - v := fun {k w} e => by
    rcases bestOn_from D [] e with e | ⟨s, v, p, m, hp, e⟩
    · cases e
    · exact ⟨s, v, p, mem_getI h.nD m, hp, e⟩
  have hS : ∀ {s v p k}, getI S s = some v → (p, k) ∈ P s → ∃ u, getI (sumOf P b S) k = some u ∧ b * v + p ≤ u := fun {s v p k} e hp => bestOn_has (f := fun v p => b * v + p) S [] (getI_some_mem e) hp
  have hG : ∀ {s v p k}, getI D s = some v → (p, k) ∈ P s → ∃ u, getI (gainOf P D) k = some u ∧ p - v ≤ u := fun {s v p k} e hp => bestOn_has (f := fun v p => p - v) D [] (getI_some_mem e) hp
  obtain ⟨s0, t1, t2⟩ := h.top
  obtain ⟨p0, k0, hp0⟩ := hP s0 T t1
  obtain ⟨u0, hu0, lu0⟩ := hG t2 hp0
  have r0 := hlo s0 T p0 k0 t1 hp0
  have gne : gainOf P D ≠ [] := fun z => by rw [z] at hu0; cases hu0
  have sne : sumOf P b S ≠ [] := fun z => by
    obtain ⟨u, hu, _⟩ := hS t1 hp0
    rw [z] at hu; cases hu
  generalize hm : maxL ((gainOf P D).map (·.2)) = m
  have mle : ∀ {k w}, getI (gainOf P D) k = some w → w ≤ m := fun {k w} e => by
    rw [← hm]
    exact le_maxL (List.mem_map_of_mem (f := (·.2)) (getI_some_mem e))
  have mmem : ∃ k, getI (gainOf P D) k = some m := by
    have := maxL_mem (l := (gainOf P D).map (·.2)) (by simpa using gne)
    obtain ⟨q, hq, e⟩ := List.mem_map.mp this
    rw [hm] at e
    exact ⟨q.1, mem_getI nG (by rw [← e]; exact hq)⟩
  have mlo : lo ≤ m := by have := mle hu0; omega
  obtain ⟨kt, hkt⟩ := mmem
  -- what a path along s pays
  have path : ∀ {s v p k}, getI S s = some v → (p, k) ∈ P s → (getI D s = some (b * (T - v)) ∧ b * v + p = b * T + (p - b * (T - v))) ∨
      (0 < b * (b * T + m - (b * v + p)) ∧ (hi - lo) * b ≤ b * (b * T + m - (b * v + p)) * (b - 1)) := fun {s v p k} e hp => by
    rcases (h.of s v e).2 with d | ⟨_, d1, d2⟩
    · refine .inl ⟨d, ?_⟩
      rw [Int.mul_sub]
      omega
    · right
      have r := hlo s v p k e hp
      generalize hx : b * (T - v) = x at d1 d2
      have e1 : b * T + m - (b * v + p) = x + (m - p) := by
        rw [← hx, Int.mul_sub]; omega
      rw [e1]
      have x1 : hi - lo < x := by
        rcases Int.lt_or_le (hi - lo) x with l | l
        · exact l
        · exfalso
          have a1 : x * (b - 1) ≤ (hi - lo) * (b - 1) := Int.mul_le_mul_of_nonneg_right l (by omega)
          have a2 : (hi - lo) * (b - 1) = (hi - lo) * b - (hi - lo) := by rw [Int.mul_sub, Int.mul_one]
          omega
      have y0 : x - (hi - lo) ≤ x + (m - p) := by omega
      generalize hy : x + (m - p) = y at y0
      have y1 : 0 < y := by omega
      refine ⟨Int.mul_pos (by omega) y1, ?_⟩
      rw [Int.mul_assoc, Int.mul_comm (hi - lo) b]
      refine Int.mul_le_mul_of_nonneg_left ?_ (by omega)
      have a1 : (x - (hi - lo)) * (b - 1) ≤ y * (b - 1) := Int.mul_le_mul_of_nonneg_right y0 (by omega)
      have a2 : (x - (hi - lo)) * (b - 1) = x * (b - 1) - ((hi - lo) * b - (hi - lo)) := by
        rw [Int.sub_mul, Int.mul_sub (hi - lo), Int.mul_one]
      omega
  have gto : ∀ {k w}, getI (gainOf P D) k = some w → ∃ u, getI (sumOf P b S) k = some u ∧ b * T + w ≤ u := fun {k w} e => by
    obtain ⟨s, v, p, hs, hp, e2⟩ := eG e
    obtain ⟨x, hx, e3⟩ := h.sub s v hs
    obtain ⟨u, hu, lu⟩ := hS hx hp
    refine ⟨u, hu, ?_⟩
    rw [e3, Int.mul_sub] at e2
    omega
  have stop : ∀ {k w}, getI (sumOf P b S) k = some w → w ≤ b * T + m := fun {k w} e => by
    obtain ⟨s, v, p, hs, hp, e2⟩ := eS e
    rcases path hs hp with ⟨d, e3⟩ | ⟨d1, _⟩
    · obtain ⟨u, hu, lu⟩ := hG d hp
      have := mle hu
      omega
    · rw [← e2] at d1
      have := Int.pos_of_mul_pos_right d1 (by omega)
      omega
  have lg := fun {to k} => later_get (b := b) (sp := hi - lo) (g := gainOf P D) nG (to := to) (k := k)
  simp only [hm] at lg
  refine ⟨⟨nS, later_keys nG, ⟨kt, ?_, ?_⟩, fun to w e => ⟨stop e, ?_⟩, fun to k e => ?_⟩, gne, sne⟩
  · obtain ⟨u, hu, lu⟩ := gto hkt
    have := stop hu
    rw [hu, show u = b * T + m by omega]
  · refine lg.mpr ⟨m, hkt, by simp, rfl⟩
  · obtain ⟨s, v, p, hs, hp, e2⟩ := eS e
    rcases path hs hp with ⟨d, e3⟩ | ⟨d1, d2⟩
    · obtain ⟨x, hx, lx⟩ := hG d hp
      obtain ⟨u, hu, lu⟩ := gto hx
      rw [e] at hu
      cases hu
      have ex : x = w - b * T := by omega
      have le := stop e
      have ew : b * (b * T + m - w) = b * (m - x) := by rw [ex]; congr 1; omega
      by_cases hh : hopes b (hi - lo) (b * (m - x)) = true
      · left
        rw [ew]
        exact lg.mpr ⟨x, hx, rfl, hh⟩
      · right
        have hh2 : ¬ (b * (m - x) = 0) ∧ ¬ (b * (m - x) * (b - 1) < (hi - lo) * b) := by
          unfold hopes at hh
          simpa using hh
        have pos : 0 ≤ b * (m - x) := Int.mul_nonneg (by omega) (by omega)
        refine ⟨?_, by rw [ew]; omega, by rw [ew]; omega⟩
        cases q : getI (laterOf b (hi - lo) (gainOf P D)) to with
        | none => rfl
        | some k =>
          obtain ⟨x2, hx2, e4, h4⟩ := lg.mp q
          rw [hx] at hx2
          cases hx2
          rw [e4] at h4
          exact absurd h4 hh
    · right
      rw [← e2] at d1 d2
      refine ⟨?_, d1, d2⟩
      cases q : getI (laterOf b (hi - lo) (gainOf P D)) to with
      | none => rfl
      | some k =>
        exfalso
        obtain ⟨x2, hx2, e4, h4⟩ := lg.mp q
        obtain ⟨u, hu, lu⟩ := gto hx2
        rw [e] at hu
        cases hu
        have a1 : b * (b * T + m - w) ≤ b * (m - x2) := Int.mul_le_mul_of_nonneg_left (by omega) (by omega)
        have a2 := Int.mul_le_mul_of_nonneg_right a1 (show 0 ≤ b - 1 by omega)
        unfold hopes at h4
        rw [e4] at h4
        simp only [Bool.or_eq_true, decide_eq_true_eq] at h4
        omega
  · obtain ⟨x, hx, e4, h4⟩ := lg.mp e
    obtain ⟨u, hu, lu⟩ := gto hx
    refine ⟨u, hu, ?_⟩
    -- the sum there is that of the gain: else it is hopeless
    obtain ⟨s, v, p, hs, hp, e2⟩ := eS hu
    rcases path hs hp with ⟨d, e3⟩ | ⟨d1, d2⟩
    · obtain ⟨x2, hx2, lx⟩ := hG d hp
      rw [hx] at hx2
      cases hx2
      rw [e4, show u = b * T + x by omega]
      congr 1
      omega
    · exfalso
      rw [← e2] at d1 d2
      have a1 : b * (b * T + m - u) ≤ b * (m - x) := Int.mul_le_mul_of_nonneg_left (by omega) (by omega)
      have a2 := Int.mul_le_mul_of_nonneg_right a1 (show 0 ≤ b - 1 by omega)
      unfold hopes at h4
      rw [e4] at h4
      simp only [Bool.or_eq_true, decide_eq_true_eq] at h4
      omega
end My
/-! ### list comprehensions of any number of clauses: clause by clause -/
namespace My
open PySem PySem.Spec PyProof.Rows L2
/-- what goes from a clause's turn into the next clause, and then on -/
def nextOf (e : Expr) (k : Nat) (it1 : Expr) (acc : Value) (env : Env) (on : Sem Fin) : Sem Fin := do
  let got ← eval it1 env
  standAt it1.pos
  let src ← foldedSetIterable it1 env got
  let _ ← runOwn (.compStart e k (← holding [src] (pyIter src)) acc env) env
  on
def lastOf (elt : Expr) (acc : Value) (env : Env) (on : Sem Fin) : Sem Fin := (do
  let made ← eval elt env
  let _ ← call (.builtin "list.append") [acc, made]) >>= fun _ => on
/-- a clause's turn -/
def TurnIs (elt : Expr) (gens : List Comprehension) (scope : Scope) (pos : Pos) (k : Nat) (tg iter : Expr) (ifs : List Expr) (acc : Value) (env : Env) (body : Sem Fin → Sem Fin) : Prop := ∀ it, compTurn (.ListComp elt gens scope pos) k it acc env = (standAt iter.pos >>= fun _ => pyNext it >>= fun got => match got with
  | none => pure (.done .next)
  | some v => letOwnedTupleGo tg it v >>= fun _ => assign tg env v >>= fun _ =>
    (forIn ifs true fun c r => if r = true then do let yes ← isTrue c env (eval c env); pure (ForInStep.yield yes) else pure (ForInStep.yield r)) >>= fun yes =>
      if yes = true then body (again (.compLoop (.ListComp elt gens scope pos) k it acc env)) else again (.compLoop (.ListComp elt gens scope pos) k it acc env))
section
variable {elt t0 i0 t1 i1 t2 i2 : Expr} {f0 f1 f2 : List Expr} {scope : Scope} {pos : Pos} {acc : Value} {env : Env}
abbrev cls3 (t0 i0 t1 i1 t2 i2 : Expr) (f0 f1 f2 : List Expr) : List Comprehension := [⟨t0, i0, f0, 0⟩, ⟨t1, i1, f1, 0⟩, ⟨t2, i2, f2, 0⟩]
theorem turn3_0 : TurnIs elt (cls3 t0 i0 t1 i1 t2 i2 f0 f1 f2) scope pos 0 t0 i0 f0 acc env (nextOf (.ListComp elt (cls3 t0 i0 t1 i1 t2 i2 f0 f1 f2) scope pos) 1 i1 acc env) := fun _ => rfl
theorem turn3_1 : TurnIs elt (cls3 t0 i0 t1 i1 t2 i2 f0 f1 f2) scope pos 1 t1 i1 f1 acc env (nextOf (.ListComp elt (cls3 t0 i0 t1 i1 t2 i2 f0 f1 f2) scope pos) 2 i2 acc env) := fun _ => rfl
theorem turn3_2 : TurnIs elt (cls3 t0 i0 t1 i1 t2 i2 f0 f1 f2) scope pos 2 t2 i2 f2 acc env (lastOf elt acc env) := fun _ => rfl
end
section
variable {prog : Program} {w : World} {A : Around} {R : Result → Shared → Prop} {s : Shared} {tg iter elt : Expr} {gens : List Comprehension} {scope : Scope} {pos : Pos} {ifs : List Expr} {acc : Value} {env : Env} {body : Sem Fin → Sem Fin} {k : Nat} {it : Value}
/-- a body comes to where N holds, and nothing is raised -/
def Comes (prog : Program) (w : World) (A : Around) (body : Sem Fin → Sem Fin) (N : Shared → Prop) (s : Shared) : Prop :=
  ∀ (on : Sem Fin) (Q : Fin → Shared → Prop) (E : Value → Shared → Prop), (∀ s', N s' → wpAny (model prog w) A on Q E s') → wpAny (model prog w) A (body on) Q E s
/-- one clause's loop, nothing being raised in it: J holds ahead of each turn -/
theorem loop_of (ti : TurnIs elt gens scope pos k tg iter ifs acc env body) (J : Nat → Shared → Prop)
    (h : ∀ n s, J n s → wpAny (model prog w) A (pyNext it) (fun got s1 => match got with
      | none => R (.ok .next) s1
      | some v => wpAny (model prog w) A (letOwnedTupleGo tg it v) (fun _ s2 => wpAny (model prog w) A (assign tg env v) (fun _ s3 =>
          wpAny (model prog w) A (forIn ifs true fun c r => if r = true then do let yes ← isTrue c env (eval c env); pure (ForInStep.yield yes) else pure (ForInStep.yield r)) (fun yes s4 =>
            if yes = true then Comes prog w A body (fun s5 => ∃ m, m < n ∧ J m s5) s4 else ∃ m, m < n ∧ J m s4) (fun _ _ => False) s3) (fun _ _ => False) s2) (fun _ _ => False) s1) (fun _ _ => False) s)
    (n : Nat) (hn : J n s) : codeAny (model prog w) A (.compLoop (.ListComp elt gens scope pos) k it acc env) R s := by
  refine codeAny_loop rfl J (fun n s hJ => ?_) n hn
  show wpAny _ A ((compTurn (.ListComp elt gens scope pos) k it acc env).onRaise (fun x => do noteFrame x env; theTreesLotGoes x)) _ _ s
  refine wpAny_noted ?_
  rw [ti it]
  have no : ∀ {E : Value → Shared → Prop} (x : Value) (s' : Shared), False → E x s' := fun _ _ z => z.elim
  refine wpAny_bind (wpAny_standAt (wpAny_bind (wpAny_mono (h n s hJ) (fun got s1 h1 => ?_) no)))
  cases got with
  | none => exact wpAny_pure h1
  | some v =>
    refine wpAny_bind (wpAny_mono h1 (fun _ s2 h2 => wpAny_bind (wpAny_mono h2 (fun _ s3 h3 => wpAny_bind (wpAny_mono h3 (fun yes s4 h4 => ?_) no)) no)) no)
    cases yes with
    | false => exact wpAny_pure ⟨rfl, h4⟩
    | true => exact h4 _ _ _ fun s5 h5 => wpAny_pure ⟨rfl, h5⟩
/-- a clause behind the first one starts -/
theorem start_of {c : Comprehension} (hc : gens[k]? = some c) (ha : (c.is_async != 0) = false) (h0 : codeAny (model prog w) A (.compLoop (.ListComp elt gens scope pos) k it acc env) R s)
    (h : wpAny (model prog w) A (pyIter it) (fun it' s' => codeAny (model prog w) A (.compLoop (.ListComp elt gens scope pos) k it' acc env) R s') (fun _ _ => False) s) :
    codeAny (model prog w) A (.compStart (.ListComp elt gens scope pos) k it acc env) R s := by
  refine codeAny_of_tree ?_
  show wpAny _ _ ((compStart (.ListComp elt gens scope pos) k it acc env).onRaise (fun x => do noteFrame x env; standAt theWindowsPlace)) _ _ s
  refine wpAny_notedAt ?_
  unfold compStart
  have hcl : (clausesOf (.ListComp elt gens scope pos))[k]? = some c := hc
  rw [hcl]
  simp only [Option.elim_some, ha]
  refine wpAny_bind (wpAny_askSetting (wpAny_ite ?_))
  split
  · first
      | exact wpAny_bind (wpAny_pure (wpAny_pure (And.intro rfl h0)))
      | exact wpAny_pure (And.intro rfl h0)
  · exact wpAny_bind (wpAny_rule (wpAny_bind (wpAny_standAt (wpAny_bind (wpAny_mono h (fun it' s' h' => wpAny_pure (And.intro rfl h')) fun _ _ z => z.elim)))))
end
/-! what a clause asks -/
abbrev TC := L2.St → Hp → (Hp → Prop) → Prop
def tEnd (te : TE) (D : Addr) : TC := fun σ H N => te σ H fun y H1 => ∃ made, H1 D = some (.lst made) ∧ made.length < sizeLine ∧ N (upd H1 D (.lst (made ++ [y])))
def tTurns (J : It) (g : TG) (tt : TT) (vs : List Nat) (t : TC) : TC := fun σ H N => ∃ W : Nat → Nat → Hp → Prop, (∃ m, W 0 m H) ∧ ∀ i m H, W i m H →
  (J.stop i H ∧ N H) ∨ (J.go i H ∧ ∃ N1 : Hp → Prop, (∀ H', N1 H' → ∃ m', m' < m ∧ W (i + 1) m' H') ∧ ∀ x H', J.yld i H x H' → g x (wipe σ vs) H' fun σ2 H2 => wipe σ2 vs = wipe σ vs ∧ tt σ2 H2 fun b H3 => if b = true then t σ2 H3 N1 else N1 H3)
def tNest (wi : TI) (g : TG) (tt : TT) (vs : List Nat) (t : TC) : TC := fun σ H N => wi σ H fun J H1 => tTurns J g tt vs t σ H1 N
def tLcN (wi : TI) (g : TG) (tt : TT) (vs : List Nat) (t : Addr → TC) : TE := fun σ H Q => wi σ H fun J H1 => ∀ D, H1 D = none → tTurns J g tt vs (t D) σ (upd H1 D (.lst [])) (Q (.ref D))
/-- what a clause's body does within the block -/
structure PCl (B : Cx) (body : Sem Fin → Sem Fin) (t : TC) (vd : List Nat) : Prop where
  run : ∀ (pins : List (Addr × Obj)) (s : Shared) (σ : L2.St) (H : Hp) (N : Hp → Prop), Inv B pins σ H s → t σ H N → Comes B.prog B.w B.A body (fun s' => ∃ H', Inv B pins (wipe σ vd) H' s' ∧ N H') s
section
variable {X : Cx} {sB : Shared} {HB : Hp} {scB : Scope} {ceB : Env} {fpB : List Addr} {elt tg iter : Expr} {gens : List Comprehension} {scope : Scope} {pos : Pos} {ifs : List Expr} {body : Sem Fin → Sem Fin} {k : Nat} {D : Addr} {wi : TI} {g : TG} {tt : TT} {te : TE} {t : TC} {vd vs : List Nat}
theorem pcl_last (he : PE (X.blk sB HB scB ceB fpB) elt te) : PCl (X.blk sB HB scB ceB fpB) (lastOf elt (.ref D) ceB) (tEnd te D) [] := by
  refine ⟨fun pins s σ H N I h on Q E q => ?_⟩
  unfold lastOf
  refine wpAny_bind (wpAny_bind (wpAny_mono (he.run pins s σ H _ I h) (fun z s1 h1 => ?_) fun _ _ z => z.elim))
  obtain ⟨y, H1, I1, r1, made, hD, hz, n⟩ := h1
  refine wpAny_bind (app_ok (X := X.blk sB HB scB ceB fpB) I1 hD hz r1 fun s2 I2 => wpAny_pure ?_)
  exact q s2 ⟨_, I2, n⟩
/-- the turns of one clause, from where its iterator stands -/
theorem turns_run {pins : List (Addr × Obj)} {s : Shared} {σ : L2.St} {H : Hp} {N : Hp → Prop} {it : Addr} {fp : List Addr} {tn : Nat → Heap → Prop} {J : It} (hc : X.calm = true)
    (ti : TurnIs elt gens scope pos k tg iter ifs (.ref D) ceB body) (hg : PG (X.blk sB HB scB ceB fpB) tg g) (ht : PTs (X.blk sB HB scB ceB fpB) ifs tt) (hb : PCl (X.blk sB HB scB ceB fpB) body t vd) (hv : ∀ i ∈ vd, i ∈ vs)
    (I : Inv (X.blk sB HB scB ceB fpB) pins σ H s) (T : Turn X.prog X.w X.K tg J fp it tn) (st : tn 0 s.heap) (hfp : ∀ H' : Hp, (∀ b ∈ fp, H' b = none) → ∀ b ∈ fp, FpOk (X.blk sB HB scB ceB fpB) pins H' b) (f0 : ∀ b ∈ fp, H b = none) (h : tTurns J g tt vs t σ H N)
    {R : Result → Shared → Prop} (hR : ∀ s' H', Inv (X.blk sB HB scB ceB fpB) pins (wipe σ vs) H' s' → N H' → R (.ok .next) s') :
    codeAny (model X.prog X.w) X.A (.compLoop (.ListComp elt gens scope pos) k (.ref it) (.ref D) ceB) R s := by
  obtain ⟨W, ⟨m0, w0⟩, turn⟩ := h
  refine loop_of ti (fun n s' => ∃ i H', Inv (X.blk sB HB scB ceB fpB) pins (wipe σ vs) H' s' ∧ tn i s'.heap ∧ (∀ b ∈ fp, H' b = none) ∧ W i n H') ?_ m0 ⟨0, H, I.weak (wipe_length _ _) (fun j v e => (wipe_some e).1), st, f0, w0⟩
  rintro n s1 ⟨i, H1, I1, st1, n1, w1⟩
  rcases turn i n H1 w1 with ⟨stop, fine⟩ | ⟨go, N1, hN1, step⟩
  · refine wpAny_mono (T.done (X.blk sB HB scB ceB fpB) rfl rfl rfl hc i _ s1 (wipe σ vs) H1 (fun _ _ => False) I1 (hfp H1 n1) st1 stop) (fun got s2 h2 => ?_) fun _ _ z => z.elim
    obtain ⟨e, I2⟩ := h2
    subst e
    exact hR s2 H1 I2 fine
  · refine wpAny_mono (T.item (X.blk sB HB scB ceB fpB) rfl rfl rfl hc i _ s1 (wipe σ vs) H1 (fun _ _ => False) I1 (hfp H1 n1) st1 go) (fun got s2 h2 => ?_) fun _ _ z => z.elim
    obtain ⟨u, e, h2⟩ := h2
    subst e
    refine wpAny_mono h2 (fun _ s3 h3 => ?_) fun _ _ z => z.elim
    obtain ⟨x, H3, I3, r3, y3, st3, n3⟩ := h3
    have I3' := I3.pinned (hfp H3 n3) (T.obj _ _ st3)
    refine wpAny_mono (hg.run _ s3 (wipe σ vs) H3 x u _ I3' r3 (step x H3 y3)) (fun _ s4 h4 => ?_) fun _ _ z => z.elim
    obtain ⟨σ4, H4, I4, w4, q4⟩ := h4
    refine wpAny_mono (ht.run _ s4 σ4 H4 _ I4 q4) (fun b s5 h5 => ?_) fun _ _ z => z.elim
    obtain ⟨H5, I5, q5⟩ := h5
    have next : ∀ {σ' : L2.St} {s' : Shared} {H' : Hp}, Inv (X.blk sB HB scB ceB fpB) (pins ++ pinsAt fp s3.heap) σ' H' s' → (wipe σ vs).length = σ'.length → (∀ (j : Nat) v, (wipe σ vs)[j]? = some (some v) → σ'[j]? = some (some v)) → N1 H' →
        ∃ m, m < n ∧ ∃ i H', Inv (X.blk sB HB scB ceB fpB) pins (wipe σ vs) H' s' ∧ tn i s'.heap ∧ (∀ b ∈ fp, H' b = none) ∧ W i m H' := fun {σ' s' H'} I' hl hk nx => by
      obtain ⟨m', hm, w'⟩ := hN1 H' nx
      have there : ∀ b ∈ fp, ∀ o, s3.heap.get? b = some o → s'.heap.get? b = some o ∧ H' b = none := fun b hb o e => by
        have z := I'.pin (b, o) (List.mem_append_right _ (List.mem_append_right _ (mem_pinsAt hb e)))
        exact ⟨z.1, z.2.1⟩
      refine ⟨m', hm, i + 1, H', I'.unpinned.weak hl hk, T.keep _ _ _ st3 fun b hb o e => (there b hb o e).1, fun b hb => ?_, w'⟩
      obtain ⟨o, e, _⟩ := T.obj _ _ st3 b hb
      exact (there b hb o e).2
    cases b with
    | false => exact next I5 (by rw [← w4, wipe_length]) (fun j v e => by rw [← w4] at e; exact (wipe_some e).1) q5
    | true =>
      intro on Q E q
      refine hb.run _ s5 σ4 H5 N1 I5 q5 on Q E fun s6 h6 => q s6 ?_
      obtain ⟨H6, I6, nx⟩ := h6
      refine next I6 (by rw [← w4, wipe_length, wipe_length]) (fun j v e => ?_) nx
      rw [← w4] at e
      obtain ⟨e1, e2⟩ := wipe_some e
      rw [wipe_out fun z => e2 (hv j z)]
      exact e1
/-- one clause more -/
theorem pcl_next (hc : X.calm = true) (hk : gens[k]? = some ⟨tg, iter, ifs, 0⟩) (ti : TurnIs elt gens scope pos k tg iter ifs (.ref D) ceB body) (hi : PI (X.blk sB HB scB ceB fpB) tg iter wi) (hg : PG (X.blk sB HB scB ceB fpB) tg g) (ht : PTs (X.blk sB HB scB ceB fpB) ifs tt) (hb : PCl (X.blk sB HB scB ceB fpB) body t vd) (hv : ∀ i ∈ vd, i ∈ vs)
    (hs : ∀ x, foldedSetIterable iter ceB x = pure x) : PCl (X.blk sB HB scB ceB fpB) (nextOf (.ListComp elt gens scope pos) k iter (.ref D) ceB) (tNest wi g tt vs t) vs := by
  refine ⟨fun pins s σ H N I h on Q E q => ?_⟩
  unfold nextOf
  refine wpAny_bind (wpAny_mono (hi.run pins s σ H _ I h) (fun z s1 h1 => ?_) fun _ _ z => z.elim)
  refine wpAny_bind (wpAny_standAt (wpAny_bind (wpAny_of_eq (hs z) (wpAny_bind (wpAny_holding (wpAny_mono h1 (fun it1 s2 h2 => ?_) fun _ _ z => z.elim))))))
  obtain ⟨it, fp, tn, J, H2, e, I2, T, st, f2, tr⟩ := h2
  subst e
  refine wpAny_bind (wpAny_runOwn ?_)
  rw [Around.mark_none]
  have loop : codeAny (model X.prog X.w) X.A (.compLoop (.ListComp elt gens scope pos) k (.ref it) (.ref D) ceB) (fun r s' => match r with
      | .ok _ => ∃ H', Inv (X.blk sB HB scB ceB fpB) pins (wipe σ vs) H' s' ∧ N H'
      | .error _ => False) s2 :=
    turns_run hc ti hg ht hb hv I2 T st (fun H' hn b hb => ⟨hn b hb, (f2 b hb).2⟩) (fun b hb => (f2 b hb).1) tr fun s' H' I' n' => ⟨H', I', n'⟩
  refine codeAny_mono (start_of hk rfl loop (T.self X.A 0 _ _ _ st loop)) fun r s' hr => ?_
  cases r with
  | error e => exact hr.elim
  | ok f => exact q s' hr
end
/-! the whole comprehension -/
section
variable {X : Cx} {elt tg iter : Expr} {more : List Comprehension} {scope : Scope} {own : List (Str × Nat)} {pos : Pos} {ifs : List Expr} {wi : TI} {g : TG} {tt : TT} {t : Addr → TC} {vd : List Nat} {body : Value → Env → Sem Fin → Sem Fin}
theorem pe_lcN (hc : X.calm = true) (hN : X.N.Nodup) (hi : PI X tg iter wi) (ok : BlkOk X.N X.env.scope scope own)
    (ti : ∀ acc env, TurnIs elt (⟨tg, iter, ifs, 0⟩ :: more) scope pos 0 tg iter ifs acc env (body acc env))
    (hg : ∀ (s : Shared) (H : Hp) (C : Addr) (cl : List (Str × Addr)) (fp : List Addr), PG (X.blk s H scope (compEnvC scope cl C X.env) fp) tg g)
    (ht : ∀ (s : Shared) (H : Hp) (C : Addr) (cl : List (Str × Addr)) (fp : List Addr), PTs (X.blk s H scope (compEnvC scope cl C X.env) fp) ifs tt)
    (hb : ∀ (s : Shared) (H : Hp) (C : Addr) (cl : List (Str × Addr)) (fp : List Addr) (D : Addr), PCl (X.blk s H scope (compEnvC scope cl C X.env) fp) (body (.ref D) (compEnvC scope cl C X.env)) (t D) vd)
    (hv : ∀ i ∈ vd, i ∈ own.map (·.2)) (hs : ∀ x, foldedSetIterable iter X.env x = pure x := by intro _; rfl) :
    PE X (.ListComp elt (⟨tg, iter, ifs, 0⟩ :: more) scope pos) (tLcN wi g tt (own.map (·.2)) t) := by
  refine ⟨fun pins s σ H Q I h => ?_⟩
  rw [eval_ListComp]
  have captured : ∀ y ∈ scope.names, y.2 = .free → ∃ c, X.env.cells.lookup y.1 = some c := fun y hy e =>
    (ok.free y hy e).elim (fun z => I.ok.has _ (.inl z)) fun z => I.ok.has _ (.inr z)
  refine wpAny_comprehension_free (use := none) (g := ⟨tg, iter, ifs, 0⟩) (gs := more) rfl hs (closure_ok captured) ok.kind (fun y hy e => by rw [ok.uniq y hy, e])
    (thn (hi.run pins s σ H _ I h) fun z s1 hz => thn hz fun w s2 hw => ?_)
  obtain ⟨it, fp, tn, J, H2, e, I2, T, st2, f2, q⟩ := hw
  subst e
  refine wpAny_newObj_type (newEnv_comp ?_) (by show 0 ≤ sizeLine; decide)
  obtain ⟨D, hD⟩ : ∃ D, s2.heap.objs.size = D := ⟨_, rfl⟩
  rw [hD]
  have tr := q D (I2.hok.fresh (Nat.le_of_eq hD))
  obtain ⟨s3, hs3⟩ : ∃ s3 : Shared, ({ s2 with heap := s2.heap.push { cls := .type "list", data := .seq ([] : List Value).toArray } } : Shared) = s3 := ⟨_, rfl⟩
  have h3 : s3.heap = s2.heap.push { cls := .type "list", data := .seq ([] : List Value).toArray } := by rw [← hs3]
  rw [hs3]
  have I3 : Inv X pins σ (upd H2 D (.lst [])) s3 := by
    rw [← hs3]
    exact I2.laid (t' := s2.toks) (fun b o e => Heap.get?_push_of_some _ e) (Nat.le_of_eq hD) ⟨Nat.zero_le _, [], 0, .nil, hD ▸ Heap.get?_push_size _ rfl⟩
  have old : ∀ b ∈ fp, b < s2.heap.objs.size := fun b hb => (T.obj _ _ st2 b hb).elim fun o e => Heap.lt_size e.1
  have f3 : ∀ b ∈ fp, FpOk X pins (upd H2 D (.lst [])) b ∧ b < s3.heap.objs.size := fun b hb => by
    have l := old b hb
    refine ⟨⟨(upd_ne (by rw [← hD]; exact Nat.ne_of_lt l)).trans (f2 b hb).1, (f2 b hb).2⟩, ?_⟩
    rw [h3, Heap.size_push]
    exact Nat.lt_succ_of_lt l
  have st3 : tn 0 s3.heap := T.keep _ _ _ st2 fun b _ o e => h3 ▸ Heap.get?_push_of_some _ e
  have I4 := block_start I3 ok hN f3
  obtain ⟨cl, hcl⟩ : ∃ cl, cellsFrom (s3.heap.objs.size + 1) scope.names (cloFrom X.env.cells scope.names []) = cl := ⟨_, rfl⟩
  rw [hcl] at I4 ⊢
  have pg := hg s3 (upd H2 D (.lst [])) s3.heap.objs.size cl fp
  have pt := ht s3 (upd H2 D (.lst [])) s3.heap.objs.size cl fp
  have pb := hb s3 (upd H2 D (.lst [])) s3.heap.objs.size cl fp D
  have tin := ti (.ref D) (compEnvC scope cl s3.heap.objs.size X.env)
  have cL : (compEnvC scope cl s3.heap.objs.size X.env).locals = s3.heap.objs.size := rfl
  have f3n : ∀ b ∈ fp, (upd H2 D (.lst [])) b = none := fun b hb => (f3 b hb).1.1
  have fpI : ∀ H' : Hp, (∀ b ∈ fp, H' b = none) → ∀ b ∈ fp, FpOk (X.blk s3 (upd H2 D (.lst [])) scope (compEnvC scope cl s3.heap.objs.size X.env) fp) [] H' b := fun H' hn b hb =>
    ⟨hn b hb, (I4.ok.exf b hb).1, I4.ok.exfs b hb, .inl hb, fun x c e => (I4.ok.exf b hb).2 x c e, fun p hp => absurd (show p ∈ ([] : List (Addr × Obj)) ++ [] from hp) (by simp)⟩
  show codeAny _ _ (.compStart (.ListComp elt (⟨tg, iter, ifs, 0⟩ :: more) scope pos) 0 (.ref it) (.ref D) (compEnvC scope cl s3.heap.objs.size X.env)) (compPost (model X.prog X.w) X.A X.xe none _ (.ref D) s3.heap.objs.size) { s3 with heap := pushCells (s3.heap.push { cls := .type "dict", data := .dict #[] }) scope.names }
  have st4 : tn 0 (pushCells (s3.heap.push { cls := .type "dict", data := .dict #[] }) scope.names) := T.keep _ _ _ st3 fun b _ o e => pushCells_keeps _ _ _ _ (Heap.get?_push_of_some _ e)
  have loop : codeAny (model X.prog X.w) X.A (.compLoop (.ListComp elt (⟨tg, iter, ifs, 0⟩ :: more) scope pos) 0 (.ref it) (.ref D) (compEnvC scope cl s3.heap.objs.size X.env))
      (compPost (model X.prog X.w) X.A X.xe none (fun v s' => ∃ x H', Inv X pins σ H' s' ∧ RelV x v ∧ Q x H') (.ref D) s3.heap.objs.size) { s3 with heap := pushCells (s3.heap.push { cls := .type "dict", data := .dict #[] }) scope.names } := by
    refine turns_run (σ := wipe σ (own.map (·.2))) (N := Q (.ref D)) (vs := own.map (·.2)) hc tin pg pt pb hv I4 T st4 fpI f3n ?_ fun s5 H5 I5 n5 => ?_
    · have ww : ∀ vs' : List Nat, wipe (wipe σ vs') vs' = wipe σ vs' := fun vs' => by
        apply List.ext_getElem?
        intro j
        by_cases m : j ∈ vs'
        · have none_at : ∀ (τ : L2.St), τ.length = σ.length → (wipe τ vs')[j]? = if j < σ.length then some none else none := fun τ lt => by
            cases e : (wipe τ vs')[j]? with
            | none =>
              have := List.getElem?_eq_none_iff.mp e
              rw [wipe_length, lt] at this
              rw [if_neg (by omega)]
            | some o =>
              have := (List.getElem?_eq_some_iff.mp e).1
              rw [wipe_length, lt] at this
              rw [if_pos this]
              cases o with
              | none => rfl
              | some v => exact absurd m (wipe_some e).2
          rw [none_at _ (wipe_length _ _), none_at _ rfl]
        · rw [wipe_out m]
      obtain ⟨W, h0, go⟩ := tr
      refine ⟨W, h0, fun i m H hw => (go i m H hw).imp id fun z => ?_⟩
      rw [ww]
      exact z
    · have I6 : Inv X pins σ H5 s5 := I3.call' (ch := fp) I5.os I5.base I5.hok I5.bare fun b hb => ⟨(f3 b hb).1.2.2.2.1, (f3 b hb).1.2.1, (f3 b hb).1.2.2.2.2.1, (f3 b hb).1.2.2.2.2.2⟩
      obtain ⟨m, hn, _⟩ := I5.loc
      obtain ⟨f0, f1, f2', f3', f4, f5⟩ := I3.fpOk (Nat.le_refl _) (show H5 s3.heap.objs.size = none from I5.free)
      exact ⟨m, hn, fun h'' sb => ⟨.ref D, H5, I6.turned (t' := s5.toks) (fun b o hb e => (sb.2 b hb).trans e) f0 f1 f3' f4 f5, rfl, n5⟩⟩
  exact codeAny_compStart_list loop (T.self X.A 0 _ _ _ st4 loop)
end
section
variable {X : Cx} {elt t0 i0 t1 i1 t2 i2 : Expr} {f0 f1 f2 : List Expr} {scope : Scope} {own : List (Str × Nat)} {vs1 vs2 : List Nat} {pos : Pos} {w0 w1 w2 : TI} {g0 g1 g2 : TG} {u0 u1 u2 : TT} {te : TE}
theorem pe_lc3 (hc : X.calm = true) (hN : X.N.Nodup) (hi : PI X t0 i0 w0) (ok : BlkOk X.N X.env.scope scope own) (hv2 : ∀ i ∈ vs2, i ∈ vs1) (hv1 : ∀ i ∈ vs1, i ∈ own.map (·.2))
    (hg0 : ∀ (s : Shared) (H : Hp) (C : Addr) (cl : List (Str × Addr)) (fp : List Addr), PG (X.blk s H scope (compEnvC scope cl C X.env) fp) t0 g0) (ht0 : ∀ (s : Shared) (H : Hp) (C : Addr) (cl : List (Str × Addr)) (fp : List Addr), PTs (X.blk s H scope (compEnvC scope cl C X.env) fp) f0 u0)
    (hi1 : ∀ (s : Shared) (H : Hp) (C : Addr) (cl : List (Str × Addr)) (fp : List Addr), PI (X.blk s H scope (compEnvC scope cl C X.env) fp) t1 i1 w1) (hg1 : ∀ (s : Shared) (H : Hp) (C : Addr) (cl : List (Str × Addr)) (fp : List Addr), PG (X.blk s H scope (compEnvC scope cl C X.env) fp) t1 g1) (ht1 : ∀ (s : Shared) (H : Hp) (C : Addr) (cl : List (Str × Addr)) (fp : List Addr), PTs (X.blk s H scope (compEnvC scope cl C X.env) fp) f1 u1)
    (hi2 : ∀ (s : Shared) (H : Hp) (C : Addr) (cl : List (Str × Addr)) (fp : List Addr), PI (X.blk s H scope (compEnvC scope cl C X.env) fp) t2 i2 w2) (hg2 : ∀ (s : Shared) (H : Hp) (C : Addr) (cl : List (Str × Addr)) (fp : List Addr), PG (X.blk s H scope (compEnvC scope cl C X.env) fp) t2 g2) (ht2 : ∀ (s : Shared) (H : Hp) (C : Addr) (cl : List (Str × Addr)) (fp : List Addr), PTs (X.blk s H scope (compEnvC scope cl C X.env) fp) f2 u2)
    (he : ∀ (s : Shared) (H : Hp) (C : Addr) (cl : List (Str × Addr)) (fp : List Addr), PE (X.blk s H scope (compEnvC scope cl C X.env) fp) elt te)
    (hs0 : ∀ x, foldedSetIterable i0 X.env x = pure x := by intro _; rfl) (hs1 : ∀ env x, foldedSetIterable i1 env x = pure x := by intro _ _; rfl) (hs2 : ∀ env x, foldedSetIterable i2 env x = pure x := by intro _ _; rfl) :
    PE X (.ListComp elt [⟨t0, i0, f0, 0⟩, ⟨t1, i1, f1, 0⟩, ⟨t2, i2, f2, 0⟩] scope pos) (tLcN w0 g0 u0 (own.map (·.2)) fun D => tNest w1 g1 u1 vs1 (tNest w2 g2 u2 vs2 (tEnd te D))) :=
  pe_lcN (more := [⟨t1, i1, f1, 0⟩, ⟨t2, i2, f2, 0⟩]) (body := fun acc env => nextOf (.ListComp elt (cls3 t0 i0 t1 i1 t2 i2 f0 f1 f2) scope pos) 1 i1 acc env) hc hN hi ok (fun _ _ => turn3_0) hg0 ht0
    (fun s H C cl fp D => pcl_next (gens := cls3 t0 i0 t1 i1 t2 i2 f0 f1 f2) (k := 1) hc rfl turn3_1 (hi1 s H C cl fp) (hg1 s H C cl fp) (ht1 s H C cl fp)
      (pcl_next (gens := cls3 t0 i0 t1 i1 t2 i2 f0 f1 f2) (k := 2) hc rfl turn3_2 (hi2 s H C cl fp) (hg2 s H C cl fp) (ht2 s H C cl fp) (pcl_last (he s H C cl fp)) (fun _ z => nomatch z) (hs2 _)) hv2 (hs1 _)) hv1 hs0
end
end My
/-! ### machines as lists -/
namespace My
open PySem PySem.Spec PyProof.Rows L2
structure Mc where
  b : Int
  z : Str
  C : List (List (List (Int × Int)))
def eP (p : Int × Int) : PyData := .tuple [.int p.1, .int p.2]
def eC (ps : List (Int × Int)) : PyData := .tuple (ps.map eP)
def eS (cs : List (List (Int × Int))) : PyData := .tuple (cs.map eC)
def eM (M : Mc) : PyData := .tuple [.int M.b, .str M.z, .tuple (M.C.map eS)]
/-- the pair of a choice of one -/
def fC (ps : List (Int × Int)) : PyData := eP (ps.headD (0, 0))
def fS (cs : List (List (Int × Int))) : PyData := .tuple (cs.map fC)
def fM (M : Mc) : PyData := .tuple [.int M.b, .str M.z, .tuple (M.C.map fS)]
abbrev wideN : Int := (10 : Int) ^ (30 : Int).toNat
structure Mok (M : Mc) : Prop where
  b2 : 2 ≤ M.b
  b9 : M.b ≤ 9
  ltr : lettersL M.z.cps.toList = true
  c1 : 1 ≤ M.C.length
  c3 : M.C.length ≤ 300
  row : ∀ cs ∈ M.C, cs.length = M.z.length
  ch : ∀ cs ∈ M.C, ∀ ps ∈ cs, 1 ≤ ps.length ∧ ps.length ≤ 3
  pr : ∀ cs ∈ M.C, ∀ ps ∈ cs, ∀ p ∈ ps, -wideN ≤ p.1 ∧ p.1 ≤ wideN ∧ 0 ≤ p.2 ∧ p.2 ≤ (M.C.length : Int) - 1
  few : M.C.length ≤ 4 ∨ ∀ cs ∈ M.C, ∀ ps ∈ cs, ps.length = 1
theorem lift_map {α : Type} {f : α → PyData} {P : α → Prop} : ∀ ds : List PyData, (∀ d ∈ ds, ∃ x, d = f x ∧ P x) → ∃ xs : List α, ds = xs.map f ∧ ∀ x ∈ xs, P x
  | [], _ => ⟨[], rfl, fun _ h => nomatch h⟩
  | d :: ds, h => by
    obtain ⟨x, rfl, hx⟩ := h d (.head _)
    obtain ⟨xs, rfl, hxs⟩ := lift_map ds fun e he => h e (.tail _ he)
    refine ⟨x :: xs, rfl, fun y hy => ?_⟩
    rcases List.mem_cons.mp hy with e | e
    · subst e; exact hx
    · exact hxs y e
theorem pairD_form {most many : Int} {d : PyData} (h : pairD most many d = true) : ∃ p : Int × Int, d = eP p ∧ -most ≤ p.1 ∧ p.1 ≤ most ∧ 0 ≤ p.2 ∧ p.2 ≤ many - 1 := by
  unfold pairD at h
  split at h
  · rename_i p t
    rw [Bool.and_eq_true] at h
    obtain ⟨i, rfl⟩ := betD_int h.1
    obtain ⟨j, rfl⟩ := betD_int h.2
    obtain ⟨h1, h2⟩ := h
    unfold betD at h1 h2
    rw [Bool.and_eq_true, decide_eq_true_eq, decide_eq_true_eq] at h1 h2
    exact ⟨(i, j), rfl, h1.1, h1.2, h2.1, h2.2⟩
  · cases h
theorem chD_form {many : Int} {d : PyData} (h : chD many d = true) : ∃ ps, d = eC ps ∧ (1 ≤ ps.length ∧ ps.length ≤ 3) ∧ ∀ p ∈ ps, -20 ≤ p.1 ∧ p.1 ≤ 20 ∧ 0 ≤ p.2 ∧ p.2 ≤ many - 1 := by
  unfold chD at h
  split at h
  · rename_i ds
    rw [Bool.and_eq_true, Bool.and_eq_true, List.all_eq_true] at h
    obtain ⟨h1, h2, _⟩ := h
    obtain ⟨ps, rfl, hp⟩ := lift_map (f := eP) ds fun d hd => pairD_form (h2 d hd)
    refine ⟨ps, rfl, ?_, hp⟩
    unfold tupD at h1
    rw [Bool.and_eq_true, decide_eq_true_eq, decide_eq_true_eq, List.length_map] at h1
    omega
  · cases h
theorem frmD_form {most : Int} {d : PyData} (h : frmD most d = true) : ∃ (b : Int) (z : Str) (sss : List (List PyData)), d = .tuple [.int b, .str z, .tuple (sss.map .tuple)] ∧ 2 ≤ b ∧ b ≤ 9 ∧ lettersL z.cps.toList = true ∧ 1 ≤ sss.length ∧ (sss.length : Int) ≤ most ∧ ∀ s ∈ sss, s.length = z.length := by
  unfold frmD at h
  split at h
  · rename_i b l s
    rw [Bool.and_eq_true, Bool.and_eq_true] at h
    obtain ⟨h1, h2, h3⟩ := h
    obtain ⟨i, rfl⟩ := betD_int h1
    unfold betD at h1
    rw [Bool.and_eq_true, decide_eq_true_eq, decide_eq_true_eq] at h1
    cases l with
    | str z =>
      have h4 := tabD_tup h3
      cases s with
      | tuple ss =>
        obtain ⟨sss, rfl, hs⟩ := lift_map (f := PyData.tuple) (P := fun s => s.length = z.length) ss fun d hd => by
          have : tupD (z.length : Int) (z.length : Int) d = true := h4.2 d hd
          cases d with
          | tuple es =>
            unfold tupD at this
            rw [Bool.and_eq_true, decide_eq_true_eq, decide_eq_true_eq] at this
            exact ⟨es, rfl, by omega⟩
          | _ => exact absurd this (by simp [tupD])
        have h5 := h4.1
        unfold tupD at h5
        rw [Bool.and_eq_true, decide_eq_true_eq, decide_eq_true_eq, List.length_map] at h5
        exact ⟨i, z, sss, rfl, h1.1, h1.2, h2, by omega, h5.2, hs⟩
      | _ => exact absurd h4.1 (by simp [tupD])
    | _ => exact absurd h2 (by simp [ltrD])
  · cases h
theorem flat_all {sss : List (List PyData)} {f : PyData → Bool} (h : ((sss.map PyData.tuple).flatMap fun st => (elems st).map f).all id = true) : ∀ s ∈ sss, ∀ d ∈ s, f d = true := fun s hs d hd => by
  rw [List.all_eq_true] at h
  exact h (f d) (List.mem_flatMap.mpr ⟨.tuple s, List.mem_map_of_mem hs, List.mem_map_of_mem hd⟩)
theorem lift_map2 {α : Type} {f : α → PyData} {P : α → Prop} : ∀ sss : List (List PyData), (∀ s ∈ sss, ∀ d ∈ s, ∃ x, d = f x ∧ P x) → ∃ xss : List (List α), sss = xss.map (List.map f) ∧ ∀ xs ∈ xss, ∀ x ∈ xs, P x
  | [], _ => ⟨[], rfl, fun _ h => nomatch h⟩
  | s :: sss, h => by
    obtain ⟨xs, rfl, hx⟩ := lift_map s (h s (.head _))
    obtain ⟨xss, rfl, hxs⟩ := lift_map2 sss fun e he => h e (.tail _ he)
    refine ⟨xs :: xss, rfl, fun y hy => ?_⟩
    rcases List.mem_cons.mp hy with e | e
    · subst e; exact hx
    · exact hxs y e
theorem mch_form {d : PyData} (h : mchD d = true) : ∃ M, d = eM M ∧ Mok M ∧ M.C.length ≤ 4 ∧ ∀ cs ∈ M.C, ∀ ps ∈ cs, ∀ p ∈ ps, -20 ≤ p.1 ∧ p.1 ≤ 20 := by
  have hf : frmD 4 d = true := by
    cases e : frmD 4 d with
    | true => rfl
    | false => rw [mchD_not (by rw [e]; decide)] at h; cases h
  obtain ⟨b, z, sss, rfl, b2, b9, hl, s1, s4, hs⟩ := frmD_form hf
  unfold mchD at h
  rw [Bool.and_eq_true] at h
  have h2 := flat_all h.2
  rw [List.length_map] at h2
  obtain ⟨xss, rfl, hx⟩ := lift_map2 (f := eC) sss fun s hs d hd => chD_form (h2 s hs d hd)
  rw [List.length_map] at s1 s4
  refine ⟨⟨b, z, xss⟩, ?_, ⟨b2, b9, hl, s1, (show xss.length ≤ 300 by omega), fun cs hcs => ?_, fun cs hcs ps hps => (hx cs hcs ps hps).1, fun cs hcs ps hps p hp => ?_, .inl (show xss.length ≤ 4 by omega)⟩, (show xss.length ≤ 4 by omega), fun cs hcs ps hps p hp => ?_⟩
  · unfold eM eS
    rw [List.map_map]
    rfl
  · have := hs (cs.map eC) (List.mem_map_of_mem hcs)
    rw [List.length_map] at this
    exact this
  · obtain ⟨p1, p2, p3, p4⟩ := (hx cs hcs ps hps).2 p hp
    have w : (20 : Int) ≤ wideN := by decide +kernel
    rw [List.length_map] at p4
    exact ⟨by omega, by omega, p3, p4⟩
  · obtain ⟨p1, p2, p3, p4⟩ := (hx cs hcs ps hps).2 p hp
    exact ⟨p1, p2⟩
theorem pln_form {d : PyData} (h : plnD d = true) : ∃ M, d = fM M ∧ withD d = eM M ∧ Mok M ∧ ∀ cs ∈ M.C, ∀ ps ∈ cs, ps.length = 1 := by
  have hf : frmD 300 d = true := by
    cases e : frmD 300 d with
    | true => rfl
    | false => rw [plnD_not (by rw [e]; decide)] at h; cases h
  obtain ⟨b, z, sss, rfl, b2, b9, hl, s1, s4, hs⟩ := frmD_form hf
  unfold plnD at h
  rw [Bool.and_eq_true] at h
  have h2 := flat_all h.2
  rw [List.length_map] at h2
  obtain ⟨xss, rfl, hx⟩ := lift_map2 (f := eP) sss fun s hs d hd => pairD_form (h2 s hs d hd)
  rw [List.length_map] at s1 s4
  have one : ∀ cs ∈ xss.map (List.map fun p : Int × Int => [p]), ∀ ps ∈ cs, ∃ xs ∈ xss, ∃ p ∈ xs, ps = [p] ∧ cs = xs.map fun p => [p] := fun cs hcs ps hps => by
    obtain ⟨xs, hxs, rfl⟩ := List.mem_map.mp hcs
    obtain ⟨p, hp, rfl⟩ := List.mem_map.mp hps
    exact ⟨xs, hxs, p, hp, rfl, rfl⟩
  refine ⟨⟨b, z, xss.map (List.map fun p => [p])⟩, ?_, ?_, ⟨b2, b9, hl, ?_, ?_, fun cs hcs => ?_, fun cs hcs ps hps => ?_, fun cs hcs ps hps p hp => ?_, .inr fun cs hcs ps hps => ?_⟩, fun cs hcs ps hps => ?_⟩
  · unfold fM fS
    simp only [List.map_map]
    refine congrArg (fun l => PyData.tuple [.int b, .str z, .tuple l]) (List.map_congr_left fun xs _ => ?_)
    show PyData.tuple (xs.map eP) = .tuple ((xs.map fun p => [p]).map fC)
    rw [List.map_map]
    rfl
  · unfold withD eM eS
    simp only [List.map_map]
    refine congrArg (fun l => PyData.tuple [.int b, .str z, .tuple l]) (List.map_congr_left fun xs _ => ?_)
    show PyData.tuple ((elems (.tuple (xs.map eP))).map fun pr => .tuple [pr]) = .tuple ((xs.map fun p => [p]).map eC)
    unfold elems eC
    simp only [List.map_map]
    rfl
  · show 1 ≤ (List.map _ xss).length
    rw [List.length_map]; exact s1
  · show (List.map _ xss).length ≤ 300
    rw [List.length_map]; omega
  · obtain ⟨xs, hxs, rfl⟩ := List.mem_map.mp hcs
    have := hs (xs.map eP) (List.mem_map_of_mem hxs)
    rw [List.length_map] at this
    rw [List.length_map]
    exact this
  · obtain ⟨xs, hxs, p, hp, rfl, _⟩ := one cs hcs ps hps
    exact ⟨Nat.le_refl _, Nat.le_add_left 1 2⟩
  · obtain ⟨xs, hxs, q, hq, rfl, _⟩ := one cs hcs ps hps
    obtain rfl := List.mem_singleton.mp hp
    obtain ⟨p1, p2, p3, p4⟩ := hx xs hxs p hq
    refine ⟨p1, p2, p3, ?_⟩
    show p.2 ≤ ((List.map _ xss).length : Int) - 1
    rw [List.length_map] at p4 ⊢
    exact p4
  · obtain ⟨xs, hxs, p, hp, rfl, _⟩ := one cs hcs ps hps
    rfl
  · obtain ⟨xs, hxs, p, hp, rfl, _⟩ := one cs hcs ps hps
    rfl
/-! on the heap -/
theorem rpAll_get {K : PySem.W.Frag} {H : Hp} {α : Type} {f : α → PyData} : ∀ {l : List α} {vs : List V}, RpAll K H vs (l.map f) → ∀ {i : Nat} {x : α}, l[i]? = some x → ∃ v, vs[i]? = some v ∧ Rp K H v (f x)
  | [], _, _, i, x, e => by simp at e
  | a :: l, _, .cons h t, 0, x, e => by cases e; exact ⟨_, rfl, h⟩
  | a :: l, _, .cons h t, i + 1, x, e => rpAll_get (l := l) t (i := i) (by simpa using e)
theorem rpAll_back {K : PySem.W.Frag} {H : Hp} {α : Type} {f : α → PyData} : ∀ {l : List α} {vs : List V}, RpAll K H vs (l.map f) → ∀ {i : Nat} {v : V}, vs[i]? = some v → ∃ x, l[i]? = some x ∧ Rp K H v (f x)
  | [], _, .nil, i, v, e => by simp at e
  | a :: l, _, .cons h t, 0, v, e => by cases e; exact ⟨_, rfl, h⟩
  | a :: l, _, .cons h t, i + 1, v, e => rpAll_back (l := l) t (i := i) (by simpa using e)
theorem Rp.pair {K : PySem.W.Frag} {H : Hp} {v : V} {p : Int × Int} (h : Rp K H v (eP p)) : ∃ a, v = .ref a ∧ SqT K H a [.int p.1, .int p.2] := by
  obtain ⟨a, ys, rfl, hS, hA⟩ := Rp.isTup h
  obtain ⟨u, w, p2, t, rfl, e, h1, h2⟩ := hA.two rfl
  cases e
  cases h1.isInt
  cases h2.isInt
  exact ⟨a, rfl, hS⟩
theorem Rp.three {K : PySem.W.Frag} {H : Hp} {v : V} {b : Int} {z : Str} {d : PyData} (h : Rp K H v (.tuple [.int b, .str z, d])) : ∃ a w, v = .ref a ∧ SqT K H a [.int b, .str z, w] ∧ Rp K H w d := by
  obtain ⟨a, ys, rfl, hS, hA⟩ := Rp.isTup h
  obtain ⟨u, w, y, p, t, q, rfl, e, h1, h2, h3⟩ := hA.three rfl
  cases e
  cases h1.isInt
  obtain ⟨_, rfl, e2, _⟩ := h2.isStr rfl
  cases e2
  exact ⟨a, y, rfl, hS, h3⟩
theorem ltr_pos {z : Str} (h : lettersL z.cps.toList = true) : 1 ≤ z.length ∧ z.length ≤ 3 := by
  by_cases e : 1 ≤ z.length ∧ z.length ≤ 3
  · exact e
  · rw [lettersL_not e] at h
    cases h
theorem ixT {X : Cx} {K : PySem.W.Frag} (e : X.K = K) : IxR X (rIxT K) := by
  subst e
  exact ix_tup
theorem piT {X : Cx} {K : PySem.W.Frag} {tg l : Expr} {tl : TE} (e : X.K = K) (h : PE X l tl) : PI X tg l (iTup K tl) := pi_tupK e h
end My
/-! ### dicts of whole numbers on the heap -/
namespace My
open PySem PySem.Spec PyProof.Rows L2
def kd (d : Dk) : List (Key × V) := d.map fun kv => (Sum.inl kv.1, V.int kv.2)
theorem kd_any (d : Dk) (k : Int) : ((kd d).any fun kv => decide (kv.1 = Sum.inl k)) = d.any fun kv => decide (kv.1 = k) := by
  unfold kd
  rw [List.any_map]
  congr 1
  funext kv
  show decide ((Sum.inl kv.1 : Key) = Sum.inl k) = decide (kv.1 = k)
  simp
theorem kd_val (k : Int) : ∀ d : Dk, valV (kd d) (Sum.inl k) = (getI d k).map V.int
  | [] => rfl
  | p :: r => by
    rw [getI_cons]
    show valV ((Sum.inl p.1, V.int p.2) :: kd r) (Sum.inl k) = _
    by_cases e : p.1 = k
    · rw [if_pos e, valV_pos (by rw [e])]
      rfl
    · rw [if_neg e, valV_neg (by show ¬ (Sum.inl p.1 : Key) = Sum.inl k; simpa using e), kd_val k r]
theorem kd_put (d : Dk) (k v : Int) : putK (kd d) (Sum.inl k) (V.int v) = kd (putI d k v) := by
  unfold putK putI
  rw [kd_any]
  split
  · unfold kd
    rw [List.map_map, List.map_map]
    refine List.map_congr_left fun p _ => ?_
    show (if (Sum.inl p.1 : Key) = Sum.inl k then ((Sum.inl p.1 : Key), V.int v) else (Sum.inl p.1, V.int p.2)) = _
    by_cases e : p.1 = k
    · simp [e]
    · simp [e]
  · unfold kd
    rw [List.map_append]
    rfl
theorem kd_get {H : Hp} {a : Addr} {d : Dk} {k : Int} (h : Rd H a (.dK (kd d))) : DGet H a (.int k) ((getI d k).map V.int) := .inl ⟨kd d, Sum.inl k, h, rfl, (kd_val k d).symm⟩
theorem kd_len (d : Dk) : (kd d).length = d.length := List.length_map _
theorem put_len (d : Dk) (k v : Int) : (putI d k v).length ≤ d.length + 1 := by
  unfold putI
  split
  · rw [List.length_map]; omega
  · rw [List.length_append]; exact Nat.le_refl _
theorem kd_keys (d : Dk) : (kd d).map (·.1) = (keysI d).map Sum.inl := by
  unfold kd keysI
  rw [List.map_map, List.map_map]
  rfl
theorem kd_vals (d : Dk) : (kd d).map (·.2) = (d.map (·.2)).map V.int := by
  unfold kd
  rw [List.map_map, List.map_map]
  rfl
/-! the greatest of a dict's values -/
def tMaxVals (td : TE) : TE := fun σ H Q => td σ H fun x H1 => ∃ (a : Addr) (d : Dk), x = V.ref a ∧ H1 a = some (.dK (kd d)) ∧ d ≠ [] ∧ Q (.int (maxL (d.map (·.2)))) H1
section
variable {X : Cx} {o : Expr} {p pos apos mpos : Pos} {td : TE}
theorem pe_maxVals (hc : X.calm = true) (hg : Gl X "max") (hm : X.mg "max" = none) (hd : PE X o td) (hat : attributeBase o "values" X.env (eval o X.env) = eval o X.env := by rfl) (hrow : (apos.endLine == mpos.line) = true := by rfl)
    (hone : starEach [Expr.Call (.Attribute o "values" apos) [] [] mpos] X.env = [(false, eval (Expr.Call (.Attribute o "values" apos) [] [] mpos) X.env)] := by rfl) :
    PE X (.Call (.Name "max" p) [.Call (.Attribute o "values" apos) [] [] mpos] [] pos) (tMaxVals td) := by
  refine ⟨fun pins s σ H Q I h => ?_⟩
  refine wpAny_Call_Name_kw (ld_blt I hg hm (u := .builtin "max") (by decide +kernel) ?_ (by decide +kernel) (by decide +kernel))
  rw [hone]
  refine PySem.callWith_builtin1 (wpAny_Call_method0_late hat hrow (thn (hd.run pins s σ H _ I h) fun dv s1 hx => ?_))
  obtain ⟨x, H1, I1, r1, a, d, rfl, ha, dne, q⟩ := hx
  obtain rfl : dv = Value.ref a := r1
  obtain ⟨_, notSys, vs, rel, dof⟩ := dk_of I1.hok ha
  obtain ⟨ep, dat⟩ := dof.dictAt
  obtain ⟨ob, es, ho, ex, _⟩ := id dat
  refine ⟨"dict", "dict.values", F.plainAttrs_dict, F.slot_dict_values, F.type_dict_values, ⟨ob, ho, ex.1⟩, fun b e => ?_, Calls.callWith_builtin rfl (PySem.evalArgs_none ?_)⟩
  · cases e
    exact ⟨ob, ho, ex.2.1⟩
  refine call_meetsIn F.slot_dict_values ⟨ob, ho, ex.1⟩ F.entry_dict_values (F.args_dict_values_1 _) (meets_dict_values (mixKind X.prog X.w) a notSys) ⟨⟨vs, dof⟩, ?_⟩
  have still : ∀ b u, s1.heap.get? b = some u → (s1.heap.push { cls := .type "dict_values", data := .fields #[.ref a] }).get? b = some u := fun b u e => Heap.get?_push_of_some _ e
  have size1 : (s1.heap.push { cls := .type "dict_values", data := .fields #[.ref a] }).objs.size = s1.heap.objs.size + 1 := Heap.size_push _ _
  have aLow : a < s1.heap.objs.size := Heap.lt_size ho
  have many : vs.length = (d.map (·.2)).length := by rw [← KV.length rel, kd_len, List.length_map]
  have some_ : 0 < vs.length := by
    rw [many, List.length_map]
    exact List.length_pos_iff.mpr dne
  have whole_ : ∀ (i : Nat) (v : Value), (∃ k, vs[i]? = some (k, v)) → ∃ t, v = Value.int ((d.map (·.2)).getD i 0) t := fun i v ⟨k, hk⟩ => by
    obtain ⟨x, e1, e2⟩ := KV.at' rel hk
    have e3 : ((kd d).map (·.2))[i]? = some x := by rw [List.getElem?_map, e1]; rfl
    rw [kd_vals, List.getElem?_map] at e3
    obtain ⟨j, hj, rfl⟩ := Option.map_eq_some_iff.mp e3
    rw [List.getD_eq_getElem?_getD, hj]
    exact e2
  refine call_max_walk (wpAny_pyIter_values (v := s1.heap.objs.size) (d := a) ⟨_, Heap.get?_push_size _ rfl, rfl, rfl⟩ (dat.keep still) ?_)
  refine ⟨_, _, _, _, _, _, _, rfl, Walks.dictValues (knd := mixKind X.prog X.w) (A := X.A.in1) (I.ok.hd hc) (s1.heap.push { cls := .type "dict_values", data := .fields #[.ref a] }).objs.size a (by rw [size1]; exact Nat.ne_of_lt (Nat.lt_succ_of_lt aLow)) vs ep,
    ⟨⟨_, Heap.get?_push_size _ rfl, rfl, rfl⟩, (dat.keep still).keep fun b u e => Heap.get?_push_of_some _ e⟩, fun b hb => ?_, some_, CmpOf.ints_gt (fun i => (d.map (·.2)).getD i 0) whole_, fun v h' tk hP hk => ?_⟩
  · show b < ((s1.heap.push _).push _).objs.size
    rw [Heap.size_push, Heap.size_push]
    rw [size1] at hb
    rcases List.mem_cons.mp hb with e | e
    · rw [e]; exact Nat.lt_succ_self _
    · rw [show b = a from List.mem_singleton.mp e]
      exact Nat.lt_succ_of_lt (Nat.lt_succ_of_lt aLow)
  · obtain ⟨t, rfl⟩ := whole_ _ v hP
    obtain ⟨b1, b2⟩ := argBest_gt (fun i => (d.map (·.2)).getD i 0) (vs.length - 1)
    generalize argBest (fun i j => decide ((d.map (·.2)).getD i 0 > (d.map (·.2)).getD j 0)) (vs.length - 1) = n at b1 b2
    have e : (d.map (·.2)).getD n 0 = maxL (d.map (·.2)) := by
      refine maxL_eq ?_ fun y hy => ?_
      · have : n < (d.map (·.2)).length := by omega
        rw [List.getD_eq_getElem?_getD, List.getElem?_eq_getElem this]
        exact List.getElem_mem this
      · obtain ⟨i, hi, e⟩ := List.mem_iff_getElem.mp hy
        have := b2 i (by omega)
        rw [List.getD_eq_getElem?_getD, List.getElem?_eq_getElem hi] at this
        exact e ▸ this
    rw [e]
    refine ⟨.int _, H1, I1.kept (t' := tk) fun b u eb => hk b u (fun m => ?_) (Heap.get?_push_of_some _ (still b u eb)), ⟨t, rfl⟩, q⟩
    have e1 := List.mem_singleton.mp m
    have e2 := Heap.lt_size eb
    rw [e1, size1] at e2
    exact absurd e2 (Nat.not_lt.mpr (Nat.le_succ _))
end
end My
/-! ### the pays, the spread -/
namespace My
open PySem PySem.Spec PyProof.Rows L2
abbrev sPaysOf : Stmt := topS 27
theorem scPaysOf : FnScope ["machine", "state", "choice", "pair"] ["machine"] (defScope sPaysOf) := ⟨rfl, rfl, rfl, by decide +kernel, rfl, by decide +kernel, by decide +kernel⟩
structure SprTxt (K : PySem.W.Frag) (mg : Str → Option Value) (p1 p2 : Addr) (q1 q2 : FuncData) : Prop where
  max : mg "max" = none
  min : mg "min" = none
  FPaysOf : Fun K "pays_of" "pays_of" sPaysOf p1 q1
  bPaysOf : Binds K q1 ["machine"] []
  gPaysOf : mg "pays_of" = some (.ref p1)
def paysL (M : Mc) : List Int := (M.C.flatMap fun cs => cs.flatMap fun ps => ps.map (·.1))
def sprd (M : Mc) : Int := maxL (paysL M) - minL (paysL M)
theorem pays_ne {M : Mc} (h : Mok M) : paysL M ≠ [] := fun z => by
  have c1 := h.c1
  obtain ⟨cs, hcs⟩ : ∃ cs, cs ∈ M.C := by
    cases e : M.C with
    | nil => rw [e] at c1; exact absurd c1 (by decide)
    | cons x r => exact ⟨x, .head _⟩
  have l1 := h.row cs hcs
  have l2 := (ltr_pos h.ltr).1
  obtain ⟨ps, hps⟩ : ∃ ps, ps ∈ cs := by
    cases e : cs with
    | nil => rw [e] at l1; rw [← l1] at l2; exact absurd l2 (by decide)
    | cons x r => exact ⟨x, .head _⟩
  have l3 := (h.ch cs hcs ps hps).1
  obtain ⟨p, hp⟩ : ∃ p, p ∈ ps := by
    cases e : ps with
    | nil => rw [e] at l3; exact absurd l3 (by decide)
    | cons x r => exact ⟨x, .head _⟩
  have : p.1 ∈ paysL M := List.mem_flatMap.mpr ⟨cs, hcs, List.mem_flatMap.mpr ⟨ps, hps, List.mem_map_of_mem hp⟩⟩
  rw [z] at this
  cases this
def spPaysOf (K : PySem.W.Frag) : Sp := fun vs H Q _ => ∃ x M, vs = [x] ∧ Rp K H x (eM M) ∧ Mok M ∧ ∀ H' l, Same H H' → H l = none → H' l = some (.lst ((paysL M).map V.int)) → Q (.ref l) H'
def spSpread2 (K : PySem.W.Frag) : Sp := fun vs H Q _ => ∃ x M, vs = [x] ∧ Rp K H x (eM M) ∧ Mok M ∧ ∀ H', Same H H' → Q (.int (sprd M)) H'
section
variable {P : Program} {w : World} {K : PySem.W.Frag} {mg : Str → Option Value} {base : Heap} {p1 p2 : Addr} {q1 q2 : FuncData}
theorem ok_paysOf (T : SprTxt K mg p1 p2 q1 q2) {k : Nat} : FnOk P w K mg base CX0 (k + 1) p1 q1 ["machine"] (spPaysOf K) := by
  refine T.FPaysOf.ok scPaysOf (fun vs H Q E h => ?_) (fun cdv A outer s H vs Q E hr h => ?_)
  · obtain ⟨x, M, rfl, _⟩ := h
    rfl
  · obtain ⟨x, M, rfl, hx, hM, q⟩ := h
    refine ⟨_, (pss_one (ps_ret (pe_lc3 (own := [("state", 1), ("choice", 2), ("pair", 3)]) (vs1 := [2, 3]) (vs2 := [3]) (g0 := gName 1) (g1 := gName 2) (g2 := gName 3) (u0 := tYes) (u1 := tYes) (u2 := tYes) (by rfl) scPaysOf.nd (pi_tup (pe_ix ix_tup (pv 0) pe_int (fun _ _ => rfl))) (blkOk_by (N := ["machine", "state", "choice", "pair"]) (sc := defScope sPaysOf) (by decide +kernel)) (by decide) (by decide) (fun _ _ _ _ _ => pg_name (i := 1) scPaysOf.nd rfl (Or.inl rfl)) (fun _ _ _ _ _ => pts_nil) (fun _ _ _ _ _ => (pi_tupK (K := K) rfl (pv 1))) (fun _ _ _ _ _ => pg_name (i := 2) scPaysOf.nd rfl (Or.inl rfl)) (fun _ _ _ _ _ => pts_nil) (fun _ _ _ _ _ => (pi_tupK (K := K) rfl (pv 2))) (fun _ _ _ _ _ => pg_name (i := 3) scPaysOf.nd rfl (Or.inl rfl)) (fun _ _ _ _ _ => pts_nil) (fun _ _ _ _ _ => (pe_ix (ixT (K := K) rfl) (pv 3) pe_int (fun _ _ => rfl)))))), ?_⟩
    obtain ⟨a, w3, rfl, hS, hC⟩ := hx.three
    obtain ⟨c, xs, rfl, hS2, hA⟩ := hC.isTup
    have lc3 := hM.c3
    have bnd : ∀ (i j n : Nat) (cs : List (List (Int × Int))) (ps : List (Int × Int)), cs ∈ M.C → ps ∈ cs → ((M.C.take i).flatMap fun cs => cs.flatMap fun ps => ps.map (·.1)).length + ((cs.take j).flatMap fun ps => ps.map (·.1)).length + ((ps.take n).map (·.1)).length < sizeLine := fun i j n cs ps hcs hps => by
      have f1 : ∀ cs ∈ M.C, ∀ l : List (List (Int × Int)), (∀ q ∈ l, q ∈ cs) → (l.flatMap fun ps => ps.map (·.1)).length ≤ 3 * l.length := fun cs hcs l hl => flat_len l fun ps hps => by
        rw [List.length_map]
        exact (hM.ch cs hcs ps (hl ps hps)).2
      have f2 := flat_len (g := fun cs : List (List (Int × Int)) => cs.flatMap fun ps => ps.map (·.1)) (n := 9) (M.C.take i) fun cs hcs => by
        have h1 := f1 cs (List.mem_of_mem_take hcs) cs fun _ z => z
        have h2 := hM.row cs (List.mem_of_mem_take hcs)
        have h3 := (ltr_pos hM.ltr).2
        omega
      have f3 := f1 cs hcs (cs.take j) fun q hq => List.mem_of_mem_take hq
      have f4 := (hM.ch cs hcs ps hps).2
      have f5 := hM.row cs hcs
      have f6 := (ltr_pos hM.ltr).2
      have g1 := List.length_take_le' i M.C
      have g2 := List.length_take_le' j cs
      have g3 := List.length_take_le' n ps
      rw [List.length_map]
      exact Nat.lt_of_le_of_lt (show _ ≤ 3000 by omega) (by decide)
    refine ⟨_, rfl, _, _, 2, _, rfl, rfl, hS, rfl, ?_⟩
    refine ⟨c, rfl, ⟨xs, hS2⟩, fun D nD => ?_⟩
    refine lc_tupO (xs := xs) (fun i H' => Same H H' ∧ H' D = some (.lst (((M.C.take i).flatMap fun cs => cs.flatMap fun ps => ps.map (·.1)).map V.int))) ⟨same_upd nD, upd_same⟩ (fun i H' h => same_tup h.1 hS2) ?_ ?_
    · rintro i u2 H1 hu ⟨sm, hD⟩
      obtain ⟨cs, hcs, r1⟩ := rpAll_back hA hu
      obtain ⟨a1, ys, rfl, hS3, hA3⟩ := r1.isTup
      have mcs := List.mem_of_getElem? hcs
      refine ⟨rfl, ?_⟩
      refine ⟨_, rfl, a1, rfl, ⟨ys, same_tup sm hS3⟩, ?_⟩
      refine lc_tupO (xs := ys) (fun j H' => Same H H' ∧ H' D = some (.lst (((M.C.take i).flatMap fun cs => cs.flatMap fun ps => ps.map (·.1)).map V.int ++ ((cs.take j).flatMap fun ps => ps.map (·.1)).map V.int))) ⟨sm, by rw [hD]; simp⟩ (fun j H' h => same_tup h.1 hS3) ?_ ?_
      · rintro j u3 H2 hu3 ⟨sm2, hD2⟩
        obtain ⟨ps, hps, r2⟩ := rpAll_back hA3 hu3
        obtain ⟨a2, zs, rfl, hS4, hA4⟩ := r2.isTup
        have mps := List.mem_of_getElem? hps
        refine ⟨rfl, ?_⟩
        refine ⟨_, rfl, a2, rfl, ⟨zs, same_tup sm2 hS4⟩, ?_⟩
        refine lc_tupO (xs := zs) (fun n H' => Same H H' ∧ H' D = some (.lst ((((M.C.take i).flatMap fun cs => cs.flatMap fun ps => ps.map (·.1)).map V.int ++ ((cs.take j).flatMap fun ps => ps.map (·.1)).map V.int) ++ ((ps.take n).map (·.1)).map V.int))) ⟨sm2, by rw [hD2]; simp⟩ (fun n H' h => same_tup h.1 hS4) ?_ ?_
        · rintro n u4 H3 hu4 ⟨sm3, hD3⟩
          obtain ⟨p, hp, r3⟩ := rpAll_back hA4 hu4
          obtain ⟨a3, rfl, hS5⟩ := r3.pair
          refine ⟨rfl, ?_⟩
          refine ⟨_, rfl, _, _, 0, _, rfl, rfl, same_tup sm3 hS5, rfl, _, hD3, ?_, same_new sm3 nD, ?_⟩
          · have := bnd i j n cs ps mcs mps
            simp only [List.length_append, List.length_map] at this ⊢
            exact this
          · rw [upd_same, List.take_succ, hp]
            simp
        · rintro H3 ⟨sm3, hD3⟩
          refine ⟨sm3, ?_⟩
          rw [hD3, show zs.length = ps.length from by rw [hA4.len, List.length_map], List.take_length, take_flat hps]
          simp
      · rintro H2 ⟨sm2, hD2⟩
        refine ⟨sm2, ?_⟩
        rw [hD2, show ys.length = cs.length from by rw [hA3.len, List.length_map], List.take_length, take_flat hcs]
        simp
    · rintro H1 ⟨sm, hD⟩
      refine q H1 D sm nD ?_
      rw [hD, show xs.length = M.C.length from by rw [hA.len, List.length_map], List.take_length]
      rfl
end
end My
/-! ### sums along words, lacks -/
namespace My
open PySem PySem.Spec PyProof.Rows L2 PySem.Builtin.Str
theorem occIx {z : Str} {c : Nat} (h : lettersL z.cps.toList = true) (hc : c ∈ z.cps.toList) : occurrences z ⟨#[c]⟩ 0 z.length 1 = [z.cps.toList.idxOf c] := by
  obtain ⟨⟨l⟩⟩ := z
  rw [PySem.StrLaws.occ_eq]
  match l, h, hc with
  | [a], h, hc =>
    obtain rfl : c = a := by simpa using hc
    simp [List.range', PySem.StrLaws.occBody, subAt, Str.length]
  | [a, b], h, hc =>
    simp [lettersL] at h
    have h1 : a ≠ b := by omega
    have b1 := beq_false_of_ne h1
    rcases (show c = a ∨ c = b by simpa using hc) with rfl | rfl
    · simp [List.range', PySem.StrLaws.occBody, subAt, Str.length]
    · simp [List.range', PySem.StrLaws.occBody, subAt, Str.length, h1, b1, List.idxOf_cons]
  | [a, b, d], h, hc =>
    simp [lettersL] at h
    have h1 : a ≠ b := by omega
    have h2 : b ≠ d := by omega
    have h3 : a ≠ d := by omega
    have b1 := beq_false_of_ne h1
    have b2 := beq_false_of_ne h2
    have b3 := beq_false_of_ne h3
    rcases (show c = a ∨ c = b ∨ c = d by simpa using hc) with rfl | rfl | rfl
    · simp [List.range', PySem.StrLaws.occBody, subAt, Str.length]
    · simp [List.range', PySem.StrLaws.occBody, subAt, Str.length, h1, b1, List.idxOf_cons]
    · simp [List.range', PySem.StrLaws.occBody, subAt, Str.length, h2, h3, b2, b3, List.idxOf_cons]
/-! tuples that stay -/
def TStay (K : PySem.W.Frag) (H H' : Hp) : Prop := ∀ b xs, SqT K H b xs → SqT K H' b xs
theorem TStay.trans {K : PySem.W.Frag} {H H1 H2 : Hp} (a : TStay K H H1) (b : TStay K H1 H2) : TStay K H H2 := fun c xs h => b c xs (a c xs h)
theorem ts_same {K : PySem.W.Frag} {H H' : Hp} (s : Same H H') : TStay K H H' := fun _ _ h => same_tup s h
theorem ts_upd {K : PySem.W.Frag} {H : Hp} {g : Addr} {o o' : HO} (h : H g = some o) (n1 : ∀ xs, o ≠ .tup xs) (n2 : ∀ u xs, o ≠ .frz u (.tup xs)) : TStay K H (upd H g o') := fun b xs e => by
  rcases e with (e | ⟨u, e⟩) | e
  · refine .inl (.inl ?_)
    rw [upd_ne (fun z => ?_)]
    · exact e
    · rw [z, h] at e
      exact n1 xs (Option.some.inj e)
  · refine .inl (.inr ⟨u, ?_⟩)
    rw [upd_ne (fun z => ?_)]
    · exact e
    · rw [z, h] at e
      exact n2 u xs (Option.some.inj e)
  · exact .inr e
mutual
def tO : PyData → Bool
  | .list _ => false
  | .dict _ => false
  | .tuple xs => tOs xs
  | _ => true
def tOs : List PyData → Bool
  | [] => true
  | x :: xs => tO x && tOs xs
end
mutual
theorem rp_ts {K : PySem.W.Frag} {H H' : Hp} (s : TStay K H H') : ∀ {v : V} {d : PyData}, Rp K H v d → tO d = true → Rp K H' v d
  | _, _, .non, _ => .non
  | _, _, .bl b, _ => .bl b
  | _, _, .int i, _ => .int i
  | _, _, .str x h, _ => .str x h
  | _, _, .lst h t, n => by simp [tO] at n
  | _, _, .tup h t, n => .tup (s _ _ h) (rpAll_ts s t (by simpa only [tO] using n))
  | _, _, .dct h, n => by simp [tO] at n
theorem rpAll_ts {K : PySem.W.Frag} {H H' : Hp} (s : TStay K H H') : ∀ {vs : List V} {ds : List PyData}, RpAll K H vs ds → tOs ds = true → RpAll K H' vs ds
  | _, _, .nil, _ => .nil
  | _, _, .cons h t, n => by
    simp only [tOs, Bool.and_eq_true] at n
    exact .cons (rp_ts s h n.1) (rpAll_ts s t n.2)
end
theorem tOs_map {α : Type} {f : α → PyData} (h : ∀ x, tO (f x) = true) : ∀ l : List α, tOs (l.map f) = true
  | [] => rfl
  | x :: l => by
    rw [List.map_cons, tOs, h x, tOs_map h l]
    rfl
theorem tO_eP (p : Int × Int) : tO (eP p) = true := by simp [eP, tO, tOs]
theorem tO_eC (ps : List (Int × Int)) : tO (eC ps) = true := by
  rw [eC, tO]
  exact tOs_map tO_eP ps
theorem tO_eS (cs : List (List (Int × Int))) : tO (eS cs) = true := by
  rw [eS, tO]
  exact tOs_map tO_eC cs
theorem tO_eM (M : Mc) : tO (eM M) = true := by
  simp only [eM, tO, tOs, Bool.true_and, Bool.and_true]
  exact tOs_map tO_eS M.C
/-! the pairs of a choice -/
def chP (M : Mc) (at_ : Nat) (s : Int) : List (Int × Int) := (M.C.getD s.toNat []).getD at_ []
theorem ch_at {K : PySem.W.Frag} {H : Hp} {xs : List V} {M : Mc} (hM : Mok M) (hA : RpAll K H xs (M.C.map eS)) {s : Int} {at_ : Nat} (s0 : 0 ≤ s) (s1 : s ≤ (M.C.length : Int) - 1) (ha : at_ < M.z.length) :
    ∃ ra ys ca zs, atI xs s = some (.ref ra) ∧ SqT K H ra ys ∧ atI ys (at_ : Int) = some (.ref ca) ∧ SqT K H ca zs ∧ RpAll K H zs ((chP M at_ s).map eP) := by
  have hs : s.toNat < M.C.length := by omega
  obtain ⟨u, hu, r1⟩ := rpAll_get hA (List.getElem?_eq_getElem hs)
  obtain ⟨ra, ys, rfl, hS3, hA3⟩ := r1.isTup
  have ha2 : at_ < M.C[s.toNat].length := by rw [hM.row _ (List.getElem_mem hs)]; exact ha
  obtain ⟨u2, hu2, r2⟩ := rpAll_get hA3 (List.getElem?_eq_getElem ha2)
  obtain ⟨ca, zs, rfl, hS4, hA4⟩ := r2.isTup
  have es : ((s.toNat : Nat) : Int) = s := by omega
  refine ⟨ra, ys, ca, zs, es ▸ atI_nat hu, hS3, atI_nat hu2, hS4, ?_⟩
  have e2 : chP M at_ s = M.C[s.toNat][at_] := by
    unfold chP
    rw [List.getD_eq_getElem?_getD (l := M.C), List.getElem?_eq_getElem hs, Option.getD_some, List.getD_eq_getElem?_getD, List.getElem?_eq_getElem ha2]
    rfl
  rw [e2]
  exact hA4
/-! dicts by the states -/
structure Kin (n : Nat) (d : Dk) : Prop where
  nd : (keysI d).Nodup
  rg : ∀ k ∈ keysI d, 0 ≤ k ∧ k ≤ (n : Int) - 1
theorem kin_nil (n : Nat) : Kin n [] := ⟨.nil, fun _ h => nomatch h⟩
theorem kin_len {n : Nat} {d : Dk} (h : Kin n d) : d.length ≤ n := by
  have := nd_le (keysI d) ((List.range n).map Int.ofNat) h.nd fun k hk => by
    obtain ⟨h1, h2⟩ := h.rg k hk
    exact List.mem_map.mpr ⟨k.toNat, List.mem_range.mpr (by omega), by show ((k.toNat : Nat) : Int) = k; omega⟩
  rw [List.length_map, List.length_range] at this
  unfold keysI at this
  rw [List.length_map] at this
  exact this
theorem kin_up {n : Nat} {d : Dk} {k v : Int} (h : Kin n d) (k0 : 0 ≤ k) (k1 : k ≤ (n : Int) - 1) : Kin n (upMax d k v) := by
  refine ⟨up_nodup h.nd, fun j hj => ?_⟩
  obtain ⟨w, hw⟩ := Option.isSome_iff_exists.mp (getI_mem.mpr hj)
  rcases up_from hw with e | ⟨e, _⟩
  · exact h.rg j (getI_mem.mp (by rw [e]; rfl))
  · rw [e]; exact ⟨k0, k1⟩
theorem kin_in {n : Nat} {f : Int → Int → Int} {v : Int} : ∀ {ps : List (Int × Int)} {d : Dk}, Kin n d → (∀ p ∈ ps, 0 ≤ p.2 ∧ p.2 ≤ (n : Int) - 1) → Kin n (bestIn f v ps d)
  | [], _, h, _ => h
  | p :: ps, d, h, hp => kin_in (ps := ps) (d := upMax d p.2 (f v p.1)) (kin_up h (hp p (.head _)).1 (hp p (.head _)).2) fun q hq => hp q (.tail _ hq)
theorem kin_on {n : Nat} {P : Int → List (Int × Int)} {f : Int → Int → Int} : ∀ {d l : Dk}, Kin n l → (∀ kv ∈ d, ∀ p ∈ P kv.1, 0 ≤ p.2 ∧ p.2 ≤ (n : Int) - 1) → Kin n (bestOn P f d l)
  | [], _, h, _ => h
  | q :: d, l, h, hp => kin_on (d := d) (l := bestIn f q.2 (P q.1) l) (kin_in h (hp q (.head _))) fun r hr => hp r (.tail _ hr)
def Bd (n : Nat) (d : Dk) : Prop := ∀ kv ∈ d, kv.2.natAbs < 2 ^ n
theorem ch_mem {M : Mc} (h : Mok M) {at_ : Nat} {s : Int} {p : Int × Int} (hp : p ∈ chP M at_ s) : ∃ cs ∈ M.C, ∃ ps ∈ cs, p ∈ ps ∧ chP M at_ s = ps := by
  unfold chP at hp ⊢
  rw [List.getD_eq_getElem?_getD (l := M.C)] at hp ⊢
  cases e : M.C[s.toNat]? with
  | none => rw [e] at hp; exact absurd hp (by simp)
  | some cs =>
    rw [e] at hp
    rw [Option.getD_some, List.getD_eq_getElem?_getD] at hp ⊢
    cases e2 : cs[at_]? with
    | none => rw [e2] at hp; exact absurd hp (by simp)
    | some ps =>
      rw [e2] at hp
      exact ⟨cs, List.mem_of_getElem? e, ps, List.mem_of_getElem? e2, hp, rfl⟩
theorem ch_rg {M : Mc} (h : Mok M) {at_ : Nat} {s : Int} {p : Int × Int} (hp : p ∈ chP M at_ s) : -wideN ≤ p.1 ∧ p.1 ≤ wideN ∧ 0 ≤ p.2 ∧ p.2 ≤ (M.C.length : Int) - 1 := by
  obtain ⟨cs, hcs, ps, hps, hp, _⟩ := ch_mem h hp
  exact h.pr cs hcs ps hps p hp
theorem wide_two : wideN < 2 ^ 100 ∧ 0 < wideN := by decide +kernel
def ixM (M : Mc) (c : Nat) : Nat := M.z.cps.toList.idxOf c
def sumStep (M : Mc) (S : Dk) (c : Nat) : Dk := sumOf (chP M (ixM M c)) M.b S
def sumsAfter (M : Mc) (cs : List Nat) (S : Dk) : Dk := cs.foldl (sumStep M) S
theorem sums_take {M : Mc} {S : Dk} {cs : List Nat} {j c : Nat} (h : cs[j]? = some c) : sumsAfter M (cs.take (j + 1)) S = sumStep M (sumsAfter M (cs.take j) S) c := by
  unfold sumsAfter
  rw [List.take_succ, h, List.foldl_append]
  rfl
theorem sum_kin {M : Mc} (h : Mok M) {at_ : Nat} {S : Dk} : Kin M.C.length (sumOf (chP M at_) M.b S) :=
  kin_on (kin_nil _) fun kv _ p hp => ⟨(ch_rg h hp).2.2.1, (ch_rg h hp).2.2.2⟩
theorem sum_bd {M : Mc} (h : Mok M) {at_ n : Nat} {S : Dk} (hb : Bd n S) (hn : 101 ≤ n) : Bd (n + 4) (sumOf (chP M at_) M.b S) := fun kv hkv => by
  have := mem_getI (sum_kin (S := S) h).nd (k := kv.1) (v := kv.2) hkv
  rcases bestOn_from S [] this with e | ⟨s, v, p, hs, hp, e⟩
  · cases e
  · have h1 := hb _ hs
    have h2 := ch_rg h hp
    have h3 := wide_two
    have h4 := h.b9
    have h5 := h.b2
    have h6 : (2 : Nat) ^ 101 ≤ 2 ^ n := Nat.pow_le_pow_right (by decide) hn
    have h7 : (2 : Nat) ^ (n + 4) = 2 ^ n * 16 := by rw [Nat.pow_add]
    have h8 : (2 : Nat) ^ 101 = 2 ^ 100 * 2 := by rw [Nat.pow_succ]
    have h9 : ((2 : Int) ^ 100).natAbs = 2 ^ 100 := by decide +kernel
    have h10 : p.natAbs < 2 ^ 100 := by omega
    have h11 : (M.b * v).natAbs ≤ 9 * v.natAbs := by
      rw [Int.natAbs_mul]
      exact Nat.mul_le_mul_right _ (by omega)
    have h12 : v.natAbs < 2 ^ n := h1
    show kv.2.natAbs < 2 ^ (n + 4)
    rw [e, h7]
    generalize M.b * v = y at *
    generalize (2 : Nat) ^ n = z at *
    have : (y + p).natAbs ≤ y.natAbs + p.natAbs := Int.natAbs_add_le _ _
    omega
theorem sums_kin {M : Mc} (h : Mok M) : ∀ (cs : List Nat) {S : Dk}, Kin M.C.length S → Kin M.C.length (sumsAfter M cs S)
  | [], _, k => k
  | c :: cs, S, _ => sums_kin h cs (S := sumStep M S c) (sum_kin h)
theorem sums_bd {M : Mc} (h : Mok M) : ∀ (cs : List Nat) {S : Dk} {n : Nat}, Bd n S → 101 ≤ n → Bd (n + 4 * cs.length) (sumsAfter M cs S)
  | [], _, _, k, _ => k
  | c :: cs, S, n, k, hn => by
    have := sums_bd h cs (S := sumStep M S c) (sum_bd h k hn) (by omega)
    rw [List.length_cons, show n + 4 * (cs.length + 1) = n + 4 + 4 * cs.length by omega]
    exact this
theorem bd_mono {n m : Nat} {d : Dk} (h : Bd n d) (l : n ≤ m) : Bd m d := fun kv hkv => Nat.lt_of_lt_of_le (h kv hkv) (Nat.pow_le_pow_right (by decide) l)
theorem upd_id {H : Hp} {g : Addr} {o : HO} (h : H g = some o) : upd H g o = H := by
  funext b
  by_cases e : b = g
  · rw [e, upd_same, h]
  · rw [upd_ne e]
theorem kin_size {n : Nat} {d : Dk} (h : Kin n d) (hn : n ≤ 300) : (kd d).length < sizeLine := by
  have := kin_len h
  rw [kd_len]
  exact Nat.lt_of_le_of_lt (show _ ≤ 300 by omega) (by decide)
/-- if k not in d or v > d[k]: d[k] = v -/
theorem up_if {iT iD iV : Nat} {D : Ends} {σ : L2.St} {H : Hp} {g : Addr} {L : Dk} {k t : Int} (e1 : σ[iT]? = some (some (.int k))) (e2 : σ[iD]? = some (some (.ref g))) (e3 : σ[iV]? = some (some (.int t))) (hg : H g = some (.dK (kd L))) (hl : (kd L).length < sizeLine)
    (h : D.nx σ (upd H g (.dK (kd (upMax L k t))))) :
    tIfS (tOr (tB (tDNotIn (tVar iT) (tVar iD))) (tTest (tOp (rI0 fun i j => V.bl (decide (j < i))) (tVar iV) (tDGet (tVar iD) (tVar iT))))) (sDPut (tVar iD) (tVar iT) (tVar iV)) tNext D σ H := by
  have put : upMax L k t = putI L k t → sDPut (tVar iD) (tVar iT) (tVar iV) D σ H := fun e => by
    refine ⟨_, e3, _, e2, _, e1, g, _, rfl, DPut.k (k := Sum.inl k) hg hl, ?_⟩
    rw [kd_put, ← e]
    exact h
  refine ⟨_, e1, _, e2, g, _, rfl, kd_get (.inl hg), _, rfl, ?_⟩
  cases e : getI L k with
  | none => exact iteT (iteT (put (by unfold upMax; rw [e])))
  | some w =>
    refine iteF ⟨_, e3, _, e2, _, e1, g, .int w, rfl, ?_, _, _, rfl, rfl, _, rfl, ?_⟩
    · have := kd_get (d := L) (k := k) (.inl hg)
      rw [e] at this
      exact this
    · by_cases l : w < t
      · rw [decide_eq_true l]
        exact iteT (put (by unfold upMax; rw [e]; exact if_pos l))
      · rw [decide_eq_false l]
        have : upMax L k t = L := by unfold upMax; rw [e]; exact if_neg l
        rw [this, upd_id hg] at h
        exact iteF h
theorem kd_at {d : Dk} {i : Nat} {k : Key} {v : V} (h : (kd d)[i]? = some (k, v)) : ∃ s x, d[i]? = some (s, x) ∧ k = Sum.inl s ∧ v = .int x := by
  unfold kd at h
  rw [List.getElem?_map] at h
  cases e : d[i]? with
  | none => rw [e] at h; cases h
  | some p =>
    rw [e] at h
    cases h
    exact ⟨p.1, p.2, rfl, rfl, rfl⟩
theorem on_take {P : Int → List (Int × Int)} {f : Int → Int → Int} {d l : Dk} {i : Nat} {s x : Int} (h : d[i]? = some (s, x)) : bestOn P f (d.take (i + 1)) l = bestIn f x (P s) (bestOn P f (d.take i) l) := by
  unfold bestOn
  rw [List.take_succ, h, List.foldl_append]
  rfl
theorem in_take {f : Int → Int → Int} {v : Int} {ps : List (Int × Int)} {l : Dk} {i : Nat} {p : Int × Int} (h : ps[i]? = some p) : bestIn f v (ps.take (i + 1)) l = upMax (bestIn f v (ps.take i) l) p.2 (f v p.1) := by
  unfold bestIn
  rw [List.take_succ, h, List.foldl_append]
  rfl
theorem same_put {Hb H : Hp} {g : Addr} {o : HO} (s : Same Hb H) (n : Hb g = none) : Same Hb (upd H g o) := same_new s n
section
variable {P : Program} {w : World} {K : PySem.W.Frag} {mg : Str → Option Value} {base : Heap} {p1 p2 p3 p4 : Addr} {q1 q2 q3 q4 : FuncData}
end
/-! one letter more for the lacks -/
def mostOn (M : Mc) (at_ : Nat) (D : Dk) : Int := maxL ((gainOf (chP M at_) D).map (·.2))
def lackOn (M : Mc) (at_ : Nat) (D : Dk) : Dk := laterOf M.b (sprd M) (gainOf (chP M at_) D)
theorem gain_kin {M : Mc} (h : Mok M) {at_ : Nat} {D : Dk} : Kin M.C.length (gainOf (chP M at_) D) :=
  kin_on (kin_nil _) fun kv _ p hp => ⟨(ch_rg h hp).2.2.1, (ch_rg h hp).2.2.2⟩
theorem up_len (d : Dk) (k v : Int) : (upMax d k v).length ≤ d.length + 1 := by
  unfold upMax
  split
  · exact put_len d k v
  · split
    · exact put_len d k v
    · exact Nat.le_succ _
theorem in_len {f : Int → Int → Int} {v : Int} : ∀ (ps : List (Int × Int)) (d : Dk), (bestIn f v ps d).length ≤ d.length + ps.length
  | [], _ => Nat.le_refl _
  | p :: ps, d => by
    have h1 := in_len (f := f) (v := v) ps (upMax d p.2 (f v p.1))
    have h2 := up_len d p.2 (f v p.1)
    show (bestIn f v ps (upMax d p.2 (f v p.1))).length ≤ _
    rw [List.length_cons]
    omega
theorem on_len {P : Int → List (Int × Int)} {f : Int → Int → Int} (h : ∀ s, (P s).length ≤ 1) : ∀ (d l : Dk), (bestOn P f d l).length ≤ l.length + d.length
  | [], _ => Nat.le_refl _
  | q :: d, l => by
    have h1 := on_len h d (bestIn f q.2 (P q.1) l) (f := f)
    have h2 := in_len (f := f) (v := q.2) (P q.1) l
    have h3 := h q.1
    show (bestOn P f d (bestIn f q.2 (P q.1) l)).length ≤ _
    rw [List.length_cons]
    omega
theorem few_on {M : Mc} (h : Mok M) {at_ : Nat} {f : Int → Int → Int} {D : Dk} (hd : D.length ≤ 4) : (bestOn (chP M at_) f D []).length ≤ 4 := by
  rcases h.few with c4 | one
  · have := kin_len (n := M.C.length) (d := bestOn (chP M at_) f D []) (kin_on (kin_nil _) fun kv _ p hp => ⟨(ch_rg h hp).2.2.1, (ch_rg h hp).2.2.2⟩)
    omega
  · have := on_len (P := chP M at_) (f := f) (fun s => by
      cases e : chP M at_ s with
      | nil => exact Nat.zero_le _
      | cons p r =>
        obtain ⟨cs, hcs, ps, hps, _, e2⟩ := ch_mem h (at_ := at_) (s := s) (p := p) (by rw [e]; exact .head _)
        rw [← e, e2, one cs hcs ps hps]
        exact Nat.le_refl _) D []
    rw [List.length_nil] at this
    omega
theorem ch_some {M : Mc} (h : Mok M) {at_ : Nat} {s : Int} (s0 : 0 ≤ s) (s1 : s ≤ (M.C.length : Int) - 1) (ha : at_ < M.z.length) : ∃ p, p ∈ chP M at_ s := by
  have hs : s.toNat < M.C.length := by omega
  have ha2 : at_ < M.C[s.toNat].length := by rw [h.row _ (List.getElem_mem hs)]; exact ha
  have e2 : chP M at_ s = M.C[s.toNat][at_] := by
    unfold chP
    rw [List.getD_eq_getElem?_getD (l := M.C), List.getElem?_eq_getElem hs, Option.getD_some, List.getD_eq_getElem?_getD, List.getElem?_eq_getElem ha2]
    rfl
  have l := (h.ch _ (List.getElem_mem hs) _ (List.getElem_mem ha2)).1
  rw [e2]
  exact ⟨_, List.getElem_mem (show 0 < M.C[s.toNat][at_].length by omega)⟩
theorem on_ne {M : Mc} (h : Mok M) {at_ : Nat} {f : Int → Int → Int} {D : Dk} (hk : Kin M.C.length D) (hd : D ≠ []) (ha : at_ < M.z.length) : bestOn (chP M at_) f D [] ≠ [] := by
  cases D with
  | nil => exact absurd rfl hd
  | cons q d =>
    obtain ⟨r1, r2⟩ := hk.rg q.1 (.head _)
    obtain ⟨p, hp⟩ := ch_some h r1 r2 ha
    obtain ⟨u, hu, _⟩ := bestOn_has (P := chP M at_) (f := f) (q :: d) [] (s := q.1) (v := q.2) (p := p.1) (k := p.2) (.head _) hp
    intro z
    rw [z] at hu
    cases hu
theorem pays_rg {M : Mc} (h : Mok M) : ∀ y ∈ paysL M, -wideN ≤ y ∧ y ≤ wideN := fun y hy => by
  unfold paysL at hy
  obtain ⟨cs, hcs, hy⟩ := List.mem_flatMap.mp hy
  obtain ⟨ps, hps, hy⟩ := List.mem_flatMap.mp hy
  obtain ⟨p, hp, rfl⟩ := List.mem_map.mp hy
  exact ⟨(h.pr cs hcs ps hps p hp).1, (h.pr cs hcs ps hps p hp).2.1⟩
theorem ch_pays {M : Mc} (h : Mok M) {at_ : Nat} {s : Int} {p : Int × Int} (hp : p ∈ chP M at_ s) : minL (paysL M) ≤ p.1 ∧ p.1 ≤ maxL (paysL M) := by
  obtain ⟨cs, hcs, ps, hps, hp, _⟩ := ch_mem h hp
  have : p.1 ∈ paysL M := List.mem_flatMap.mpr ⟨cs, hcs, List.mem_flatMap.mpr ⟨ps, hps, List.mem_map_of_mem hp⟩⟩
  exact ⟨minL_le this, le_maxL this⟩
theorem sprd_rg {M : Mc} (h : Mok M) : 0 ≤ sprd M ∧ sprd M ≤ 2 * wideN := by
  have h1 := maxL_mem (pays_ne h)
  have h2 := minL_mem (pays_ne h)
  have h3 := pays_rg h _ h1
  have h4 := pays_rg h _ h2
  have h5 := minL_le h1
  unfold sprd
  omega
theorem lack_kin {M : Mc} (h : Mok M) {at_ : Nat} {D : Dk} : Kin M.C.length (lackOn M at_ D) := by
  have g := gain_kin h (at_ := at_) (D := D)
  refine ⟨later_keys g.nd, fun k hk => ?_⟩
  obtain ⟨w, hw⟩ := Option.isSome_iff_exists.mp (getI_mem.mpr hk)
  obtain ⟨x, hx, _⟩ := (later_get g.nd).mp hw
  exact g.rg k (getI_mem.mp (by rw [hx]; rfl))
theorem lack_len {M : Mc} (h : Mok M) {at_ : Nat} {D : Dk} (hd : D.length ≤ 4) : (lackOn M at_ D).length ≤ 4 := by
  have := few_on h (at_ := at_) (f := fun v p => p - v) hd
  have l : (lackOn M at_ D).length ≤ (sortI (keysI (gainOf (chP M at_) D))).length := List.length_filterMap_le _ _
  rw [(sort_perm _).length_eq] at l
  unfold keysI at l
  rw [List.length_map] at l
  exact Nat.le_trans l this
theorem lack_ne {M : Mc} (h : Mok M) {at_ : Nat} {D : Dk} (hk : Kin M.C.length D) (hd : D ≠ []) (ha : at_ < M.z.length) : lackOn M at_ D ≠ [] := by
  have g := gain_kin h (at_ := at_) (D := D)
  have ne := on_ne h (f := fun v p => p - v) hk hd ha
  have := maxL_mem (l := (gainOf (chP M at_) D).map (·.2)) (fun z => ne (List.map_eq_nil_iff.mp z))
  obtain ⟨q, hq, e⟩ := List.mem_map.mp this
  have hg := mem_getI g.nd (k := q.1) (v := q.2) hq
  have := (later_get (b := M.b) (sp := sprd M) g.nd (to := q.1) (k := 0)).mpr ⟨q.2, hg, by rw [← e]; simp, rfl⟩
  intro z
  unfold lackOn at z
  rw [z] at this
  cases this
theorem lack_val {M : Mc} (h : Mok M) {at_ : Nat} {D : Dk} {kv : Int × Int} (hkv : kv ∈ lackOn M at_ D) : 0 ≤ kv.2 ∧ kv.2 ≤ 18 * wideN := by
  have g := gain_kin h (at_ := at_) (D := D)
  have := mem_getI (lack_kin h).nd (k := kv.1) (v := kv.2) hkv
  obtain ⟨x, hx, e, hh⟩ := (later_get g.nd).mp this
  have le : x ≤ maxL ((gainOf (chP M at_) D).map (·.2)) := le_maxL (List.mem_map_of_mem (f := (·.2)) (getI_some_mem hx))
  have b2 := h.b2
  have b9 := h.b9
  have pos : 0 ≤ kv.2 := by rw [e]; exact Int.mul_nonneg (by omega) (by omega)
  refine ⟨pos, ?_⟩
  have sr := sprd_rg h
  unfold hopes at hh
  simp only [Bool.or_eq_true, decide_eq_true_eq] at hh
  rcases hh with hh | hh
  · omega
  · have h1 : kv.2 * 1 ≤ kv.2 * (M.b - 1) := Int.mul_le_mul_of_nonneg_left (by omega) pos
    have h2 : sprd M * M.b ≤ sprd M * 9 := Int.mul_le_mul_of_nonneg_left b9 sr.1
    omega
theorem lack_bd {M : Mc} (h : Mok M) {at_ : Nat} {D : Dk} : Bd 200 (lackOn M at_ D) := fun kv hkv => by
  have := lack_val h hkv
  have w := wide_two
  have p1 : (2 : Nat) ^ 100 * 18 < 2 ^ 200 := by decide +kernel
  have p2 : ((2 : Int) ^ 100).natAbs = 2 ^ 100 := by decide +kernel
  omega
def pickOf (b sp : Int) (g : Dk) (to : Int) : Option (Int × Int) := if hopes b sp (b * (maxL (g.map (·.2)) - (getI g to).getD 0)) = true then some (to, b * (maxL (g.map (·.2)) - (getI g to).getD 0)) else none
theorem later_eq (b sp : Int) (g : Dk) : laterOf b sp g = (sortI (keysI g)).filterMap (pickOf b sp g) := rfl
theorem pick_keys {b sp : Int} {g : Dk} : ∀ {l : List Int} {to : Int}, to ∉ l → getI (l.filterMap (pickOf b sp g)) to = none := fun {l to} h => by
  cases e : getI (l.filterMap (pickOf b sp g)) to with
  | none => rfl
  | some v =>
    obtain ⟨t, ht, e2⟩ := List.mem_filterMap.mp (getI_some_mem e)
    unfold pickOf at e2
    split at e2
    · cases e2
      exact absurd ht h
    · cases e2
theorem pick_take {b sp : Int} {g : Dk} {l : List Int} {i : Nat} {to : Int} (nd : l.Nodup) (h : l[i]? = some to) (x : Int) (hx : getI g to = some x) :
    (l.take (i + 1)).filterMap (pickOf b sp g) = if hopes b sp (b * (maxL (g.map (·.2)) - x)) = true then putI ((l.take i).filterMap (pickOf b sp g)) to (b * (maxL (g.map (·.2)) - x)) else (l.take i).filterMap (pickOf b sp g) := by
  have out : to ∉ l.take i := fun m => by
    obtain ⟨n, hn, e⟩ := List.mem_iff_getElem.mp m
    rw [List.getElem_take] at e
    have hi := (List.getElem?_eq_some_iff.mp h)
    obtain ⟨hi1, hi2⟩ := hi
    have hn2 : n < i := by rw [List.length_take] at hn; omega
    exact (List.pairwise_iff_getElem.mp nd) n i (by omega) hi1 hn2 (e.trans hi2.symm)
  have fresh := pick_keys (b := b) (sp := sp) (g := g) out
  rw [List.take_succ, h, List.filterMap_append]
  have e1 : [to].filterMap (pickOf b sp g) = if hopes b sp (b * (maxL (g.map (·.2)) - x)) = true then [(to, b * (maxL (g.map (·.2)) - x))] else [] := by
    rw [List.filterMap_cons]
    unfold pickOf
    rw [hx, Option.getD_some]
    by_cases c : hopes b sp (b * (maxL (g.map (·.2)) - x)) = true
    · rw [if_pos c, if_pos c]; rfl
    · rw [if_neg c, if_neg c]; rfl
  show _ ++ [to].filterMap (pickOf b sp g) = _
  rw [e1]
  by_cases c : hopes b sp (b * (maxL (g.map (·.2)) - x)) = true
  · rw [if_pos c, if_pos c]
    unfold putI
    rw [getI_any, fresh]
    rfl
  · rw [if_neg c, if_neg c, List.append_nil]
theorem gain_bd {M : Mc} (h : Mok M) {at_ : Nat} {D : Dk} (hb : Bd 200 D) : ∀ {k x : Int}, getI (gainOf (chP M at_) D) k = some x → x.natAbs < 2 ^ 201 := fun {k x} e => by
  rcases bestOn_from D [] e with e | ⟨s, v, p, hs, hp, e⟩
  · cases e
  · have h1 := hb _ hs
    have h2 := ch_rg h hp
    have h3 := wide_two
    have p2 : ((2 : Int) ^ 100).natAbs = 2 ^ 100 := by decide +kernel
    have p3 : (2 : Nat) ^ 100 < 2 ^ 200 := by decide +kernel
    have p4 : (2 : Nat) ^ 201 = 2 ^ 200 * 2 := by decide +kernel
    have h4 : v.natAbs < 2 ^ 200 := h1
    omega
end My
/-! ### numbers: the mathematics -/
namespace My
open PySem PySem.Spec PyProof.Rows L2
def gg (n d : Int) : Int := ((Nat.gcd n.natAbs d.natAbs : Nat) : Int)
def rn (n d : Int) : Int := n / gg n d
def rd (n d : Int) : Int := d / gg n d
/-- n / d, without a common divisor -/
structure Low (n d : Int) : Prop where
  pos : 0 < d
  one : gg n d = 1
theorem gg_pos {n d : Int} (h : 0 < d) : 0 < gg n d := by
  have : 0 < Nat.gcd n.natAbs d.natAbs := Nat.gcd_pos_of_pos_right _ (by omega)
  unfold gg
  omega
theorem gg_n (n d : Int) : ∃ k, n = gg n d * k := by
  obtain ⟨c, hc⟩ := Nat.gcd_dvd_left n.natAbs d.natAbs
  rcases Int.natAbs_eq n with e | e
  · exact ⟨(c : Int), by unfold gg; rw [← Int.natCast_mul, ← hc]; exact e⟩
  · exact ⟨-(c : Int), by unfold gg; rw [Int.mul_neg, ← Int.natCast_mul, ← hc]; exact e⟩
theorem gg_d (n d : Int) : ∃ k, d = gg n d * k := by
  obtain ⟨c, hc⟩ := Nat.gcd_dvd_right n.natAbs d.natAbs
  rcases Int.natAbs_eq d with e | e
  · exact ⟨(c : Int), by unfold gg; rw [← Int.natCast_mul, ← hc]; exact e⟩
  · exact ⟨-(c : Int), by unfold gg; rw [Int.mul_neg, ← Int.natCast_mul, ← hc]; exact e⟩
theorem rn_mul {n d : Int} (h : 0 < d) : n = gg n d * rn n d := by
  obtain ⟨k, hk⟩ := gg_n n d
  have g := gg_pos (n := n) h
  have e : rn n d = k := by
    unfold rn
    rw [Int.ediv_eq_of_eq_mul_right (by omega) hk]
  rw [e]; exact hk
theorem rd_mul {n d : Int} (h : 0 < d) : d = gg n d * rd n d := by
  obtain ⟨k, hk⟩ := gg_d n d
  have g := gg_pos (n := n) h
  have e : rd n d = k := by
    unfold rd
    rw [Int.ediv_eq_of_eq_mul_right (by omega) hk]
  rw [e]; exact hk
theorem rd_pos {n d : Int} (h : 0 < d) : 0 < rd n d := by
  have g := gg_pos (n := n) h
  have e := rd_mul (n := n) h
  refine Int.lt_of_not_ge fun z => ?_
  have : gg n d * rd n d ≤ 0 := Int.mul_nonpos_of_nonneg_of_nonpos (by omega) z
  omega
theorem low_r {n d : Int} (h : 0 < d) : Low (rn n d) (rd n d) := by
  refine ⟨rd_pos h, ?_⟩
  have g := gg_pos (n := n) h
  have e1 : n.natAbs = (gg n d).natAbs * (rn n d).natAbs := by rw [← Int.natAbs_mul, ← rn_mul h]
  have e2 : d.natAbs = (gg n d).natAbs * (rd n d).natAbs := by rw [← Int.natAbs_mul, ← rd_mul h]
  have e3 : Nat.gcd n.natAbs d.natAbs = (gg n d).natAbs * Nat.gcd (rn n d).natAbs (rd n d).natAbs := by
    rw [← Nat.gcd_mul_left, ← e1, ← e2]
  have e4 : (gg n d).natAbs = Nat.gcd n.natAbs d.natAbs := by unfold gg; exact Int.natAbs_natCast _
  rw [← e4] at e3
  have e5 : Nat.gcd (rn n d).natAbs (rd n d).natAbs = 1 := by
    have e6 : (gg n d).natAbs * 1 = (gg n d).natAbs * Nat.gcd (rn n d).natAbs (rd n d).natAbs := by rw [Nat.mul_one]; exact e3
    exact (Nat.eq_of_mul_eq_mul_left (by omega) e6).symm
  show ((Nat.gcd (rn n d).natAbs (rd n d).natAbs : Nat) : Int) = 1
  rw [e5]; rfl
theorem cross {n d : Int} (h : 0 < d) : rn n d * d = n * rd n d := by
  have e1 := rn_mul (n := n) h
  have e2 := rd_mul (n := n) h
  calc rn n d * d = rn n d * (gg n d * rd n d) := by rw [← e2]
    _ = gg n d * rn n d * rd n d := by rw [Int.mul_comm (gg n d) (rn n d), Int.mul_assoc]
    _ = n * rd n d := by rw [← e1]
/-- a number has one spelling without a common divisor -/
theorem low_uniq {p q r s : Int} (h1 : Low p q) (h2 : Low r s) (e : p * s = r * q) : p = r ∧ q = s := by
  have c1 : Nat.Coprime p.natAbs q.natAbs := by
    have := h1.one
    unfold gg at this
    exact Int.ofNat_inj.mp this
  have c2 : Nat.Coprime r.natAbs s.natAbs := by
    have := h2.one
    unfold gg at this
    exact Int.ofNat_inj.mp this
  have en : p.natAbs * s.natAbs = r.natAbs * q.natAbs := by rw [← Int.natAbs_mul, ← Int.natAbs_mul, e]
  have d1 : q.natAbs ∣ s.natAbs := c1.symm.dvd_of_dvd_mul_left (by rw [en]; exact Nat.dvd_mul_left _ _)
  have d2 : s.natAbs ∣ q.natAbs := c2.symm.dvd_of_dvd_mul_left (by rw [← en]; exact Nat.dvd_mul_left _ _)
  have eq : q.natAbs = s.natAbs := Nat.dvd_antisymm d1 d2
  have hq := h1.pos
  have hs := h2.pos
  have qs : q = s := by omega
  refine ⟨?_, qs⟩
  rw [qs] at e
  exact Int.eq_of_mul_eq_mul_right (by omega) e
theorem low_eq {n d m e : Int} (hd : 0 < d) (he : 0 < e) (h : n * e = m * d) : rn n d = rn m e ∧ rd n d = rd m e := by
  refine low_uniq (low_r hd) (low_r he) ?_
  have c1 := cross (n := n) hd
  have c2 := cross (n := m) he
  refine Int.eq_of_mul_eq_mul_right (a := d * e) (by have := Int.mul_pos hd he; omega) ?_
  calc rn n d * rd m e * (d * e) = (rn n d * d) * (rd m e * e) := by rw [Int.mul_assoc, Int.mul_left_comm (rd m e) d e, ← Int.mul_assoc]
    _ = (n * e) * (rd n d * rd m e) := by rw [c1, Int.mul_assoc, Int.mul_assoc, Int.mul_comm (rd m e) e, Int.mul_left_comm (rd n d) e (rd m e)]
    _ = (m * d) * (rd n d * rd m e) := by rw [h]
    _ = m * rd m e * (rd n d * d) := by rw [Int.mul_assoc, Int.mul_assoc, Int.mul_comm (rd n d) (rd m e), Int.mul_left_comm d (rd m e) (rd n d), Int.mul_comm d (rd n d)]
    _ = rn m e * rd n d * (d * e) := by rw [← c2, Int.mul_assoc, Int.mul_assoc, Int.mul_left_comm e (rd n d) d, Int.mul_comm e d]
theorem low_id {n d : Int} (h : Low n d) : rn n d = n ∧ rd n d = d := by
  unfold rn rd
  rw [h.one]
  exact ⟨Int.ediv_one _, Int.ediv_one _⟩
theorem rn_abs {n d : Int} (h : 0 < d) : (rn n d).natAbs ≤ n.natAbs := by
  have e : n.natAbs = (gg n d).natAbs * (rn n d).natAbs := by rw [← Int.natAbs_mul, ← rn_mul h]
  have g := gg_pos (n := n) h
  have : 1 * (rn n d).natAbs ≤ (gg n d).natAbs * (rn n d).natAbs := Nat.mul_le_mul_right _ (by omega)
  omega
theorem rd_abs {n d : Int} (h : 0 < d) : (rd n d).natAbs ≤ d.natAbs := by
  have e : d.natAbs = (gg n d).natAbs * (rd n d).natAbs := by rw [← Int.natAbs_mul, ← rd_mul h]
  have g := gg_pos (n := n) h
  have : 1 * (rd n d).natAbs ≤ (gg n d).natAbs * (rd n d).natAbs := Nat.mul_le_mul_right _ (by omega)
  omega
theorem gg_le {n d : Int} (h : 0 < d) : gg n d ≤ d := by
  have : Nat.gcd n.natAbs d.natAbs ≤ d.natAbs := Nat.gcd_le_right _ (by omega)
  unfold gg
  omega
end My
/-! ### lacks along words -/
namespace My
open PySem PySem.Spec PyProof.Rows L2 PySem.Builtin.Str
/-- what the frame of a machine is -/
def Frame (d : PyData) (M : Mc) : Prop := Mok M ∧ ((mchD d = true ∧ d = eM M) ∨ (mchD d = false ∧ plnD d = true ∧ withD d = eM M))
def lacksAfter (M : Mc) (cs : List Nat) (D : Dk) : Dk := cs.foldl (fun D c => lackOn M (ixM M c) D) D
theorem lacks_take {M : Mc} {S : Dk} {cs : List Nat} {j c : Nat} (h : cs[j]? = some c) : lacksAfter M (cs.take (j + 1)) S = lackOn M (ixM M c) (lacksAfter M (cs.take j) S) := by
  unfold lacksAfter
  rw [List.take_succ, h, List.foldl_append]
  rfl
structure Lok (M : Mc) (D : Dk) : Prop where
  kin : Kin M.C.length D
  ne : D ≠ []
  few : D.length ≤ 4
  bd : Bd 200 D
theorem lok_step {M : Mc} (h : Mok M) {at_ : Nat} {D : Dk} (l : Lok M D) (ha : at_ < M.z.length) : Lok M (lackOn M at_ D) := ⟨lack_kin h, lack_ne h l.kin l.ne ha, lack_len h l.few, lack_bd h⟩
theorem lok_zero {M : Mc} (h : Mok M) : Lok M [(0, 0)] := by
  have := h.c1
  refine ⟨⟨by simp [keysI], fun k hk => ?_⟩, by simp, by decide, fun kv hkv => ?_⟩
  · have : k = 0 := by simpa [keysI] using hk
    omega
  · obtain rfl : kv = (0, 0) := by simpa using hkv
    decide +kernel
theorem ix_lt {M : Mc} {c : Nat} (hc : c ∈ M.z.cps.toList) : ixM M c < M.z.length := by
  have : M.z.cps.toList.length = M.z.length := Array.length_toList
  rw [← this]
  exact List.idxOf_lt_length_of_mem hc
theorem lok_after {M : Mc} (h : Mok M) : ∀ (cs : List Nat) {D : Dk}, Lok M D → (∀ c ∈ cs, c ∈ M.z.cps.toList) → Lok M (lacksAfter M cs D)
  | [], _, l, _ => l
  | c :: cs, D, l, hc => lok_after h cs (D := lackOn M (ixM M c) D) (lok_step h l (ix_lt (hc c (.head _)))) fun e he => hc e (.tail _ he)
theorem sums_ne {M : Mc} (h : Mok M) : ∀ (cs : List Nat) {S : Dk}, Kin M.C.length S → S ≠ [] → (∀ c ∈ cs, c ∈ M.z.cps.toList) → sumsAfter M cs S ≠ []
  | [], _, _, n, _ => n
  | c :: cs, S, k, n, hc => sums_ne h cs (S := sumStep M S c) (sum_kin h) (on_ne h k n (ix_lt (hc c (.head _)))) fun e he => hc e (.tail _ he)
theorem frame_need {K : PySem.W.Frag} {CM : Addr} {H : Hp} {x : V} {d : PyData} {M : Mc} {nm : Str} {Q : VK} {E : XK} (hF : Frame d M) (hx : Rp K H x d) (hn : nm.length ≤ 100) (q : ∀ H1 v, Same H H1 → Rp K H1 v (eM M) → Q v H1) : spNeedMachine K CM [x, .str nm] H Q E := by
  refine ⟨x, d, nm, rfl, hx, hn, ?_⟩
  rcases hF.2 with ⟨h1, h2⟩ | ⟨h1, h2, h3⟩
  · exact .inl ⟨h1, fun H' s => q H' x s (h2 ▸ hx.go s)⟩
  · exact .inr (.inl ⟨h1, h2, fun H' t s r => q H' _ s (h3 ▸ r)⟩)
end My
/-! ### what stays when the pen writes -/
namespace My
open PySem PySem.Spec PyProof.Rows L2
/-- all but what stands at p, and the tables, is as it was -/
def ButN (p : Addr) (H H' : Hp) : Prop := ∀ b o, b ≠ p → H b = some o → (∀ ps, o ≠ .tbl ps) → H' b = some o
theorem ButN.trans {p : Addr} {H H1 H2 : Hp} (a : ButN p H H1) (b : ButN p H1 H2) : ButN p H H2 := fun c o n e t => b c o n (a c o n e t) t
theorem ButN.refl (p : Addr) (H : Hp) : ButN p H H := fun _ _ _ e _ => e
theorem butN_same {p : Addr} {H H' : Hp} (s : Same H H') : ButN p H H' := fun b o _ e _ => s b o e
theorem butN_but {p : Addr} {H H' : Hp} (s : But p H H') : ButN p H H' := fun b o n e _ => s b o n e
theorem butN_ext {p : Addr} {H H' : Hp} (s : LamX.ExtN H H') : ButN p H H' := fun b o _ e t => s b o e t
theorem Pen.ext {H H' : Hp} {p : Addr} {n : Nat} (h : Pen H p n) (s : LamX.ExtN H H') : Pen H' p n := by
  obtain ⟨c, cs, a, r, h1, h2, h3⟩ := h.ex
  exact ⟨c, cs, a, r, s _ _ h1 (fun _ z => nomatch z), s _ _ h2 (fun _ z => nomatch z), h3⟩
theorem tabs_but {T : List (Addr × Str)} {H H' : Hp} {p : Addr} {ys : List V} (h : LamX.Tabs T H) (hp : H p = some (.lst ys)) (b : But p H H') : LamX.Tabs T H' := fun x hx => by
  obtain ⟨ps, h1, h2, h3⟩ := h x hx
  refine ⟨ps, b _ _ (ne_of h1 hp (by intro z; cases z)) h1, h2, fun pos cv hc => ?_⟩
  obtain ⟨c, e1, e2⟩ := h3 pos cv hc
  exact ⟨c, e1, b _ _ (ne_of e2 hp (by intro z; cases z)) e2⟩
theorem tabs_pen {T : List (Addr × Str)} {H H' : Hp} {p : Addr} {n : Nat} (h : LamX.Tabs T H) (hp : Pen H p n) (b : But p H H') : LamX.Tabs T H' := by
  obtain ⟨ys, e⟩ := hp.ls
  exact tabs_but h e b
theorem tabs_same {T : List (Addr × Str)} {H H' : Hp} (h : LamX.Tabs T H) (s : Same H H') : LamX.Tabs T H' := h.ext s
theorem new_ne {H : Hp} {p l : Addr} {n : Nat} (h : Pen H p n) (hl : H l = none) : l ≠ p := by
  obtain ⟨xs, e⟩ := h.ls
  exact (ne_of_none e hl).symm
/-- x is what d says, whatever becomes of the pen -/
def Rs (p : Addr) (K : PySem.W.Frag) (H : Hp) (x : V) (d : PyData) : Prop := ∀ H', ButN p H H' → Rp K H' x d
def RsAll (p : Addr) (K : PySem.W.Frag) (H : Hp) (xs : List V) (ds : List PyData) : Prop := ∀ H', ButN p H H' → RpAll K H' xs ds
section
variable {p : Addr} {K : PySem.W.Frag} {H H' : Hp} {x : V} {d : PyData} {xs : List V} {ds : List PyData}
theorem Rs.go (h : Rs p K H x d) (b : ButN p H H') : Rs p K H' x d := fun H2 b2 => h H2 (b.trans b2)
theorem RsAll.go (h : RsAll p K H xs ds) (b : ButN p H H') : RsAll p K H' xs ds := fun H2 b2 => h H2 (b.trans b2)
theorem Rs.rp (h : Rs p K H x d) : Rp K H x d := h H (ButN.refl p H)
theorem RsAll.rp (h : RsAll p K H xs ds) : RpAll K H xs ds := h H (ButN.refl p H)
theorem rs_non : Rs p K H .non .none := fun _ _ => .non
theorem rs_bl (b : Bool) : Rs p K H (.bl b) (.bool b) := fun _ _ => .bl b
theorem rs_int (i : Int) : Rs p K H (.int i) (.int i) := fun _ _ => .int i
theorem rs_str (z : Str) (h : z.length ≤ sizeLine) : Rs p K H (.str z) (.str z) := fun _ _ => .str z h
theorem rsNil : RsAll p K H [] [] := fun _ _ => .nil
theorem RsAll.cons (h : Rs p K H x d) (t : RsAll p K H xs ds) : RsAll p K H (x :: xs) (d :: ds) := fun H2 b => .cons (h H2 b) (t H2 b)
theorem rs_tup {t : Addr} (ht : t ≠ p) (h : H t = some (.tup xs)) (a : RsAll p K H xs ds) : Rs p K H (.ref t) (.tuple ds) := fun H2 b => .tup (SqT.of (b _ _ ht h (fun _ z => nomatch z))) (a H2 b)
theorem rs_lst {t : Addr} (ht : t ≠ p) (h : H t = some (.lst xs)) (a : RsAll p K H xs ds) : Rs p K H (.ref t) (.list ds) := fun H2 b => .lst (SqL.of (b _ _ ht h (fun _ z => nomatch z))) (a H2 b)
theorem rsAll_of {α : Type} {f : α → V} {g : α → PyData} : ∀ {l : List α}, (∀ a ∈ l, Rs p K H (f a) (g a)) → RsAll p K H (l.map f) (l.map g)
  | [], _ => rsNil
  | a :: l, h => RsAll.cons (h a (.head _)) (rsAll_of fun b hb => h b (.tail _ hb))
end
def spPickC (K : PySem.W.Frag) : Sp := fun vs H Q _ => ∃ (p c s : Addr) (xs : List V) (n : Nat), vs = [.ref p, .ref s] ∧ PenC H p c n ∧ n < 1048000 ∧ SqL K H s xs ∧ s ≠ p ∧ 0 < xs.length ∧ xs.length ≤ 1000 ∧ ∀ (H' : Hp) (k : Nat) (v : V), But p H H' → PenC H' p c (n + 1) → xs[(k : Nat)]? = some (v : V) → Q v H'
theorem log_small {z : Int} {m : Nat} (h : z.natAbs ≤ m) (hm : m < 9000) : z.natAbs.log2 < 9000 := Nat.lt_of_le_of_lt (Nat.log2_le_self _) (Nat.lt_of_le_of_lt h hm)
section
variable {P : Program} {w : World} {K : PySem.W.Frag} {mg : Str → Option Value} {base : Heap} {f1 f2 f3 f4 : Addr} {d1 d2 d3 d4 : FuncData}
theorem ok_pickC (T : PenTxt K mg f1 f2 f3 f4 d1 d2 d3 d4) {k : Nat} : FnOk P w K mg base CX0 (k + 3) f4 d4 ["pen", "some"] (spPickC K) := by
  have F := T.FPick
  have GT : FnOk P w K mg base CX0 (k + 2) f3 d3 ["pen", "many"] spTakeC := ok_takeC T
  refine F.ok scPick (fun vs H Q E h => ?_) (fun cdv A outer s H vs Q E hr h => ?_)
  · obtain ⟨c, c2, a, xs, n, rfl, _⟩ := h
    rfl
  · obtain ⟨p, c, l, xs, n, rfl, hP, hn, hS, nlp, l0, l1, q⟩ := h
    refine ⟨_, (pss_one (ps_ret (pe_ix ix_list (pv 1) (pe_call GT hr (by rfl) T.gTake T.FTake.kp T.bTake .nil pass0 (pa_cons (pv 0) (pa_cons (pe_callB call_len_seq (by rfl) T.len PySem.boot_len (pa_cons (pv 1) pa_nil)) pa_nil))) (fun _ _ => rfl)))), ?_⟩
    refine ⟨_, rfl, _, rfl, _, rfl, l, xs, rfl, .inl hS, p, c, _, n, rfl, hP, hn, by omega, ?_, fun H1 k b1 hP1 k0 k1 => ?_⟩
    · exact log_small (show ((xs.length : Int)).natAbs ≤ 1000 by omega) (by decide)
    · have hk : k.toNat < xs.length := by omega
      have e : xs[k.toNat]? = some xs[k.toNat] := List.getElem?_eq_getElem hk
      have hS1 : SqL K H1 l xs := by
        rcases hS with (h | ⟨o, h⟩) | h
        · exact .inl (.inl (b1 _ _ nlp h))
        · exact .inl (.inr ⟨o, b1 _ _ nlp h⟩)
        · exact .inr h
      exact ⟨l, xs, k, _, rfl, rfl, hS1, at_of (by omega) e, q H1 k.toNat _ b1 hP1 e⟩
end
end My
/-! ### the law's letters -/
namespace My
open PySem PySem.Spec PyProof.Rows L2
abbrev sXLetters : Stmt := topS 63
theorem scXLetters : FnScope ["pen", "i", "alphabet", "j", "k"] ["pen"] (defScope sXLetters) := ⟨rfl, rfl, rfl, by decide +kernel, rfl, by decide +kernel, by decide +kernel⟩
structure LetTxt (K : PySem.W.Frag) (mg : Str → Option Value) (x1 : Addr) (y1 : FuncData) : Prop where
  FXLetters : Fun K "_law_x_letters" "_law_x_letters" sXLetters x1 y1
  bXLetters : Binds K y1 ["pen"] []
  gXLetters : mg "_law_x_letters" = some (.ref x1)
def abc : Str := "abcdefghijklmnopqrstuvwxyz"
theorem abc_len : abc.length ≤ sizeLine := by
  show 26 ≤ sizeLine
  decide
theorem abc_at {i : Int} (h0 : 0 ≤ i) (h1 : i ≤ 25) : atI abc.cps.toList i = some (97 + i.toNat) := by
  have h : ∀ n : Nat, n < 26 → abc.cps.toList[n]? = some (97 + n) := by decide +kernel
  have e := h i.toNat (by omega)
  rw [show i = ((i.toNat : Nat) : Int) by omega]
  exact (atI_nat e)
def spXLetters : Sp := fun vs H Q _ => ∃ (p : Addr) (n : Nat), vs = [.ref p] ∧ Pen H p n ∧ n < 1047000 ∧ ∀ (H' : Hp) (z : Str), But p H H' → Pen H' p (n + 4) → lettersL z.cps.toList = true → Q (.str z) H'
theorem letters_one {a : Nat} (h1 : 97 ≤ a) (h2 : a ≤ 122) : lettersL [a] = true := by
  simp [lettersL, h1, h2]
section
variable {P : Program} {w : World} {K : PySem.W.Frag} {mg : Str → Option Value} {base : Heap} {f1 f2 f3 f4 : Addr} {d1 d2 d3 d4 : FuncData} {x1 : Addr} {y1 : FuncData}
theorem ok_xLetters (TP : PenTxt K mg f1 f2 f3 f4 d1 d2 d3 d4) (T : LetTxt K mg x1 y1) {k : Nat} : FnOk P w K mg base CX0 (k + 4) x1 y1 ["pen"] spXLetters := by
  have GT : FnOk P w K mg base CX0 (k + 3) f3 d3 ["pen", "many"] spTake := ok_take TP (k := k + 1)
  have GP : FnOk P w K mg base CX0 (k + 3) f4 d4 ["pen", "some"] (spPick K) := ok_pick TP (k := k)
  refine T.FXLetters.ok scXLetters (fun vs H Q E h => ?_) (fun cdv A outer s H vs Q E hr h => ?_)
  · obtain ⟨p, n, rfl, _⟩ := h
    rfl
  · obtain ⟨p, n, rfl, hP, hn, q⟩ := h
    refine ⟨_, (Evl.pss_cut (ps_par (i := 1) (j := 2) (by rfl) scXLetters.nd rfl rfl (by decide) rfl rfl (pa_cons (pe_call GT hr (by rfl) TP.gTake TP.FTake.kp TP.bTake .nil pass0 (pa_cons (pv 0) (pa_cons pe_int pa_nil))) (pa_cons pe_str pa_nil)) (by rfl))
 (Evl.pss_cut (ps_set (i := 3) scXLetters.nd rfl (.inl rfl) (pe_op op_add (pe_op op_add (pv 1) pe_int) (pe_call GT hr (by rfl) TP.gTake TP.FTake.kp TP.bTake .nil pass0 (pa_cons (pv 0) (pa_cons (pe_op op_sub pe_int (pv 1)) pa_nil)))))
 (Evl.pss_cut (ps_set (i := 4) scXLetters.nd rfl (.inl rfl) (pe_op op_add (pe_op op_add (pv 3) pe_int) (pe_call GT hr (by rfl) TP.gTake TP.FTake.kp TP.bTake .nil pass0 (pa_cons (pv 0) (pa_cons (pe_op op_sub pe_int (pv 3)) pa_nil)))))
 (pss_one (ps_ret (pe_op op_add_str (pe_ix ix_str (pv 2) (pv 1) (fun _ _ => rfl)) (pe_call GP hr (by rfl) TP.gPick TP.FPick.kp TP.bPick .nil pass0 (pa_cons (pv 0) (pa_cons (pe_lst (pa_cons pe_str (pa_cons (pe_ix ix_str (pv 2) (pv 3) (fun _ _ => rfl)) (pa_cons (pe_ix ix_str (pv 2) (pv 3) (fun _ _ => rfl)) (pa_cons (pe_ix ix_str (pv 2) (pv 3) (fun _ _ => rfl)) (pa_cons (pe_op op_add_str (pe_ix ix_str (pv 2) (pv 3) (fun _ _ => rfl)) (pe_ix ix_str (pv 2) (pv 4) (fun _ _ => rfl))) pa_nil)))))) pa_nil))))))))), ?_⟩
    refine ⟨fun σ H' => ∃ i : Int, σ = [some (.ref p), some (.int i), some (.str abc), none, none] ∧ 0 ≤ i ∧ i ≤ 23 ∧ But p H H' ∧ Pen H' p (n + 1), ?_, ?_⟩
    · refine ⟨_, rfl, p, 24, n, rfl, hP, by omega, by decide, by decide, fun H1 i b1 hP1 i0 i1 => ⟨_, _, rfl, i, rfl, i0, by omega, b1, hP1⟩⟩
    rintro σ H1 ⟨i, rfl, i0, i1, b1, hP1⟩
    refine ⟨fun σ H' => ∃ j : Int, σ = [some (.ref p), some (.int i), some (.str abc), some (.int j), none] ∧ i < j ∧ j ≤ 24 ∧ But p H H' ∧ Pen H' p (n + 2), ?_, ?_⟩
    · refine ⟨_, rfl, _, _, rfl, rfl, _, rfl, _, rfl, _, _, rfl, rfl, p, 24 - i, n + 1, rfl, hP1, by omega, by omega, log_small (m := 24) (by omega) (by decide), fun H2 j b2 hP2 j0 j1 => ⟨_, _, rfl, rfl, _, rfl, by omega, by omega, b1.trans b2, hP2⟩⟩
    rintro σ H2 ⟨j, rfl, j0, j1, b2, hP2⟩
    refine ⟨fun σ H' => ∃ k : Int, σ = [some (.ref p), some (.int i), some (.str abc), some (.int j), some (.int k)] ∧ j < k ∧ k ≤ 25 ∧ But p H H' ∧ Pen H' p (n + 3), ?_, ?_⟩
    · refine ⟨_, rfl, _, _, rfl, rfl, _, rfl, _, rfl, _, _, rfl, rfl, p, 25 - j, n + 2, rfl, hP2, by omega, by omega, log_small (m := 25) (by omega) (by decide), fun H3 k b3 hP3 k0 k1 => ⟨_, _, rfl, rfl, _, rfl, by omega, by omega, b2.trans b3, hP3⟩⟩
    rintro σ H3 ⟨k, rfl, k0, k1, b3, hP3⟩
    have ai := abc_at (i := i) i0 (by omega)
    have aj := abc_at (i := j) (by omega) (by omega)
    have ak := abc_at (i := k) (by omega) (by omega)
    have len1 : ∀ a b : Nat, (⟨#[a]⟩ : Str).length + (⟨#[b]⟩ : Str).length ≤ sizeLine := fun a b => by
      show 2 ≤ sizeLine
      decide
    refine ⟨_, rfl, _, rfl, abc, i, _, rfl, rfl, abc_len, ai, ?_⟩
    refine ⟨_, rfl, _, rfl, _, rfl, abc, j, _, rfl, rfl, abc_len, aj, _, rfl, _, rfl, abc, j, _, rfl, rfl, abc_len, aj, _, rfl, _, rfl, abc, j, _, rfl, rfl, abc_len, aj, ?_⟩
    refine ⟨_, rfl, _, rfl, abc, j, _, rfl, rfl, abc_len, aj, _, rfl, _, rfl, abc, k, _, rfl, rfl, abc_len, ak, _, _, rfl, rfl, len1 _ _, (by show 5 ≤ sizeLine; decide), fun l hl => ?_⟩
    have nl := new_ne hP3 hl
    refine ⟨p, l, _, n + 3, rfl, hP3.same (same_upd hl), by omega, SqL.of upd_same, nl, (by show 0 < 5; decide), (by show 5 ≤ 1000; decide), fun H4 m v b4 hP4 hm => ?_⟩
    have b34 : But p H H4 := b3.trans ((But.of (same_upd hl)).trans b4)
    have c1 : ∃ y : Str, v = .str y ∧ (y.cps.toList = [] ∨ y.cps.toList = [97 + j.toNat] ∨ y.cps.toList = [97 + j.toNat, 97 + k.toNat]) := by
      match m, hm with
      | 0, hm => exact ⟨_, (Option.some.inj hm).symm, .inl (by decide +kernel)⟩
      | 1, hm => exact ⟨_, (Option.some.inj hm).symm, .inr (.inl rfl)⟩
      | 2, hm => exact ⟨_, (Option.some.inj hm).symm, .inr (.inl rfl)⟩
      | 3, hm => exact ⟨_, (Option.some.inj hm).symm, .inr (.inl rfl)⟩
      | 4, hm => exact ⟨_, (Option.some.inj hm).symm, .inr (.inr rfl)⟩
      | m + 5, hm => exact absurd hm (by simp)
    obtain ⟨y, rfl, c1⟩ := c1
    have hy : y.length = y.cps.toList.length := rfl
    refine ⟨_, _, rfl, rfl, ?_, q H4 _ b34 hP4 ?_⟩
    · rw [hy]
      refine Nat.le_trans (show _ ≤ 3 from ?_) (by decide)
      rw [show (⟨#[97 + i.toNat]⟩ : Str).length = 1 from rfl]
      rcases c1 with e | e | e <;> rw [e] <;> simp
    · have e1 : ((⟨#[97 + i.toNat]⟩ : Str) ++ y).cps.toList = [97 + i.toNat] ++ y.cps.toList := by
        show (#[97 + i.toNat] ++ y.cps).toList = _
        simp
      rw [e1]
      rcases c1 with e | e | e <;> rw [e]
      · simp [lettersL]; omega
      · simp [lettersL]; omega
      · simp [lettersL]; omega
end
end My
/-! ### tuple * 1 -/
namespace My
open PySem PySem.Spec PyProof.Rows L2
theorem tuple_mul1 (l : Addr) (items : Array Value) (n : Nat) (dd : Option Addr) (sl : Array (Option Value)) (u : Tok) :
    Meets (Builtin.«tuple.__mul__» ⟨[.ref l, .int 1 u], []⟩) (fun _ R s => s.heap.get? l = some { cls := .type "tuple", dict := dd, data := .seq items n, slots := sl } ∧
      R (.ok (.ret (Value.ref l))) s) :=
  .of_wp fun prog w A R s h => by
    obtain ⟨hp, g, d, tk, os⟩ := s
    obtain ⟨hl, h⟩ := h
    have f1 := AutoSeq1.idx_int
    wp_walk using wpAny_loadPart' hl
    exact ⟨_, rfl, h⟩
theorem op_repT1 {X : Cx} : OpR X (binaryOp .Mult) (fun x y H Q => ∃ l k xs, x = .ref l ∧ y = .int k ∧ SqT X.K H l xs ∧ xs ≠ [] ∧ 1 ≤ k ∧ k ≤ 1000 ∧ xs.length ≤ 1000 ∧ (k = 1 → Q (.ref l) H) ∧ ∀ p, H p = none → Q (.ref p) (upd H p (.tup (List.replicate k.toNat xs).flatten))) := by
  intro pins s σ H x y v u Q I rx ry h
  obtain ⟨l, k, xs, rfl, rfl, hT, hne, h1, h2, hz, q1, q2⟩ := h
  by_cases e : k = 1
  · subst e
    cases rx
    obtain ⟨t, rfl⟩ := ry
    obtain ⟨its, r, ⟨⟨cls, dd, data, sl⟩, ho, hc, n, hd⟩, hs⟩ := I.tuple hT
    simp only at hc hd
    subst hc hd
    exact wpAny_binaryOp_repeat_ref (T := "tuple") (U := "int") (by decide) ⟨_, ho, rfl⟩ (fun s' => typeIs_int s' 1 t) noFill_tuple_mul F.fills_int_mul F.slot_int_rmul repeat_tuple F.slot_int_index.lookup
      (call_meets F.slot_int_rmul (typeIs_int s 1 t) F.entry_int_rmul (F.args_int_rmul_2 _ _) (int_rmul_tuple 1 t l its.toArray n dd sl)
        ⟨ho, rfl, ⟨_, ho, rfl⟩, call_meets F.slot_tuple_mul ⟨_, ho, rfl⟩ F.entry_tuple_mul (F.args_tuple_mul_2 _ _) (tuple_mul1 l its.toArray n dd sl t) ⟨ho, ⟨.ref l, H, I, rfl, q1 rfl⟩⟩⟩)
  · exact op_repT pins s σ H (.ref l) (.int k) v u Q I rx ry ⟨l, k, xs, rfl, rfl, hT, hne, by omega, h2, hz, q2⟩
end My
/-! ### tuple * 0 -/
namespace My
open PySem PySem.Spec PyProof.Rows L2
theorem tuple_mul0 (l : Addr) (items : Array Value) (n : Nat) (dd : Option Addr) (sl : Array (Option Value)) (u : Tok) (c1 : (items.isEmpty || (0 : Int) == 1) = false) :
    Meets (Builtin.«tuple.__mul__» ⟨[.ref l, .int 0 u], []⟩) (fun _ R s => s.heap.get? l = some { cls := .type "tuple", dict := dd, data := .seq items n, slots := sl } ∧
      R (.ok (.ret (Value.ref s.heap.objs.size))) { s with heap := s.heap.push { cls := Value.type "tuple", data := Data.seq #[] }, toks := s.toks }) :=
  .of_wp fun prog w A R s h => by
    obtain ⟨hp, g, d, tk, os⟩ := s
    obtain ⟨hl, h⟩ := h
    have f1 := AutoSeq1.idx_int
    wp_walk using wpAny_loadPart' hl
    repeat (first
      | (refine wpAny_ite_false (decide_eq_false (by rw [c1]; exact Bool.false_ne_true)) ?_; wp_walk using wpAny_loadPart' hl))
    exact ⟨_, rfl, h⟩
def rRepTa (K : PySem.W.Frag) : R2 := fun x y H Q => ∃ l k xs, x = .ref l ∧ y = .int k ∧ SqT K H l xs ∧ xs ≠ [] ∧ 0 ≤ k ∧ k ≤ 1000 ∧ xs.length ≤ 1000 ∧ (k = 1 → Q (.ref l) H) ∧ ∀ p, H p = none → Q (.ref p) (upd H p (.tup (List.replicate k.toNat xs).flatten))
theorem op_repTa {X : Cx} : OpR X (binaryOp .Mult) (rRepTa X.K) := by
  intro pins s σ H x y v u Q I rx ry h
  obtain ⟨l, k, xs, rfl, rfl, hT, hne, h1, h2, hz, q1, q2⟩ := h
  by_cases e : k = 0
  · subst e
    cases rx
    obtain ⟨t, rfl⟩ := ry
    obtain ⟨its, r, ⟨⟨cls, dd, data, sl⟩, ho, hc, n, hd⟩, hs⟩ := I.tuple hT
    simp only at hc hd
    subst hc hd
    have hi : (its.toArray.isEmpty || (0 : Int) == 1) = false := by
      cases its with
      | nil =>
        cases r
        exact absurd rfl hne
      | cons a b => rfl
    exact wpAny_binaryOp_repeat_ref (T := "tuple") (U := "int") (by decide) ⟨_, ho, rfl⟩ (fun s' => typeIs_int s' 0 t) noFill_tuple_mul F.fills_int_mul F.slot_int_rmul repeat_tuple F.slot_int_index.lookup
      (call_meets F.slot_int_rmul (typeIs_int s 0 t) F.entry_int_rmul (F.args_int_rmul_2 _ _) (int_rmul_tuple 0 t l its.toArray n dd sl)
        ⟨ho, rfl, ⟨_, ho, rfl⟩, call_meets F.slot_tuple_mul ⟨_, ho, rfl⟩ F.entry_tuple_mul (F.args_tuple_mul_2 _ _) (tuple_mul0 l its.toArray n dd sl t hi) ⟨ho, ⟨.ref s.heap.objs.size, _, I.laid (t' := s.toks) (o := .tup []) (fun b ob q => Heap.get?_push_of_some _ q) (Nat.le_refl _) ⟨Nat.zero_le _, [], .nil, IsTup.new _ _⟩, rfl, q2 _ (I.hok.fresh (Nat.le_refl _))⟩⟩⟩)
  · exact op_repT1 pins s σ H (.ref l) (.int k) v u Q I rx ry ⟨l, k, xs, rfl, rfl, hT, hne, by omega, h2, hz, q1, q2⟩
theorem rep_any {K : PySem.W.Frag} {l : Addr} {x : V} {k : Int} {H : Hp} {Q : VK} (hl : H l = some (.tup [x])) (k0 : 0 ≤ k) (k1 : k ≤ 1000) (q : ∀ r H', Same H H' → H' r = some (.tup (List.replicate k.toNat x)) → Q (.ref r) H') : rRepTa K (.ref l) (.int k) H Q := by
  have e : (List.replicate k.toNat [x]).flatten = List.replicate k.toNat x := by simp
  refine ⟨l, k, [x], rfl, rfl, SqT.of hl, by simp, k0, k1, by simp, fun h => ?_, fun p hp => ?_⟩
  · subst h
    exact q l H (Same.refl H) hl
  · rw [e]
    exact q p _ (same_upd hp) upd_same
theorem rep_anyC {K : PySem.W.Frag} {σ : L2.St} {l : Addr} {x : V} {k : Int} {H : Hp} {Q : VK} (hl : H l = some (.tup [x])) (k0 : 0 ≤ k) (k1 : k ≤ 1000) (q : ∀ r H', Same H H' → H' r = some (.tup (List.replicate k.toNat x)) → Q (.ref r) H') : tC (.int k) σ H (fun y H2 => rRepTa K (.ref l) y H2 Q) := rep_any hl k0 k1 q
end My
/-! ### an error that is caught is kept: try: .. except X as n: m = n -/
namespace My
open PySem PySem.Spec PyProof.Rows L2
/-- an error of the class at C stands at a -/
def IsErr (C a : Addr) (h : Heap) : Prop := ∃ (oe : Obj) (vs : Array Value), h.get? a = some oe ∧ Zc (.ref C) none oe ∧ oe.data = .fields vs
def ErrV (C a : Addr) : HO := .ext (IsErr C a)
theorem err_ok {P : Program} {w : World} {H : Hp} {h : Heap} {C a : Addr} (e : IsErr C a h) : ObjOk P w H h a (ErrV C a) := by
  obtain ⟨oe, vs, e1, e2, e3⟩ := id e
  exact ⟨e, ⟨oe, e1⟩, fun _ _ ⟨o, v, q, r⟩ k => ⟨o, v, k o q, r⟩⟩
section
variable {X : Cx} {pins : List (Addr × Obj)} {σ : L2.St} {H : Hp} {s : Shared}
/-- what stands there anyway, and is tracked by nothing, may be tracked -/
theorem inv_track (I : Inv X pins σ H s) {a : Addr} {o : HO} {oe : Obj} {vs : Array Value} (n0 : X.s_0.heap.get? a = none) (ha : s.heap.get? a = some oe) (hd : oe.data = .fields vs) (na : H a = none)
    (nL : a ≠ X.env.locals) (np : ∀ p ∈ X.pn ++ pins, p.1 ≠ a) (new : ObjOk X.prog X.w (upd H a o) s.heap a o) : Inv X pins σ (upd H a o) s where
  ok := I.ok
  os := I.os
  bare := I.bare
  base := by
    have ne : ∀ b u, X.s_0.heap.get? b = some u → b ≠ a := fun b u e z => by
      rw [z, n0] at e
      cases e
    exact {
      keep := I.base.keep, slot := I.base.slot, there := I.base.there,
      free := fun b u e n x => by rw [upd_ne (ne b u e)]; exact I.base.free b u e n x,
      tups := fun b xs e => (by have q := I.base.tups b xs e; rw [upd_ne (ne_of_none q na)]; exact q),
      frzs := fun b u x e => (by have q := I.base.frzs b u x e; rw [upd_ne (ne_of_none q na)]; exact q),
      tbls := fun b ps e => (by obtain ⟨m, q⟩ := I.base.tbls b ps e; exact ⟨m, by rw [upd_ne (ne_of_none q na)]; exact q⟩) }
  loc := I.loc
  cell := I.cell
  free := by rw [upd_ne nL.symm]; exact I.free
  freeC := fun x c e => by
    have ne : c ≠ a := fun z => by
      obtain ⟨v, oc, hc, hv⟩ := I.cell x c e
      rw [z, ha] at hc
      cases hc
      rw [hd] at hv
      cases hv
    rw [upd_ne ne]
    exact I.freeC x c e
  pin := fun p hp => by
    obtain ⟨p1, p2, p3, p4, p5⟩ := I.pin p hp
    exact ⟨p1, by rw [upd_ne (np p hp)]; exact p2, p3, p4, p5⟩
  hok := I.hok.laidN (fun _ _ e => e) na new
  len := I.len
end
/-- the wish: the class is the clause's, what the suite does with it, and the error is tracked behind -/
def wKeep (K : PySem.W.Frag) (c : Value) (i : Nat) (ts : TS) (D : Ends) : WX := fun cls d σ H =>
  PySem.W.exmOne K cls c = some true ∧ d = none ∧ ∃ C, cls = .ref C ∧ ∀ a, H a = none → ts { nx := fun σ' H' => H' a = none → D.nx (σ'.set i none) (upd H' a (ErrV C a)), rt := fun _ _ => False } (σ.set i (some (.ref a))) H
section
variable {X : Cx} {x n : Str} {c : Value} {i : Nat} {body suite : List Stmt} {b₀ : Stmt} {np pos pos' : Pos} {tb : WX → TS} {ts : TS}
theorem ps_try_keep (hs : X.stack = X.env :: X.outer) (hf : X.env.frame = some X.env.locals) (hex : X.ex = []) (hN : X.N.Nodup) (hi : X.N[i]? = some n) (hln : X.env.kindOf n = some .local) (hc : Names X x c)
    (hb : ∀ (W : WX) (pl : List (Addr × Obj)) (ex : Value → Shared → Prop), Takes (X.tr pl ex) W → PassesOwn (model X.prog X.w) X.A X.env ex → PSs (X.tr pl ex) body (tb W))
    (hsu : ∀ (a : Addr) (oe : Obj) (pl : List (Addr × Obj)), PSs (X.suite a ((a, oe) :: pl)) (b₀ :: suite) ts) :
    PS X (.Try body [.ExceptHandler (some (.Name x np)) (some n) (b₀ :: suite) pos'] [] [] pos) (fun D σ H => tb (wKeep X.K c i ts D) D σ H) := by
  constructor
  intro pins s σ H D I h
  have okX := I.ok
  have frames : X.A.frames = some (X.env :: X.outer) := okX.frames.trans (congrArg some hs)
  refine wpAny_Try_except ?_
  refine wpAny_mono ((hb (wKeep X.K c i ts D) (X.pn ++ pins)
    (fun e s₁ => wpAny (model X.prog X.w) X.A (noteFrame e X.env) (fun _ s₂ => wpAny (model X.prog X.w) X.A (setFlight e none) (fun _ s₃ =>
      wpAny (model X.prog X.w) X.A (handleBy e X.env [.ExceptHandler (some (.Name x np)) (some n) (b₀ :: suite) pos']) (SP X pins D) X.xe s₃) X.xe s₂) X.xe s₁)
    (fun u s2 air => ?caught) PassesOwn.looking).run [] s σ H D (I.toTry _) h) (fun f s1 ends => ?through) (fun e s1 he => he)
  case caught =>
    obtain ⟨a, B, sI, pins2, σ2, H2, cls, d, rfl, I2, under, upto, sky, freeA, osE, bareG, match1, dn, C, rfl, go⟩ := air
    subst dn
    have J := I2.ofTry okX
    rw [hs] at sky
    show wpAny (model X.prog X.w) X.A (noteFrame (.ref a) X.env) _ _ _
    refine Sky.land Zc.steady frames hf sky fun h3 fly3 upto3 => ?_
    obtain ⟨oe3, vs3, at3, cls3, data3⟩ := fly3.there
    have noFrame : ∀ {hh : Heap} {oo : Obj} {vv : Array Value}, hh.FunFrames B (X.env :: X.outer) → hh.get? a = some oo → oo.data = .fields vv → a ∉ frs (X.env :: X.outer) := by
      intro hh oo vv ff e1 e2 mem
      obtain ⟨_, o2, e3, bad⟩ := ff.mem mem
      rw [e1] at e3
      cases e3
      exact bad _ e2
    have nfr := noFrame fly3.2.2.1 at3 data3
    have nL : a ≠ X.env.locals := by
      intro z
      refine nfr (List.mem_filterMap.mpr ⟨X.env, List.mem_cons_self, ?_⟩)
      rw [hf, z]
    have nF : a ∉ X.fs := by
      intro mem
      obtain ⟨e, he, q⟩ := List.mem_filterMap.mp mem
      exact nfr (List.mem_filterMap.mpr ⟨e, List.mem_cons_of_mem _ he, q⟩)
    -- it is new: it does not stand in the state without it
    have newI : sI.heap.get? a = none := by
      cases q : sI.heap.get? a with
      | none => rfl
      | some u =>
        have z := under a u q (by rw [hs]; exact nfr)
        rw [fly3.2.1] at z
        cases z
    have new0 : X.s_0.heap.get? a = none := by
      cases q : X.s_0.heap.get? a with
      | none => rfl
      | some u =>
        obtain ⟨u2, z⟩ := J.base.there a u q (by rw [hex]; exact fun z => nomatch z)
        rw [newI] at z
        cases z
    have offPins : ∀ p ∈ X.pn ++ pins, p.1 ≠ a := by
      intro p hp z
      have q := (J.pin p hp).1
      rw [z, newI] at q
      cases q
    have J3 : Inv X pins σ2 H2 { s2 with heap := h3 } := J.landed under fly3.1 (upto.trans upto3) osE bareG
    have S3 := J3.suite at3 data3 freeA nL nF
    refine wpAny_handleBy_cons (codeAny_handlers_test ?_) (fun q => by cases q)
    have typeIs : PySem.W.Looks (model X.prog X.w) h3 (typeOf (.ref a)) (.ref C) := fun A Q E st k q => wpAny_typeOf_ref (k _ _ at3) (by rw [cls3.1]; exact q)
    have looks := PySem.W.exm_one (M := model X.prog X.w) J3.kIn typeIs match1
    have nameIs : ∀ {Q : Value → Shared → Prop} {E : Value → Shared → Prop}, Q c { s2 with heap := h3 } → wpAny (model X.prog X.w) (X.A.mark (some (.ref a))) (eval (.Name x np) X.env) Q E { s2 with heap := h3 } := by
      intro Q E q
      rcases hc with ⟨g1, g2, m1 | ⟨m1, m2, m3⟩⟩
      · exact ld_glob (X := X.suite a ((a, oe3) :: (X.pn ++ pins))) S3 g1 m1 q g2
      · exact ld_blt (X := X.suite a ((a, oe3) :: (X.pn ++ pins))) S3 g1 m1 m2 q m3 g2
    refine nameIs (looks.here ?_)
    refine codeAny_handlers_suite_as ?_
    refine HandSPX.lands_againZ fly3 fun h4 fly4 upto4 => ?_
    have J4 : Inv X pins σ2 H2 { s2 with heap := h4 } := J.landed under fly4.1 ((upto.trans upto3).trans upto4) osE bareG
    obtain ⟨oe4, vs4, at4, cls4, data4⟩ := fly4.there
    have S4 := J4.suite at4 data4 freeA nL nF
    refine store_ok (X := X.suite a ((a, oe4) :: (X.pn ++ pins))) (v := .ref a) S4 hN hi (.inl hln) rfl (fun s5 S5 => ?_) (.inr hln)
    refine wpAny_mono ((hsu a oe4 (X.pn ++ pins)).run [] s5 _ H2 _ S5 (go a freeA)) (fun f s6 ends => ?_) (fun _ _ z => z.elim)
    match f, ends with
    | .ret _, ends => exact (let ⟨_, _, _, _, _, z⟩ := ends; z.elim)
    | .brk, ends => exact (let ⟨_, _, _, z⟩ := ends; z.elim)
    | .cont, ends => exact (let ⟨_, _, _, z⟩ := ends; z.elim)
    | .next, ends =>
      obtain ⟨σ6, H6, S6, q6⟩ := ends
      obtain ⟨at6, free6, _⟩ := S6.pin (a, oe4) (List.mem_append.mpr (.inl List.mem_cons_self))
      have J6 := inv_track (o := ErrV C a) (S6.unsuite okX) new0 at6 data4 free6 nL offPins (err_ok ⟨oe4, vs4, at6, cls4, data4⟩)
      exact gone_ok J6 hN hi hln fun s7 J7 => ⟨_, _, J7, q6 free6⟩
  case through =>
    match f, ends with
    | .next, ⟨σ', H', J', q⟩ => exact wpAny_execs_nil ⟨σ', H', J'.ofTry okX, q⟩
    | .brk, ⟨σ', H', J', q⟩ => exact ⟨σ', H', J'.ofTry okX, q⟩
    | .cont, ⟨σ', H', J', q⟩ => exact ⟨σ', H', J'.ofTry okX, q⟩
    | .ret u, ⟨v, σ', H', J', r, q⟩ => exact ⟨v, σ', H', J'.ofTry okX, r, q⟩
end
end My
/-! ### isinstance of an error that is tracked; a text times an int -/
namespace My
open PySem PySem.Spec PyProof.Rows L2
/-- what the classes D of errors must say: nothing of their own stands in isinstance's way -/
def errFacts (K : PySem.W.Frag) (D : Addr) : Bool :=
  (PySem.W.findIn K (.ref D) "__getattribute__" == some (some (.builtin "BaseException.__getattribute__"))) && ((PySem.W.findIn K (.ref D) "__getattr__" == some none) && ((PySem.W.subIn K (.ref D) (.type "BaseException") == some true) &&
  (PySem.W.hasDictIn K D && ((PySem.W.findIn K (.ref D) "__class__" == some (some (.builtin "object.__class__"))) && ((PySem.W.specialIn K (.builtin "object.__class__") "__get__" == some (some (.builtin "getset_descriptor.__get__"))) &&
  ((PySem.W.takesIn K (.builtin "object.__class__") == some true) && (PySem.W.mroIn K D (.type "object") == some true)))))))
theorem errFacts_to {K : PySem.W.Frag} {D : Addr} (h : errFacts K D = true) : L2.ExcC K D := by
  unfold errFacts at h
  simp only [Bool.and_eq_true, beq_iff_eq] at h
  obtain ⟨h1, h2, h3, h4, h5, h6, h7, h8⟩ := h
  exact ⟨h1, h2, h3, h4, h5, h6, h7, h8⟩
/-- what an error of the class at D needs to be raised, made, caught and asked for -/
def mkFacts (K : PySem.W.Frag) (D : Addr) : Bool :=
  PySem.W.excIn K D [.type "ValueError", .type "Exception", .type "BaseException", .type "object"] "ValueError.__new__" && (PySem.W.keepIn K (.ref D) && ((PySem.W.subIn K (.ref D) (.type "BaseException") == some true) && ((PySem.W.typeIn K (.ref D) == some (.type "type")) && errFacts K D)))
/-- it is of the class at c, or not -/
def kitB (K : PySem.W.Frag) (D : Addr) (c : Value) (b : Bool) : Bool := PySem.W.kitOne K (.ref D) c == some b
/-- a tracked thing at a is an error of the class at D -/
def ErrAt (H : Hp) (a D : Addr) : Prop := ∃ φ, H a = some (.ext φ) ∧ ∀ h, φ h → IsErr D a h
theorem ErrAt.same {H H' : Hp} {a D : Addr} (h : ErrAt H a D) (s : Same H H') : ErrAt H' a D := by
  obtain ⟨φ, e, q⟩ := h
  exact ⟨φ, s _ _ e, q⟩
theorem errV_at {H : Hp} {a D : Addr} : ErrAt (upd H a (ErrV D a)) a D := ⟨_, upd_same, fun _ h => h⟩
theorem exO_at {H : Hp} {a D : Addr} (e : H a = some (ExO (.ref D) a)) : ErrAt H a D := ⟨_, e, fun h ⟨oe, vs, h1, h2, h3, _⟩ => ⟨oe, vs, h1, h2, h3⟩⟩
section
variable {X : Cx}
def rIsErr (K : PySem.W.Frag) : List V → Hp → VK → Prop := fun xs H Q => ∃ (a D : Addr) (c : V) (u : Value) (b : Bool), xs = [.ref a, c] ∧ ErrAt H a D ∧ errFacts K D = true ∧ ClsV c u ∧ kitB K D u b = true ∧ Q (.bl b) H
theorem call_isErr : CallR X (.builtin "isinstance") (rIsErr X.K) := by
  intro pins s σ H xs us Q I r h
  obtain ⟨a, D, c, u, b, rfl, ⟨φ, ha, hφ⟩, hF, hc, hk, q⟩ := h
  have C := errFacts_to hF
  cases r with
  | cons r1 rr =>
    cases rr with
    | cons r2 r3 =>
      cases r3
      cases r1
      cases hc.eq r2
      obtain ⟨oe, vs, e1, ⟨e2, e3⟩, e4⟩ := hφ _ (I.hok a _ ha).1
      have J : PySem.W.InstAt s.heap a oe D none := by
        obtain ⟨oc, od, dt, sl⟩ := oe
        dsimp only at e2 e3 e4
        subst e2 e3 e4
        exact ⟨e1, rfl, rfl, trivial⟩
      exact PySem.W.kia_one (PySem.W.handS_kitx_exc C.hg C.hk C.hs C.hd C.ha C.hn C.ht C.hm) I.kIn J (beq_iff_eq.mp hk) (fun z => nomatch z) fun tk => ⟨.bl b, H, I.tok tk, rfl, q⟩
/-- s * n, of small ones: some text -/
theorem op_mulS : OpR X (binaryOp .Mult) (fun x y H Q => ∃ (z : Str) (n : Int), x = .str z ∧ y = .int n ∧ z.length ≤ 1000 ∧ -1000 ≤ n ∧ n ≤ 1000 ∧ ∀ t : Str, Q (.str t) H) := by
  intro pins s σ H x y v u Q I rx ry h
  obtain ⟨z, n, rfl, rfl, hz, h0, h1, q⟩ := h
  obtain ⟨t, rfl⟩ := rx
  obtain ⟨t', rfl⟩ := ry
  refine SB.mul ⟨?_, fun h2 _ => ?_, fun h2 _ => ?_⟩ fun t2 k => ⟨.str _, H, I.tok k, ⟨_, rfl⟩, q _⟩
  · rw [Bool.or_eq_false_iff]
    exact ⟨decide_eq_false (by omega), decide_eq_false (by omega)⟩
  · have h3 : (1000 : Int) ≤ (2 ^ 63 - 1) / n := (Int.le_ediv_iff_mul_le (by omega)).mpr (by omega)
    omega
  · have h4 : z.length * n.toNat ≤ 1000 * 1000 := Nat.mul_le_mul hz (by omega)
    exact decide_eq_false (by rw [sizeLine_eq]; omega)
end
end My
/-! ### the law's word for what an act raises -/
namespace My
open PySem PySem.Spec PyProof.Rows L2
theorem count_of {y : V} : ∀ {ys : List V} {us : List Value}, Vals ys us → ys.all flatV = true → us.countP (eqU y) = ys.countP (fun z => eqV z y)
  | _, _, .nil, _ => rfl
  | _, _, .cons r t, h => by
    rw [List.all_cons, Bool.and_eq_true] at h
    rw [List.countP_cons, List.countP_cons, count_of t h.2, eqU_of r h.1]
section
variable {X : Cx}
/-- xs.count(y), all flat -/
def rCountF (K : PySem.W.Frag) : V → List V → Hp → VK → Prop := fun x xs H Q => ∃ (a : Addr) (ys : List V) (y : V), x = V.ref a ∧ xs = [y] ∧ SqL K H a ys ∧ flatV y = true ∧ ys.all flatV = true ∧ Q (.int ((ys.countP fun z => eqV z y : Nat) : Int)) H
theorem mt_countF : MtR X "list.count" (rCountF X.K) := by
  intro pins s σ H x xs v us Q I rx rxs h
  obtain ⟨a, ys, y, rfl, rfl, hs, fy, fys, q⟩ := h
  cases rx
  cases rxs with
  | cons ry rt =>
    rename_i uy ut
    cases rt
    obtain ⟨its, rv, ⟨⟨cls, dd, data, sl⟩, n, ho, hc, hdn, hd⟩, hlen⟩ := I.list hs
    simp only at hc hd
    subst hc hd
    refine call_meets PySem.F.slot_list_count ⟨_, ho, rfl⟩ PySem.F.entry_list_count (PySem.F.args_list_count_2 _ _) (SeqAt.list_countAt a its.toArray n dd sl uy (eqU y)) ⟨ho, fun u hu => mem_eqAt ry fy rv fys u (by simpa using hu), ?_⟩
    refine ⟨.int ((ys.countP fun z => eqV z y : Nat) : Int), H, I.tok _, ⟨s.toks, ?_⟩, q⟩
    have ec : its.toArray.toList.countP (eqU y) = ys.countP (fun z => eqV z y) := count_of rv fys
    show Value.int ((its.toArray.toList.countP (eqU y) : Nat) : Int) s.toks = Value.int ((ys.countP (fun z => eqV z y) : Nat) : Int) s.toks
    rw [ec]
end
abbrev sWord : Stmt := topS 68
theorem scWord : FnScope ["act", "caught", "e", "some", "words"] ["act"] (defScope sWord) := ⟨rfl, rfl, rfl, by decide +kernel, rfl, by decide +kernel, by decide +kernel⟩
def kitW (K : PySem.W.Frag) (cs : List Addr) : Bool := (List.range 12).all fun i => (List.range 12).all fun j => kitB K (cs.getD i 0) (.ref (cs.getD j 0)) (decide (i = j))
def upW (K : PySem.W.Frag) (cs : List Addr) (CL : Addr) : Bool := (List.range 12).all fun i => mkFacts K (cs.getD i 0) && (kitB K (cs.getD i 0) (.type "ValueError") true && (PySem.W.exmOne K (.ref (cs.getD i 0)) (.ref CL) == some true))
structure WordTxt (K : PySem.W.Frag) (mg : Str → Option Value) (C0 C1 C2 C3 C4 C5 C6 C7 C8 C9 C10 C11 CL : Addr) : Prop where
  isi : mg "isinstance" = none
  ve : mg "ValueError" = none
  later : mg "LaterError" = some (.ref CL)
  c0 : mg "NoMachine" = some (.ref C0)
  c1 : mg "NoPlain" = some (.ref C1)
  c2 : mg "NoLetters" = some (.ref C2)
  c3 : mg "NoRule" = some (.ref C3)
  c4 : mg "NoRow" = some (.ref C4)
  c5 : mg "NoWord" = some (.ref C5)
  c6 : mg "NoNumber" = some (.ref C6)
  c7 : mg "NoDivisor" = some (.ref C7)
  c8 : mg "NoMatch" = some (.ref C8)
  c9 : mg "TooGreat" = some (.ref C9)
  c10 : mg "NoLimit" = some (.ref C10)
  c11 : mg "HasRow" = some (.ref C11)
  all : kitW K [C0, C1, C2, C3, C4, C5, C6, C7, C8, C9, C10, C11] = true
  up : upW K [C0, C1, C2, C3, C4, C5, C6, C7, C8, C9, C10, C11] CL = true
theorem kitW_of {K : PySem.W.Frag} {cs : List Addr} (h : kitW K cs = true) {i : Nat} (hi : i < 12) (j : Nat) (hj : j < 12) : kitB K (cs.getD i 0) (.ref (cs.getD j 0)) (decide (i = j)) = true := by
  unfold kitW at h
  simp only [List.all_eq_true, List.mem_range] at h
  exact h i hi j hj
theorem upW_of {K : PySem.W.Frag} {cs : List Addr} {CL : Addr} (h : upW K cs CL = true) {i : Nat} (hi : i < 12) : mkFacts K (cs.getD i 0) = true ∧ kitB K (cs.getD i 0) (.type "ValueError") true = true ∧ PySem.W.exmOne K (.ref (cs.getD i 0)) (.ref CL) = some true := by
  unfold upW at h
  simp only [List.all_eq_true, List.mem_range, Bool.and_eq_true, beq_iff_eq] at h
  exact h i hi
theorem err_of {K : PySem.W.Frag} {D : Addr} (h : mkFacts K D = true) : errFacts K D = true := by
  unfold mkFacts at h
  simp only [Bool.and_eq_true] at h
  exact h.2.2.2.2
/-- which of the classes it is -/
def mark (i n : Nat) : List Bool := (List.range n).map fun j => decide (i = j)
def theWords : List Str := ["machine", "plain", "letters", "rule", "row", "word", "number", "divisor", "match", "great", "limit", "has"]
/-- the word for the i-th class -/
def wordOf (i : Nat) : Str := theWords.getD i "odd"
theorem word_at {i : Nat} (h : i < 12) : (theWords.map V.str)[i]? = some (.str (wordOf i)) := by
  have h2 : i < theWords.length := h
  rw [List.getElem?_map, List.getElem?_eq_getElem h2]
  unfold wordOf
  rw [List.getD_eq_getElem?_getD, List.getElem?_eq_getElem h2]
  rfl
theorem mark_count : ∀ i, i < 12 → ((mark i 12).map V.bl).countP (fun z => eqV z (.bl true)) = 1 := by decide
theorem mark_flat : ∀ i, i < 12 → ((mark i 12).map V.bl).all flatV = true := by decide
theorem mark_at {i : Nat} (h : i < 12) : ((mark i 12).map V.bl)[i]? = some (.bl true) := by
  unfold mark
  rw [List.getElem?_map, List.getElem?_map, List.getElem?_range h]
  simp
theorem mark_not {i m : Nat} (h : i < 12) (hm : m < i) (z : V) (hz : ((mark i 12).map V.bl)[m]? = some z) : eqV z (.bl true) = false := by
  unfold mark at hz
  rw [List.getElem?_map, List.getElem?_map, List.getElem?_range (by omega)] at hz
  obtain rfl := Option.some.inj hz
  show eqV (V.bl (decide (i = m))) (.bl true) = false
  rw [decide_eq_false (show ¬ i = m by omega)]
  rfl
/-- what the law's word makes of an act's reading -/
def TTword (cs : List Addr) : (XK → Hp → VK → Prop) → Hp → VK → Prop := fun tl H Q =>
  tl (fun cls d H' => ∃ i, i < 12 ∧ cls = .ref (cs.getD i 0) ∧ d = none ∧ ∀ H'' : Hp, Same H' H'' → Q (.str (wordOf i)) H'') H (fun _ H' => ∀ H'' : Hp, Same H' H'' → Q (.str "fine") H'')
theorem takes_len {X : Cx} {W : WX} (tk : Takes X W) : Takes X (fun c d σ H => σ.length = X.N.length → W c d σ H) := by
  rintro u s' ⟨a, B, sI, pins, σ, H, cls, d, e, I, nb, up, sky, na, os, ag, w⟩
  exact tk u s' ⟨a, B, sI, pins, σ, H, cls, d, e, I, nb, up, sky, na, os, ag, w I.len⟩
/-- behind the act: an error is caught, or nothing is raised -/
def wordMid (cs : List Addr) (Q : VK) (σ : L2.St) (H' : Hp) : Prop :=
  (∃ (x0 x3 x4 : Option V) (a : Addr) (i : Nat), σ = [x0, some (.ref a), none, x3, x4] ∧ i < 12 ∧ ErrAt H' a (cs.getD i 0) ∧ ∀ H'' : Hp, Same H' H'' → Q (.str (wordOf i)) H'') ∨
  ((∃ (x0 x2 x3 x4 : Option V), σ = [x0, some .non, x2, x3, x4]) ∧ ∀ H'' : Hp, Same H' H'' → Q (.str "fine") H'')
section
variable {X : Cx} {C0 C1 C2 C3 C4 C5 C6 C7 C8 C9 C10 C11 CL : Addr}
theorem word_gives {q : Str} {g : Addr} {cdg : Value} (T : WordTxt X.K X.mg C0 C1 C2 C3 C4 C5 C6 C7 C8 C9 C10 C11 CL) : LamX.GivesTo X ["act", "caught", "e", "some", "words"] "_law_x_word" (defScope sWord) g cdg (defBody sWord) "act" q (TTword [C0, C1, C2, C3, C4, C5, C6, C7, C8, C9, C10, C11]) := by
  intro f c' s H Q tl act hc h
  refine ⟨_, (pss_cons (ps_set (i := 1) scWord.nd rfl (.inl rfl) pe_non)
 (Evl.pss_cut (ps_try_keep (i := 2) (tb := fun W D σ H => ∃ Ech : XK, (∀ cls d σ' H', Ech cls d H' → σ'.length = 5 → W cls d σ' H') ∧ σ[0]? = some (some (.ref f)) ∧ H c' = some (LamX.CodeO c' q) ∧ tl Ech H (fun _ H1 => D.nx σ H1)) rfl rfl rfl scWord.nd rfl rfl ⟨rfl, by decide, .inl T.later⟩
      (fun W pl ex tk _ => ⟨fun pins s1 σ1 H1 D1 I1 h1 => (let ⟨Ech, hW, z1, z2, z3⟩ := h1; (pss_one (ps_expr (act _ pl ex Ech _ _ (takes_len tk) hW))).run pins s1 σ1 H1 D1 I1 ⟨z1, z2, z3⟩)⟩)
      (fun a oe pl => (pss_one (ps_set (i := 1) scWord.nd rfl (.inl rfl) (pv 2)))))
 (Evl.pss_cut (ps_if (pt_cmpR op_isN (pv 1) pe_non (nomark _)) (pss_one (ps_ret pe_str)) pss_nil)
 (Evl.pss_cut (ps_set (i := 3) scWord.nd rfl (.inl rfl) (pe_lst (pa_cons (pe_callB call_isErr (by rfl) T.isi (by decide +kernel) (pa_cons (pv 1) (pa_cons (pe_glob (v := .ref C0) (by rfl) T.c0 rfl) pa_nil))) (pa_cons (pe_callB call_isErr (by rfl) T.isi (by decide +kernel) (pa_cons (pv 1) (pa_cons (pe_glob (v := .ref C1) (by rfl) T.c1 rfl) pa_nil))) (pa_cons (pe_callB call_isErr (by rfl) T.isi (by decide +kernel) (pa_cons (pv 1) (pa_cons (pe_glob (v := .ref C2) (by rfl) T.c2 rfl) pa_nil))) pa_nil)))))
 (Evl.pss_cut (ps_set (i := 3) scWord.nd rfl (.inl rfl) (pe_op op_cat (pv 3) (pe_lst (pa_cons (pe_callB call_isErr (by rfl) T.isi (by decide +kernel) (pa_cons (pv 1) (pa_cons (pe_glob (v := .ref C3) (by rfl) T.c3 rfl) pa_nil))) (pa_cons (pe_callB call_isErr (by rfl) T.isi (by decide +kernel) (pa_cons (pv 1) (pa_cons (pe_glob (v := .ref C4) (by rfl) T.c4 rfl) pa_nil))) (pa_cons (pe_callB call_isErr (by rfl) T.isi (by decide +kernel) (pa_cons (pv 1) (pa_cons (pe_glob (v := .ref C5) (by rfl) T.c5 rfl) pa_nil))) pa_nil))))))
 (Evl.pss_cut (ps_set (i := 3) scWord.nd rfl (.inl rfl) (pe_op op_cat (pv 3) (pe_lst (pa_cons (pe_callB call_isErr (by rfl) T.isi (by decide +kernel) (pa_cons (pv 1) (pa_cons (pe_glob (v := .ref C6) (by rfl) T.c6 rfl) pa_nil))) (pa_cons (pe_callB call_isErr (by rfl) T.isi (by decide +kernel) (pa_cons (pv 1) (pa_cons (pe_glob (v := .ref C7) (by rfl) T.c7 rfl) pa_nil))) (pa_cons (pe_callB call_isErr (by rfl) T.isi (by decide +kernel) (pa_cons (pv 1) (pa_cons (pe_glob (v := .ref C8) (by rfl) T.c8 rfl) pa_nil))) pa_nil))))))
 (Evl.pss_cut (ps_set (i := 3) scWord.nd rfl (.inl rfl) (pe_op op_cat (pv 3) (pe_lst (pa_cons (pe_callB call_isErr (by rfl) T.isi (by decide +kernel) (pa_cons (pv 1) (pa_cons (pe_glob (v := .ref C9) (by rfl) T.c9 rfl) pa_nil))) (pa_cons (pe_callB call_isErr (by rfl) T.isi (by decide +kernel) (pa_cons (pv 1) (pa_cons (pe_glob (v := .ref C10) (by rfl) T.c10 rfl) pa_nil))) (pa_cons (pe_callB call_isErr (by rfl) T.isi (by decide +kernel) (pa_cons (pv 1) (pa_cons (pe_glob (v := .ref C11) (by rfl) T.c11 rfl) pa_nil))) pa_nil))))))
 (Evl.pss_cut (ps_set (i := 4) scWord.nd rfl (.inl rfl) (pe_lst (pa_cons pe_str (pa_cons pe_str (pa_cons pe_str (pa_cons pe_str (pa_cons pe_str (pa_cons pe_str (pa_cons pe_str (pa_cons pe_str (pa_cons pe_str (pa_cons pe_str (pa_cons pe_str pa_nil)))))))))))))
 (pss_cons (ps_expr (pe_bm PySem.F.plainAttrs_list PySem.F.slot_list_append PySem.F.type_list_append mt_append (pv 4) (pa_cons pe_str pa_nil)))
 (pss_one (ps_ret (pe_ifExp (PW.pt (pw_and (pt_cmpR op_eq (pe_bm PySem.F.plainAttrs_list PySem.F.slot_list_count PySem.F.type_list_count mt_countF (pv 3) (pa_cons pe_bl pa_nil)) pe_int (nomark _)) (pw_and1 (pt_val (pe_callB call_isErr (by rfl) T.isi (by decide +kernel) (pa_cons (pv 1) (pa_cons (pe_bltn (v := .ty "ValueError") (by rfl) T.ve (by decide +kernel) rfl) pa_nil))))))) (pe_ix ix_list (pv 4) (pe_bm PySem.F.plainAttrs_list PySem.F.slot_list_index PySem.F.type_list_index mt_index (pv 3) (pa_cons pe_bl pa_nil)) (fun _ _ => rfl)) pe_str)))))))))))), ?_⟩
  have nonIs : V.bl (decide (V.non = V.non)) = V.bl true := congrArg V.bl (decide_eq_true rfl)
  refine ⟨wordMid [C0, C1, C2, C3, C4, C5, C6, C7, C8, C9, C10, C11] Q, ?_, ?_⟩
  · refine ⟨fun cls d H' => ∃ i, i < 12 ∧ cls = .ref ([C0, C1, C2, C3, C4, C5, C6, C7, C8, C9, C10, C11].getD i 0) ∧ d = none ∧ ∀ H'' : Hp, Same H' H'' → Q (.str (wordOf i)) H'', ?_, rfl, hc, ?_⟩
    · rintro cls d σ' H' ⟨i, hi, rfl, rfl, k⟩ hlen
      obtain ⟨x0, x1, x2, x3, x4, rfl⟩ : ∃ x0 x1 x2 x3 x4, σ' = [x0, x1, x2, x3, x4] := by
        match σ', hlen with
        | [x0, x1, x2, x3, x4], _ => exact ⟨x0, x1, x2, x3, x4, rfl⟩
      refine ⟨(upW_of T.up hi).2.2, rfl, _, rfl, fun a ha => ⟨_, rfl, fun ha2 => ?_⟩⟩
      exact .inl ⟨x0, x3, x4, a, i, rfl, hi, errV_at, fun H'' s2 => k H'' ((same_upd ha).trans s2)⟩
    · have e : (fun (_ : V) (H1 : Hp) => wordMid [C0, C1, C2, C3, C4, C5, C6, C7, C8, C9, C10, C11] Q [some (.ref f), some .non, none, none, none] H1) = fun _ H1 => ∀ H'' : Hp, Same H1 H'' → Q (.str "fine") H'' := by
        funext _ H1
        refine propext ⟨fun z => ?_, fun z => .inr ⟨⟨_, _, _, _, rfl⟩, z⟩⟩
        rcases z with ⟨_, _, _, _, _, e, _⟩ | ⟨_, z⟩
        · simp at e
        · exact z
      show tl _ H (fun (_ : V) (H1 : Hp) => wordMid [C0, C1, C2, C3, C4, C5, C6, C7, C8, C9, C10, C11] Q [some (.ref f), some .non, none, none, none] H1)
      rw [e]
      exact h
  rintro σ H1 (⟨x0, x3, x4, a, i, rfl, hi, hE, k⟩ | ⟨⟨x0, x2, x3, x4, rfl⟩, k⟩)
  · have hF := err_of (upW_of T.up hi).1
    have hV := (upW_of T.up hi).2.1
    have hk := kitW_of T.all hi
    refine ⟨fun σ H' => σ = [x0, some (.ref a), none, x3, x4] ∧ H' = H1, ?_, ?_⟩
    · exact ⟨_, rfl, rfl, false, congrArg V.bl (decide_eq_false (by intro z; cases z)), iteF ⟨rfl, rfl⟩⟩
    rintro σ H1 ⟨rfl, rfl⟩
    refine ⟨fun σ H' => ∃ p, σ = [x0, some (.ref a), none, some (.ref p), x4] ∧ Same H1 H' ∧ H1 p = none ∧ H' p = some (.lst ((mark i 3).map V.bl)), ?_, ?_⟩
    · have hE' := hE
      exact ⟨_, rfl, a, _, _, _, _, rfl, hE', hF, .own _, hk 0 (by decide), _, rfl, a, _, _, _, _, rfl, hE', hF, .own _, hk 1 (by decide), _, rfl, a, _, _, _, _, rfl, hE', hF, .own _, hk 2 (by decide), (by show 3 ≤ sizeLine; decide), fun p hp => ⟨p, rfl, same_upd hp, hp, upd_same⟩⟩
    rintro σ H2 ⟨p, rfl, s0, hp0, hp⟩
    refine ⟨fun σ H' => ∃ p, σ = [x0, some (.ref a), none, some (.ref p), x4] ∧ Same H1 H' ∧ H1 p = none ∧ H' p = some (.lst ((mark i 6).map V.bl)), ?_, ?_⟩
    · have hE' := hE.same s0
      refine ⟨_, rfl, _, rfl, a, _, _, _, _, rfl, hE', hF, .own _, hk 3 (by decide), _, rfl, a, _, _, _, _, rfl, hE', hF, .own _, hk 4 (by decide), _, rfl, a, _, _, _, _, rfl, hE', hF, .own _, hk 5 (by decide), (by show 3 ≤ sizeLine; decide), fun q2 hq2 => ?_⟩
      refine ⟨p, q2, _, _, rfl, rfl, same_upd hq2 _ _ hp, upd_same, (by show 6 ≤ sizeLine; decide), fun r hr2 => ⟨r, rfl, (s0.trans (same_upd hq2)).trans (same_upd hr2), (s0.trans (same_upd hq2)).free hr2, upd_same⟩⟩
    rintro σ H2 ⟨p, rfl, s0, hp0, hp⟩
    refine ⟨fun σ H' => ∃ p, σ = [x0, some (.ref a), none, some (.ref p), x4] ∧ Same H1 H' ∧ H1 p = none ∧ H' p = some (.lst ((mark i 9).map V.bl)), ?_, ?_⟩
    · have hE' := hE.same s0
      refine ⟨_, rfl, _, rfl, a, _, _, _, _, rfl, hE', hF, .own _, hk 6 (by decide), _, rfl, a, _, _, _, _, rfl, hE', hF, .own _, hk 7 (by decide), _, rfl, a, _, _, _, _, rfl, hE', hF, .own _, hk 8 (by decide), (by show 3 ≤ sizeLine; decide), fun q2 hq2 => ?_⟩
      refine ⟨p, q2, _, _, rfl, rfl, same_upd hq2 _ _ hp, upd_same, (by show 9 ≤ sizeLine; decide), fun r hr2 => ⟨r, rfl, (s0.trans (same_upd hq2)).trans (same_upd hr2), (s0.trans (same_upd hq2)).free hr2, upd_same⟩⟩
    rintro σ H2 ⟨p, rfl, s0, hp0, hp⟩
    refine ⟨fun σ H' => ∃ p, σ = [x0, some (.ref a), none, some (.ref p), x4] ∧ Same H1 H' ∧ H1 p = none ∧ H' p = some (.lst ((mark i 12).map V.bl)), ?_, ?_⟩
    · have hE' := hE.same s0
      refine ⟨_, rfl, _, rfl, a, _, _, _, _, rfl, hE', hF, .own _, hk 9 (by decide), _, rfl, a, _, _, _, _, rfl, hE', hF, .own _, hk 10 (by decide), _, rfl, a, _, _, _, _, rfl, hE', hF, .own _, hk 11 (by decide), (by show 3 ≤ sizeLine; decide), fun q2 hq2 => ?_⟩
      refine ⟨p, q2, _, _, rfl, rfl, same_upd hq2 _ _ hp, upd_same, (by show 12 ≤ sizeLine; decide), fun r hr2 => ⟨r, rfl, (s0.trans (same_upd hq2)).trans (same_upd hr2), (s0.trans (same_upd hq2)).free hr2, upd_same⟩⟩
    rintro σ H2 ⟨p, rfl, s0, hp0, hp⟩
    -- the words
    refine ⟨fun σ H' => ∃ l, σ = [x0, some (.ref a), none, some (.ref p), some (.ref l)] ∧ Same H2 H' ∧ H2 l = none ∧ H' l = some (.lst ((theWords.take 11).map V.str)), ?_, ?_⟩
    · exact ⟨(by show 11 ≤ sizeLine; decide), fun l hl => ⟨l, rfl, same_upd hl, hl, upd_same⟩⟩
    rintro σ H3 ⟨l, rfl, s3, hl0, hl⟩
    have npl : p ≠ l := ne_of_none hp hl0
    have hp3 := s3 _ _ hp
    refine ⟨_, rfl, .inl ⟨rfl, _, SqL.of hl⟩, l, _, _, rfl, rfl, hl, (by show 11 < sizeLine; decide), ?_⟩
    have s4 : Same H1 (upd H3 l (.lst ((theWords.take 11).map V.str ++ [.str "has"]))) := fun b o e => by
      have nb : b ≠ l := ne_of_none (s0 _ _ e) hl0
      rw [upd_ne nb]
      exact s3 _ _ (s0 _ _ e)
    have hp4 : (upd H3 l (.lst ((theWords.take 11).map V.str ++ [.str "has"]))) p = some (.lst ((mark i 12).map V.bl)) := by
      rw [upd_ne npl]
      exact hp3
    have hE' := hE.same s4
    refine ⟨_, rfl, .inl ⟨rfl, _, SqL.of hp4⟩, p, _, .bl true, rfl, rfl, SqL.of hp4, rfl, mark_flat i hi, rfl, true, congrArg V.bl (decide_eq_true (by rw [mark_count i hi]; rfl)), iteT ?_⟩
    refine ⟨_, rfl, a, _, _, _, _, rfl, hE', hF, .ty _, hV, _, rfl, iteT ?_⟩
    refine ⟨_, rfl, _, rfl, .inl ⟨rfl, _, SqL.of hp4⟩, p, _, .bl true, i, .bl true, rfl, rfl, SqL.of hp4, rfl, mark_flat i hi, mark_at hi, rfl, fun m z hm hz => mark_not hi hm z hz, ?_⟩
    exact ⟨l, theWords.map V.str, (i : Int), .str (wordOf i), rfl, rfl, SqL.of upd_same, atI_nat (word_at hi), k _ s4⟩
  · refine ⟨fun _ _ => False, ?_, fun _ _ z => z.elim⟩
    exact ⟨_, rfl, rfl, true, nonIs, iteT (k H1 (Same.refl H1))⟩
end
end My
/-! ### repr of data, {} among it -/
namespace My
open PySem PySem.Spec PyProof.Rows L2
mutual
/-- no list at any depth -/
def noList : PyData → Bool
  | .list _ => false
  | .tuple xs => noLists xs
  | _ => true
def noLists : List PyData → Bool
  | [] => true
  | x :: xs => noList x && noLists xs
end
section
variable {X : Cx} {pins : List (Addr × Obj)} {σ : L2.St} {H : Hp} {s : Shared}
mutual
theorem Rp.reads (I : Inv X pins σ H s) : ∀ (d : PyData) (v : V) (u : Value), Rp X.K H v d → RelV v u → ∃ as, Reads s.heap u d as ∧ (noList d = true → sysModules ∉ as)
  | .none, _, _, h, r => by
    cases h
    cases r
    exact ⟨_, Reads.none, fun _ z => nomatch z⟩
  | .bool b, _, _, h, r => by
    cases h
    cases r
    exact ⟨_, Reads.bool b, fun _ z => nomatch z⟩
  | .int i, _, _, h, r => by
    cases h
    obtain ⟨t, rfl⟩ := r
    exact ⟨_, Reads.int i t, fun _ z => nomatch z⟩
  | .str x, _, _, h, r => by
    cases h
    obtain ⟨t, rfl⟩ := r
    exact ⟨_, Reads.str x t, fun _ z => nomatch z⟩
  | .list ds, _, _, h, r => by
    cases h with
    | lst hs ha =>
      cases r
      obtain ⟨its, rv, ⟨o, n, ho, hc, _, hd⟩, _⟩ := I.list hs
      obtain ⟨as, hr, _⟩ := RpAll.reads I ds _ its ha rv
      exact ⟨_, Reads.list ho hc hd hr, fun z => by simp [noList] at z⟩
  | .tuple ds, _, _, h, r => by
    cases h with
    | tup hs ha =>
      cases r
      obtain ⟨its, rv, ⟨o, ho, hc, n, hd⟩, _⟩ := I.tuple hs
      obtain ⟨as, hr, no⟩ := RpAll.reads I ds _ its ha rv
      exact ⟨_, Reads.tuple ho hc hd hr, fun z => no (by simpa [noList] using z)⟩
  | .dict kvs, _, _, h, r => by
    cases h with
    | @dct a ha =>
      cases r
      obtain ⟨_, ns, vs, kv, o, es, ep, ho, ex, hd, _, hp, _⟩ := I.hok a _ ha
      cases kv
      have he : es.toList = [] := by
        cases q : es.toList with
        | nil => rfl
        | cons e l =>
          rw [q] at hp
          cases hp
      refine ⟨a :: [] ++ [], Reads.dict ho ex.1 hd (by rw [he]; exact ReadsAll.nil) (by rw [he]; exact ReadsAll.nil), fun _ z => ?_⟩
      simp at z
      rw [z] at ns
      simp at ns
theorem RpAll.reads (I : Inv X pins σ H s) : ∀ (ds : List PyData) (vs : List V) (us : List Value), RpAll X.K H vs ds → Vals vs us → ∃ as, ReadsAll s.heap us ds as ∧ (noLists ds = true → sysModules ∉ as)
  | [], _, _, h, r => by
    cases h
    cases r
    exact ⟨_, ReadsAll.nil, fun _ z => nomatch z⟩
  | d :: ds, _, _, h, r => by
    cases h with
    | cons h1 h2 =>
      cases r with
      | cons r1 r2 =>
        obtain ⟨as, q1, n1⟩ := Rp.reads I d _ _ h1 r1
        obtain ⟨bs, q2, n2⟩ := RpAll.reads I ds _ _ h2 r2
        refine ⟨_, ReadsAll.cons q1 q2, fun z hm => ?_⟩
        rw [noLists, Bool.and_eq_true] at z
        exact (List.mem_append.mp hm).elim (n1 z.1) (n2 z.2)
end
end
def rReprR (K : PySem.W.Frag) : List V → Hp → VK → Prop := fun xs H Q => ∃ x d, xs = [x] ∧ Rp K H x d ∧ (noList d = true ∨ d.hasDict = false) ∧ d.showable = true ∧ d.depth ≤ 60 ∧ d.shown.length ≤ sizeLine ∧ Q (.str d.shown) H
theorem call_reprR {X : Cx} (hgd : X.A.guards = some []) (hu : X.A.units + 64 < cLine) : CallR X (.builtin "repr") (rReprR X.K) := by
  intro pins s σ H xs us Q I r h
  obtain ⟨x, d, rfl, hd, hn, hs, hdep, hz, q⟩ := h
  cases r with
  | @cons _ u _ _ ru rn =>
    cases rn
    obtain ⟨as, hr, no⟩ := Rp.reads I d x u hd ru
    have off : d.hasDict = true → sysModules ∉ as := fun e => by
      rcases hn with h | h
      · exact no h
      · rw [h] at e
        cases e
    cases hd with
    | non =>
      obtain rfl : u = Value.none := ru
      exact PySem.P.repr_of_none ⟨.str _, H, I.tok _, ⟨_, rfl⟩, by simpa only [PyData.shown] using q⟩
    | bl b =>
      obtain rfl : u = Value.bool b := ru
      exact PySem.P.repr_of_bool ⟨.str _, H, I.tok _, ⟨_, rfl⟩, by simpa only [PyData.shown] using q⟩
    | int i =>
      obtain ⟨t, rfl⟩ := ru
      exact PySem.P.repr_of_int (by simpa [PyData.showable] using hs) ⟨.str _, H, I.tok _, ⟨_, rfl⟩, by simpa only [PyData.shown] using q⟩
    | str z _ =>
      obtain ⟨t, rfl⟩ := ru
      exact PySem.P.repr_of_str ⟨.str _, H, I.tok _, ⟨_, rfl⟩, by simpa only [PyData.shown] using q⟩ (by simpa only [PyData.shown] using hz)
    | @lst a _ ds h1 h2 =>
      obtain rfl : u = Value.ref a := ru
      exact PySem.repr_of_reads' hr hs off hgd (by omega) (fun _ _ e => e) (fun h' u tk hk => ⟨.str _, H, I.kept hk, ⟨_, rfl⟩, q⟩) hz
    | @tup a _ ds h1 h2 =>
      obtain rfl : u = Value.ref a := ru
      exact PySem.repr_of_reads' hr hs off hgd (by omega) (fun _ _ e => e) (fun h' u tk hk => ⟨.str _, H, I.kept hk, ⟨_, rfl⟩, q⟩) hz
    | @dct a h1 =>
      obtain rfl : u = Value.ref a := ru
      exact PySem.repr_of_reads' hr hs off hgd (by omega) (fun _ _ e => e) (fun h' u tk hk => ⟨.str _, H, I.kept hk, ⟨_, rfl⟩, q⟩) hz
/-- data of at most that depth and weight, ints of at most 10 ** 39 -/
structure Sd (D W : Nat) (d : PyData) : Prop where
  sh : d.showable = true
  dp : d.depth ≤ D
  lv : d.leavesShort 40 = true
  wt : d.weight ≤ W
theorem Sd.mono {D W D' W' : Nat} {d : PyData} (h : Sd D W d) (a : D ≤ D') (b : W ≤ W') : Sd D' W' d := ⟨h.sh, Nat.le_trans h.dp a, h.lv, Nat.le_trans h.wt b⟩
theorem sd_non : Sd 0 0 .none := ⟨rfl, Nat.le_refl _, rfl, by simp [PyData.weight]⟩
theorem sd_bl (b : Bool) : Sd 0 0 (.bool b) := ⟨rfl, Nat.le_refl _, rfl, by simp [PyData.weight]⟩
theorem sd_dct : Sd 1 0 (.dict []) := ⟨rfl, by simp [PyData.depth, PyData.depthKv], rfl, by simp [PyData.weight, PyData.weightKv]⟩
theorem log_le {n k : Nat} (h : n < 2 ^ k) (hk : 0 < k) : n.log2 + 1 ≤ k := by
  by_cases z : n = 0
  · subst z
    simp
    omega
  · exact (Nat.log2_lt z).mpr h
theorem sd_int {i : Int} (h : i.natAbs < 10 ^ 39) : Sd 0 130 (.int i) := by
  have l : i.natAbs.log2 + 1 ≤ 130 := log_le (Nat.lt_of_lt_of_le h (by decide)) (by decide)
  refine ⟨?_, Nat.le_refl _, ?_, ?_⟩
  · rw [PyData.showable]
    exact decide_eq_true (by omega)
  · rw [PyData.leavesShort]
    refine decide_eq_true ?_
    have e := int_text_length_le10 (k := 39) (by decide) h
    show (Str.ofString (toString i)).length ≤ 40
    rw [PySem.ofString_length]
    exact e
  · rw [PyData.weight]
    split
    · omega
    · exact l
theorem sd_str {z : Str} {n : Nat} (h : ∀ c ∈ z.cps.toList, c ≤ 1000) (l : z.length ≤ n) : Sd 0 n (.str z) := by
  refine ⟨rfl, Nat.le_refl _, ?_, ?_⟩
  · rw [PyData.leavesShort, List.all_eq_true]
    exact fun c hc => decide_eq_true (Nat.lt_of_le_of_lt (h c hc) (by decide))
  · rw [PyData.weight]
    exact l
theorem sd_all {D W : Nat} : ∀ {ds : List PyData}, (∀ d ∈ ds, Sd D W d) → PyData.showableAll ds = true ∧ PyData.depthAll ds ≤ D ∧ PyData.leavesShortAll 40 ds = true ∧ PyData.weightAll ds ≤ ds.length * (W + 1)
  | [], _ => by simp [PyData.showableAll, PyData.depthAll, PyData.leavesShortAll, PyData.weightAll]
  | d :: ds, h => by
    obtain ⟨a1, a2, a4, a5⟩ := h d (.head _)
    obtain ⟨b1, b2, b4, b5⟩ := @sd_all D W ds fun e he => h e (.tail _ he)
    refine ⟨?_, ?_, ?_, ?_⟩
    · rw [PyData.showableAll, a1, b1]
      rfl
    · rw [PyData.depthAll]
      exact Nat.max_le.mpr ⟨a2, b2⟩
    · rw [PyData.leavesShortAll, a4, b4]
      rfl
    · rw [PyData.weightAll, List.length_cons, Nat.succ_mul]
      omega
theorem sd_tup {D W n : Nat} {ds : List PyData} (h : ∀ d ∈ ds, Sd D W d) (l : ds.length ≤ n) : Sd (D + 1) (n * (W + 1)) (.tuple ds) := by
  obtain ⟨b1, b2, b4, b5⟩ := sd_all h
  have m := Nat.mul_le_mul_right (W + 1) l
  exact ⟨by rw [PyData.showable]; exact b1, by rw [PyData.depth]; omega, by rw [PyData.leavesShort]; exact b4, by rw [PyData.weight]; omega⟩
theorem sd_lst {D W n : Nat} {ds : List PyData} (h : ∀ d ∈ ds, Sd D W d) (l : ds.length ≤ n) : Sd (D + 1) (n * (W + 1)) (.list ds) := by
  obtain ⟨b1, b2, b4, b5⟩ := sd_all h
  have m := Nat.mul_le_mul_right (W + 1) l
  exact ⟨by rw [PyData.showable]; exact b1, by rw [PyData.depth]; omega, by rw [PyData.leavesShort]; exact b4, by rw [PyData.weight]; omega⟩
theorem Sd.fits {D W : Nat} {d : PyData} (h : Sd D W d) (w : W ≤ 300000) : d.shown.length ≤ sizeLine := by
  have a := PyData.shown_le 40 (by decide) d h.lv
  have b : (40 + 2) * d.weight ≤ 42 * 300000 := Nat.mul_le_mul_left _ (Nat.le_trans h.wt w)
  rw [sizeLine_eq]
  omega
end My
/-! ### small data, to be shown -/
namespace My
open PySem PySem.Spec PyProof.Rows L2
mutual
theorem Rp.dp {K : PySem.W.Frag} {H : Hp} : ∀ {v : V} {d : PyData}, Rp K H v d → d.hasDict = false → Dp K H v d
  | _, _, .non, _ => .non
  | _, _, .bl b, _ => .bl b
  | _, _, .int i, _ => .int i
  | _, _, .str x _, _ => .str x
  | _, _, .lst h t, n => .lst h (RpAll.dp t (by simpa only [PyData.hasDict] using n))
  | _, _, .tup h t, n => .tup h (RpAll.dp t (by simpa only [PyData.hasDict] using n))
  | _, _, .dct _, n => by simp [PyData.hasDict] at n
theorem RpAll.dp {K : PySem.W.Frag} {H : Hp} : ∀ {vs : List V} {ds : List PyData}, RpAll K H vs ds → PyData.hasDictAll ds = false → DpAll K H vs ds
  | _, _, .nil, _ => .nil
  | _, _, .cons h t, n => by
    rw [PyData.hasDictAll, Bool.or_eq_false_iff] at n
    exact .cons (Rp.dp h n.1) (RpAll.dp t n.2)
end
/-- data of at most that depth and weight, without dicts -/
structure Sm (D W : Nat) (d : PyData) : Prop where
  sh : d.showable = true
  dp : d.depth ≤ D
  nd : d.hasDict = false
  lv : d.leavesShort 13 = true
  wt : d.weight ≤ W
theorem Sm.mono {D W D' W' : Nat} {d : PyData} (h : Sm D W d) (a : D ≤ D') (b : W ≤ W') : Sm D' W' d := ⟨h.sh, Nat.le_trans h.dp a, h.nd, h.lv, Nat.le_trans h.wt b⟩
theorem sm_non : Sm 0 0 .none := ⟨rfl, Nat.le_refl _, by simp [PyData.hasDict], rfl, by simp [PyData.weight]⟩
theorem sm_bl (b : Bool) : Sm 0 0 (.bool b) := ⟨rfl, Nat.le_refl _, by simp [PyData.hasDict], rfl, by simp [PyData.weight]⟩
theorem sm_int {i : Int} (h : i.natAbs ≤ 1000) : Sm 0 1001 (.int i) := by
  have l := Nat.log2_le_self i.natAbs
  refine ⟨?_, Nat.le_refl _, by simp [PyData.hasDict], ?_, ?_⟩
  · rw [PyData.showable]
    exact decide_eq_true (by omega)
  · rw [PyData.leavesShort]
    exact decide_eq_true (PyData.shown_int_le (by omega))
  · rw [PyData.weight]
    split <;> omega
theorem sm_str {z : Str} {n : Nat} (h : ∀ c ∈ z.cps.toList, c ≤ 1000) (l : z.length ≤ n) : Sm 0 n (.str z) := by
  refine ⟨rfl, Nat.le_refl _, by simp [PyData.hasDict], ?_, ?_⟩
  · rw [PyData.leavesShort, List.all_eq_true]
    exact fun c hc => decide_eq_true (Nat.lt_of_le_of_lt (h c hc) (by decide))
  · rw [PyData.weight]
    exact l
theorem sm_all {D W : Nat} : ∀ {ds : List PyData}, (∀ d ∈ ds, Sm D W d) → PyData.showableAll ds = true ∧ PyData.depthAll ds ≤ D ∧ PyData.hasDictAll ds = false ∧ PyData.leavesShortAll 13 ds = true ∧ PyData.weightAll ds ≤ ds.length * (W + 1)
  | [], _ => by simp [PyData.showableAll, PyData.depthAll, PyData.hasDictAll, PyData.leavesShortAll, PyData.weightAll]
  | d :: ds, h => by
    obtain ⟨a1, a2, a3, a4, a5⟩ := h d (.head _)
    obtain ⟨b1, b2, b3, b4, b5⟩ := @sm_all D W ds fun e he => h e (.tail _ he)
    refine ⟨?_, ?_, ?_, ?_, ?_⟩
    · rw [PyData.showableAll, a1, b1]
      rfl
    · rw [PyData.depthAll]
      exact Nat.max_le.mpr ⟨a2, b2⟩
    · rw [PyData.hasDictAll, a3, b3]
      rfl
    · rw [PyData.leavesShortAll, a4, b4]
      rfl
    · rw [PyData.weightAll, List.length_cons, Nat.succ_mul]
      omega
theorem sm_tup {D W n : Nat} {ds : List PyData} (h : ∀ d ∈ ds, Sm D W d) (l : ds.length ≤ n) : Sm (D + 1) (n * (W + 1)) (.tuple ds) := by
  obtain ⟨b1, b2, b3, b4, b5⟩ := sm_all h
  have m := Nat.mul_le_mul_right (W + 1) l
  exact ⟨by rw [PyData.showable]; exact b1, by rw [PyData.depth]; omega, by rw [PyData.hasDict]; exact b3, by rw [PyData.leavesShort]; exact b4, by rw [PyData.weight]; omega⟩
theorem sm_lst {D W n : Nat} {ds : List PyData} (h : ∀ d ∈ ds, Sm D W d) (l : ds.length ≤ n) : Sm (D + 1) (n * (W + 1)) (.list ds) := by
  obtain ⟨b1, b2, b3, b4, b5⟩ := sm_all h
  have m := Nat.mul_le_mul_right (W + 1) l
  exact ⟨by rw [PyData.showable]; exact b1, by rw [PyData.depth]; omega, by rw [PyData.hasDict]; exact b3, by rw [PyData.leavesShort]; exact b4, by rw [PyData.weight]; omega⟩
theorem Sm.fits {D W : Nat} {d : PyData} (h : Sm D W d) (w : W ≤ 1000000) : d.shown.length ≤ sizeLine := PyData.shown_fits (B := 13) (by decide) (by decide) h.lv (Nat.le_trans h.wt (Nat.le_trans w (by decide)))
/-- repr of small data -/
theorem repr_sm {K : PySem.W.Frag} {H : Hp} {x : V} {d : PyData} {D W : Nat} {Q : VK} (h : Rp K H x d) (s : Sm D W d) (hD : D ≤ 60) (hW : W ≤ 1000000) (q : Q (.str d.shown) H) : rRepr K [x] H Q := ⟨x, d, rfl, h.dp s.nd, s.sh, Nat.le_trans s.dp hD, s.fits hW, q⟩
theorem letters_small {l : List Nat} (h : lettersL l = true) : ∀ c ∈ l, c ≤ 1000 := by
  unfold lettersL at h
  split at h
  · intro c hc
    simp at h hc
    omega
  · intro c hc
    simp at h hc
    omega
  · intro c hc
    simp at h hc
    omega
  · cases h
end My
/-! ### dicts whose keys are tuples of tuples -/
namespace My
open PySem PySem.Spec PyProof.Rows L2
mutual
def keyN : PyData → NestedKey
  | .none => .none
  | .bool b => .num (if b = true then 1 else 0)
  | .int i => .num i
  | .str x => .text x
  | .tuple xs => .tup (keyNs xs)
  | .list _ => .none
  | .dict _ => .none
def keyNs : List PyData → List NestedKey
  | [] => []
  | x :: xs => keyN x :: keyNs xs
end
mutual
theorem reads_nest {h : Heap} : ∀ {d : PyData} {v : Value} {as : List Addr}, Reads h v d as → tO d = true → NestedIs h (keyN d) v
  | .none, _, _, r, _ => by
    cases r
    rw [keyN]
    exact .none
  | .bool b, _, _, r, _ => by
    cases r
    rw [keyN]
    exact .bool rfl
  | .int i, _, _, r, _ => by
    cases r
    rw [keyN]
    exact .int _ _
  | .str x, _, _, r, _ => by
    cases r
    rw [keyN]
    exact .text _ _
  | .tuple xs, _, _, r, t => by
    cases r with
    | tuple h1 h2 h3 h4 =>
      rw [keyN]
      exact .tup h1 h2 h3 (readsAll_nest h4 (by simpa only [tO] using t))
  | .list _, _, _, _, t => by simp [tO] at t
  | .dict _, _, _, _, t => by simp [tO] at t
theorem readsAll_nest {h : Heap} : ∀ {ds : List PyData} {vs : List Value} {as : List Addr}, ReadsAll h vs ds as → tOs ds = true → NestedAll h (keyNs ds) vs
  | [], _, _, r, _ => by
    cases r
    rw [keyNs]
    exact .nil
  | d :: ds, _, _, r, t => by
    cases r with
    | cons h1 h2 =>
      rw [tOs, Bool.and_eq_true] at t
      rw [keyNs]
      exact .cons (reads_nest h1 t.1) (readsAll_nest h2 t.2)
end
abbrev Nx := List (NestedKey × Addr × V)
def NR (xs : Nx) (ys : List (NestedKey × Addr × Value)) : Prop := Paired (fun p q => p.1 = q.1 ∧ p.2.1 = q.2.1 ∧ RelV p.2.2 q.2.2) xs ys
def valN (xs : Nx) (k : NestedKey) : Option V := (xs.find? fun e => decide (e.1 = k)).map (·.2.2)
def putN (xs : Nx) (k : NestedKey) (b : Addr) (v : V) : Nx := if (valN xs k).isSome = true then xs.map fun e => if e.1 = k then (e.1, e.2.1, v) else e else xs ++ [(k, b, v)]
theorem valN_pos {k : NestedKey} {e : NestedKey × Addr × V} {xs : Nx} (h : e.1 = k) : valN (e :: xs) k = some e.2.2 := by simp [valN, h]
theorem valN_neg {k : NestedKey} {e : NestedKey × Addr × V} {xs : Nx} (h : ¬ e.1 = k) : valN (e :: xs) k = valN xs k := by simp [valN, h]
theorem NR.val {xs : Nx} {ys : List (NestedKey × Addr × Value)} (r : NR xs ys) (k : NestedKey) : RelO (valN xs k) ((atKey ys k).map (·.2)) := by
  unfold NR at r
  induction r with
  | nil => exact True.intro
  | @cons p q ps qs h t ih =>
    obtain ⟨h1, _, h2⟩ := h
    by_cases e : p.1 = k
    · have e' : q.1 = k := h1.symm.trans e
      have b : atKey (q :: qs) k = some q.2 := by simp [atKey, List.find?_cons, e']
      rw [valN_pos e, b]
      exact h2
    · have e' : ¬ q.1 = k := fun z => e (h1.trans z)
      have b : atKey (q :: qs) k = atKey qs k := by simp [atKey, List.find?_cons, e']
      rw [valN_neg e, b]
      exact ih
theorem NR.repl {xs : Nx} {ys : List (NestedKey × Addr × Value)} (r : NR xs ys) (k : NestedKey) {y : V} {u : Value} (ry : RelV y u) : NR (xs.map fun e => if e.1 = k then (e.1, e.2.1, y) else e) (ys.map (putAt k u)) := by
  unfold NR at r ⊢
  induction r with
  | nil => exact .nil
  | @cons p q ps qs h t ih =>
    rw [List.map_cons, List.map_cons]
    refine .cons ?_ ih
    obtain ⟨h1, h2, h3⟩ := h
    unfold putAt
    by_cases e : p.1 = k
    · rw [if_pos e, if_pos (h1.symm.trans e)]
      exact ⟨h1, h2, ry⟩
    · rw [if_neg e, if_neg (fun z => e (h1.trans z))]
      exact ⟨h1, h2, h3⟩
theorem NR.put {xs : Nx} {ys : List (NestedKey × Addr × Value)} (r : NR xs ys) (k : NestedKey) {b : Addr} {y : V} {u : Value} (ry : RelV y u) : NR (putN xs k b y) (storedH ys k b u) := by
  have e : (valN xs k).isSome = (atKey ys k).isSome := by rw [(r.val k).isSome_eq, Option.isSome_map]
  unfold putN storedH
  rw [e]
  by_cases q : (atKey ys k).isSome = true
  · rw [if_pos q, if_pos q]
    exact r.repl k ry
  · rw [if_neg q, if_neg q]
    exact Paired.snoc r ⟨rfl, rfl, ry⟩
theorem NR.mem {xs : Nx} {ys : List (NestedKey × Addr × Value)} (r : NR xs ys) : ∀ y ∈ ys, ∃ x ∈ xs, x.1 = y.1 ∧ x.2.1 = y.2.1 := by
  unfold NR at r
  induction r with
  | nil => exact fun _ h => nomatch h
  | @cons p q ps qs h t ih =>
    intro y hy
    rcases List.mem_cons.mp hy with rfl | hy
    · exact ⟨p, .head _, h.1, h.2.1⟩
    · obtain ⟨x, hx, e⟩ := ih y hy
      exact ⟨x, .tail _ hx, e⟩
/-- at a stands such a dict -/
def NdP (P : Program) (w : World) (a : Addr) (xs : Nx) (h : Heap) : Prop := (a == sysModules) = false ∧ ∃ ys, NR xs ys ∧ (ys.map (·.1)).Nodup ∧ ∃ o es ep, h.get? a = some o ∧ o.ExactDict ∧ o.data = .dict es ep ∧ es.toList = ys.map (entryOfKey (nestedKind P w))
def NdO (P : Program) (w : World) (a : Addr) (xs : Nx) : HO := .ext (NdP P w a xs)
theorem ndO_ok {P : Program} {w : World} {H : Hp} {h : Heap} {a : Addr} {xs : Nx} (x : NdP P w a xs h) : ObjOk P w H h a (NdO P w a xs) :=
  ⟨x, by
    obtain ⟨_, _, _, _, o, _, _, e, _⟩ := x
    exact ⟨o, e⟩, fun h1 h2 p k => by
    obtain ⟨z, ys, r, n, o, es, ep, e, q⟩ := p
    exact ⟨z, ys, r, n, o, es, ep, k o e, q⟩⟩
structure ND (P : Program) (w : World) (K : PySem.W.Frag) (H : Hp) (a : Addr) (xs : Nx) : Prop where
  here : H a = some (NdO P w a xs)
  ks : ∀ e ∈ xs, ∃ d, keyN d = e.1 ∧ Rp K H (.ref e.2.1) d ∧ tO d = true ∧ e.1.depth ≤ 8
theorem ND.ts {P : Program} {w : World} {K : PySem.W.Frag} {H H' : Hp} {a : Addr} {xs : Nx} (n : ND P w K H a xs) (s : TStay K H H') (e : H' a = some (NdO P w a xs)) : ND P w K H' a xs :=
  ⟨e, fun x hx => by
    obtain ⟨d, h1, h2, h3, h4⟩ := n.ks x hx
    exact ⟨d, h1, rp_ts s h2 h3, h3, h4⟩⟩
theorem ND.same {P : Program} {w : World} {K : PySem.W.Frag} {H H' : Hp} {a : Addr} {xs : Nx} (n : ND P w K H a xs) (s : Same H H') : ND P w K H' a xs := n.ts (ts_same s) (s _ _ n.here)
theorem ND.put {P : Program} {w : World} {K : PySem.W.Frag} {H : Hp} {a b : Addr} {xs : Nx} {d : PyData} (n : ND P w K H a xs) (hb : Rp K H (.ref b) d) (t : tO d = true) (l : (keyN d).depth ≤ 8) (v : V) :
    ND P w K (upd H a (NdO P w a (putN xs (keyN d) b v))) a (putN xs (keyN d) b v) := by
  have ts : TStay K H (upd H a (NdO P w a (putN xs (keyN d) b v))) := ts_upd n.here (fun _ z => nomatch z) (fun _ _ z => nomatch z)
  refine ⟨upd_same, fun x hx => ?_⟩
  unfold putN at hx
  split at hx
  · obtain ⟨e, he, rfl⟩ := List.mem_map.mp hx
    obtain ⟨d', h1, h2, h3, h4⟩ := n.ks e he
    by_cases q : e.1 = keyN d
    · rw [if_pos q]
      exact ⟨d', h1, rp_ts ts h2 h3, h3, h4⟩
    · rw [if_neg q]
      exact ⟨d', h1, rp_ts ts h2 h3, h3, h4⟩
  · rcases List.mem_append.mp hx with m | m
    · obtain ⟨d', h1, h2, h3, h4⟩ := n.ks x m
      exact ⟨d', h1, rp_ts ts h2 h3, h3, h4⟩
    · rw [List.mem_singleton.mp m]
      exact ⟨d, rfl, rp_ts ts hb t, t, l⟩
theorem putN_new {xs : Nx} {k : NestedKey} {b : Addr} {v : V} (h : valN xs k = none) : putN xs k b v = xs ++ [(k, b, v)] := by
  unfold putN
  rw [h]
  exact if_neg (by decide)
theorem putN_len (xs : Nx) (k : NestedKey) (b : Addr) (v : V) : (putN xs k b v).length ≤ xs.length + 1 := by
  unfold putN
  split
  · rw [List.length_map]
    omega
  · rw [List.length_append]
    exact Nat.le_refl _
section
variable {X : Cx} {pins : List (Addr × Obj)} {σ : L2.St} {H : Hp} {s : Shared} {a b : Addr} {xs : Nx} {d : PyData} {A : Around} {E : Value → Shared → Prop}
theorem nd_of (I : Inv X pins σ H s) (n : ND X.prog X.w X.K H a xs) : (a == sysModules) = false ∧ ∃ ys, NR xs ys ∧ s.heap.DictOfH (nestedKind X.prog X.w) a ys := by
  obtain ⟨⟨z, ys, r, nd, o, es, ep, h1, h2, h3, h4⟩, _, _⟩ := (show ObjOk X.prog X.w H s.heap a (NdO X.prog X.w a xs) from I.hok a _ n.here)
  refine ⟨z, ys, r, o, es, ep, h1, h2, h3, h4, fun y hy => ?_, nd⟩
  obtain ⟨x, hx, e1, e2⟩ := r.mem y hy
  obtain ⟨d', k1, k2, k3, k4⟩ := n.ks x hx
  obtain ⟨as, rd, _⟩ := Rp.reads I d' _ _ k2 (show RelV (.ref x.2.1) (Value.ref x.2.1) from rfl)
  rw [← e1, ← e2]
  exact ⟨k1 ▸ reads_nest rd k3, k4⟩
theorem nk_of (I : Inv X pins σ H s) (h : Rp X.K H (.ref b) d) (t : tO d = true) (l : (keyN d).depth ≤ 8) : (nestedKind X.prog X.w).is s.heap (keyN d) b := by
  obtain ⟨as, rd, _⟩ := Rp.reads I d _ _ h (show RelV (.ref b) (Value.ref b) from rfl)
  exact ⟨reads_nest rd t, l⟩
theorem nroom (hu : A.units + 9 < cLine) : A.in1.units + 8 < cLine := by
  have : A.in1.units = A.units + 1 := rfl
  omega
theorem nd_typeIs (I : Inv X pins σ H s) (n : ND X.prog X.w X.K H a xs) : s.TypeIs (.ref a) "dict" := by
  obtain ⟨_, ys, _, dd⟩ := nd_of I n
  exact dd.typeIs
theorem nd_getItem {v : V} {Q : Value → Shared → Prop} (hu : A.units + 9 < cLine) (I : Inv X pins σ H s) (n : ND X.prog X.w X.K H a xs) (hb : Rp X.K H (.ref b) d) (t : tO d = true) (l : (keyN d).depth ≤ 8) (hv : valN xs (keyN d) = some v)
    (h : ∀ w' s', Inv X pins σ H s' → RelV v w' → Q w' s') : wpAny (model X.prog X.w) A (getItem (.ref a) (.ref b)) Q E s := by
  obtain ⟨_, ys, r, dd⟩ := nd_of I n
  obtain ⟨w', hw, rw'⟩ := RelO.some_of (v := v) (o := (atKey ys (keyN d)).map (·.2)) (by rw [← hv]; exact r.val _)
  obtain ⟨p, hp, hp2⟩ := Option.map_eq_some_iff.mp hw
  refine wpAny_getItem_heap (nroom hu) (nk_of I hb t l) dd hp ?_
  rw [hp2]
  exact h w' _ (I.tok _) rw'
theorem nd_notIn {Q : Value → Shared → Prop} (hu : A.units + 9 < cLine) (I : Inv X pins σ H s) (n : ND X.prog X.w X.K H a xs) (hb : Rp X.K H (.ref b) d) (t : tO d = true) (l : (keyN d).depth ≤ 8)
    (h : ∀ s', Inv X pins σ H s' → Q (.bool (!(valN xs (keyN d)).isSome)) s') : wpAny (model X.prog X.w) A (compareOp .NotIn (.ref b) (.ref a)) Q E s := by
  obtain ⟨z, ys, r, dd⟩ := nd_of I n
  refine wpAny_notIn_heap (nroom hu) (nk_of I hb t l) z dd ?_
  have q := (r.val (keyN d)).isSome_eq
  rw [Option.isSome_map] at q
  rw [← q]
  exact h _ (I.tok _)
theorem nd_in {Q : Value → Shared → Prop} (hu : A.units + 9 < cLine) (I : Inv X pins σ H s) (n : ND X.prog X.w X.K H a xs) (hb : Rp X.K H (.ref b) d) (t : tO d = true) (l : (keyN d).depth ≤ 8)
    (h : ∀ s', Inv X pins σ H s' → Q (.bool (valN xs (keyN d)).isSome) s') : wpAny (model X.prog X.w) A (compareOp .In (.ref b) (.ref a)) Q E s := by
  obtain ⟨z, ys, r, dd⟩ := nd_of I n
  refine wpAny_in_heap (nroom hu) (nk_of I hb t l) z dd ?_
  have q := (r.val (keyN d)).isSome_eq
  rw [Option.isSome_map] at q
  rw [← q]
  exact h _ (I.tok _)
theorem nd_setItem {v : V} {r : Value} {Q : Unit → Shared → Prop} (hu : A.units + 9 < cLine) (I : Inv X pins σ H s) (n : ND X.prog X.w X.K H a xs) (hb : Rp X.K H (.ref b) d) (t : tO d = true) (l : (keyN d).depth ≤ 8) (hz : xs.length < sizeLine) (rv : RelV v r)
    (h : ∀ s', Inv X pins σ (upd H a (NdO X.prog X.w a (putN xs (keyN d) b v))) s' → Q () s') : wpAny (model X.prog X.w) A (setItem (.ref a) (.ref b) r) Q E s := by
  obtain ⟨z, ys, rr, dd⟩ := nd_of I n
  have hz2 : ys.length ≤ sizeLine := by rw [← Paired.length rr]; omega
  refine wpAny_setItem_heap (hsz := hz2) (nroom hu) (nk_of I hb t l) dd fun h' dd' hs => h _ ?_
  obtain ⟨q, es, ep, hq, h2, h3, h4, _, h5⟩ := dd'
  exact d_write I (by rw [n.here]; exact True.intro) hs ⟨q, hq⟩ (ndO_ok ⟨z, _, rr.put _ rv, h5, q, es, ep, hq, h2, h3, h4⟩)
end
/-! as rules -/
def NAt (P : Program) (w : World) (K : PySem.W.Frag) (H : Hp) (x y : V) (a b : Addr) (xs : Nx) (d : PyData) : Prop := x = .ref a ∧ y = .ref b ∧ ND P w K H a xs ∧ Rp K H (.ref b) d ∧ tO d = true ∧ (keyN d).depth ≤ 8
def tNGet (P : Program) (w : World) (K : PySem.W.Frag) (td ty : TE) : TE := fun σ H Q => td σ H fun x H1 => ty σ H1 fun y H2 => ∃ a b xs d v, NAt P w K H2 x y a b xs d ∧ valN xs (keyN d) = some v ∧ Q v H2
def tNNotIn (P : Program) (w : World) (K : PySem.W.Frag) (ty td : TE) : TE := fun σ H Q => ty σ H fun y H1 => td σ H1 fun x H2 => ∃ a b xs d, NAt P w K H2 x y a b xs d ∧ Q (.bl (!(valN xs (keyN d)).isSome)) H2
def tNIn (P : Program) (w : World) (K : PySem.W.Frag) (ty td : TE) : TE := fun σ H Q => ty σ H fun y H1 => td σ H1 fun x H2 => ∃ a b xs d, NAt P w K H2 x y a b xs d ∧ Q (.bl (valN xs (keyN d)).isSome) H2
def sNPut (P : Program) (w : World) (K : PySem.W.Frag) (td ty tv : TE) : TS := fun D σ H => tv σ H fun v H1 => td σ H1 fun x H2 => ty σ H2 fun y H3 => ∃ a b xs d, NAt P w K H3 x y a b xs d ∧ xs.length < sizeLine ∧ D.nx σ (upd H3 a (NdO P w a (putN xs (keyN d) b v)))
def tNDisp (P : Program) (w : World) (K : PySem.W.Frag) (tk tv : TE) : TE := fun σ H Q => ∀ p, H p = none → tk σ (upd H p (NdO P w p [])) fun x H1 => tv σ H1 fun y H2 => ∃ b d, x = .ref b ∧ Rp K H2 (.ref b) d ∧ tO d = true ∧ (keyN d).depth ≤ 8 ∧ H2 p = some (NdO P w p []) ∧ Q (.ref p) (upd H2 p (NdO P w p [(keyN d, b, y)]))
section
variable {X : Cx} {o i e value : Expr} {pos pos' : Pos} {td ty tv : TE}
theorem pe_nget (hu : X.A.units + 9 < cLine) (ho : PE X o td) (hi : PE X i ty) (hs : NoSl i) : PE X (.Subscript o i pos) (tNGet X.prog X.w X.K td ty) := by
  refine ⟨fun pins s σ H Q I h => ?_⟩
  refine subD_of PySem.F.slot_dict_getitem.lookup hs (thn (ho.run pins s σ H _ I h) fun u s1 ⟨x, H1, I1, rx, q1⟩ => thn (hi.run pins s1 σ H1 _ I1 q1) fun iv s2 ⟨y, H2, I2, ry, a, b, xs, d, v, ⟨ex, ey, n, hb, t, l⟩, hv, q2⟩ => ?_)
  subst ex ey
  obtain rfl : u = Value.ref a := rx
  obtain rfl : iv = Value.ref b := ry
  exact ⟨nd_typeIs I2 n, nd_getItem hu I2 n hb t l hv fun w' s3 I3 rw' => ⟨v, H2, I3, rw', q2⟩⟩
theorem pc_nnotin (hu : X.A.units + 9 < cLine) (hi : PE X i ty) (ho : PE X o td) : PC X .NotIn i o (tNNotIn X.prog X.w X.K ty td) := by
  refine ⟨fun pins s σ H Q I h => ?_⟩
  refine thn (hi.run pins s σ H _ I h) fun iv s1 ⟨y, H1, I1, ry, q1⟩ => thn (ho.run pins s1 σ H1 _ I1 q1) fun u s2 ⟨x, H2, I2, rx, a, b, xs, d, ⟨ex, ey, n, hb, t, l⟩, q2⟩ => ?_
  subst ex ey
  obtain rfl : u = Value.ref a := rx
  obtain rfl : iv = Value.ref b := ry
  exact nd_notIn hu I2 n hb t l fun s3 I3 => ⟨.bl _, H2, I3, rfl, q2⟩
theorem pc_nin (hu : X.A.units + 9 < cLine) (hi : PE X i ty) (ho : PE X o td) : PC X .In i o (tNIn X.prog X.w X.K ty td) := by
  refine ⟨fun pins s σ H Q I h => ?_⟩
  refine thn (hi.run pins s σ H _ I h) fun iv s1 ⟨y, H1, I1, ry, q1⟩ => thn (ho.run pins s1 σ H1 _ I1 q1) fun u s2 ⟨x, H2, I2, rx, a, b, xs, d, ⟨ex, ey, n, hb, t, l⟩, q2⟩ => ?_
  subst ex ey
  obtain rfl : u = Value.ref a := rx
  obtain rfl : iv = Value.ref b := ry
  exact nd_in hu I2 n hb t l fun s3 I3 => ⟨.bl _, H2, I3, rfl, q2⟩
theorem ps_nput (hu : X.A.units + 9 < cLine) (ho : PE X o td) (hi : PE X i ty) (hv : PE X value tv) (hs : swapsWith value (some (.Subscript o i pos')) pos.line X.env = pure false) :
    PS X (.Assign [.Subscript o i pos'] value pos) (sNPut X.prog X.w X.K td ty tv) := by
  refine ⟨fun pins s σ H D I h => ?_⟩
  refine wpAny_Assign_Subscript (thn (hv.run pins s σ H _ I h) fun r s1 ⟨v, H1, I1, rv, q1⟩ => thn (ho.run pins s1 σ H1 _ I1 q1) fun u s2 ⟨x, H2, I2, rx, q2⟩ => thn (hi.run pins s2 σ H2 _ I2 q2) fun iv s3 ⟨y, H3, I3, ry, a, b, xs, d, ⟨ex, ey, n, hb, t, l⟩, hz, q3⟩ => ?_) hs
  subst ex ey
  obtain rfl : u = Value.ref a := rx
  obtain rfl : iv = Value.ref b := ry
  exact nd_setItem hu I3 n hb t l hz rv fun s4 I4 => ⟨σ, _, I4, q3⟩
theorem pe_ndisp {kx vx : Expr} {tk : TE} (hu : X.A.units + 9 < cLine) (hk : PE X kx tk) (hv : PE X vx tv) : PE X (.Dict [some kx] [vx] pos) (tNDisp X.prog X.w X.K tk tv) := by
  refine ⟨fun pins s σ H Q I q => ?_⟩
  have hn := I.hok.fresh (Nat.le_refl s.heap.objs.size)
  have zs : (s.heap.objs.size == sysModules) = false := beq_eq_false_iff_ne.mpr (Ne.symm (Nat.ne_of_lt I.big))
  have I1 := I.laid (a := s.heap.objs.size) (o := NdO X.prog X.w s.heap.objs.size []) (h' := s.heap.push { cls := .type "dict", data := .dict #[] }) (t' := s.toks) (fun _ _ q => Heap.get?_push_of_some _ q) (Nat.le_refl _)
    (ndO_ok ⟨zs, [], .nil, List.nodup_nil, _, #[], 0, Heap.get?_push_size _ rfl, ⟨rfl, rfl, rfl⟩, rfl, rfl⟩)
  have hroom : (nestedKind X.prog X.w).room X.A := show X.A.units + 8 < cLine by omega
  have hshape : (evalEachOpt [some kx] X.env).zip ((evalEach [vx] X.env).map fun v => do let x ← v; standAt pos; pure x) = (pairTrees [some kx] [vx] X.env pos).map fun p => (some p.1, p.2) := by rfl
  rw [arm_eval_Dict, hshape, dictDisplay_pairs (pairTrees [some kx] [vx] X.env pos) (by simp [pairTrees]) (by simp [pairTrees])]
  refine wpAny_bind (wpAny_standAt (wpAny_bind (wpAny_subDictH (knd := nestedKind X.prog X.w) (Q := fun d s' => wpAny (model X.prog X.w) X.A (pure (Value.ref d)) (EP X pins σ Q) X.xe s') hroom (by simp [pairTrees]) ?_)))
  refine thn ((pps_cons hk hv pps_nil).run pins _ σ _ (fun ps H2 => match ps with
    | [(x, y)] => ∃ b d, x = .ref b ∧ Rp X.K H2 (.ref b) d ∧ tO d = true ∧ (keyN d).depth ≤ 8 ∧ H2 s.heap.objs.size = some (NdO X.prog X.w s.heap.objs.size []) ∧ Q (.ref s.heap.objs.size) (upd H2 s.heap.objs.size (NdO X.prog X.w s.heap.objs.size [(keyN d, b, y)]))
    | _ => False) I1 (q _ hn)) fun ws s2 ⟨ps, H2, I2, rel, hq⟩ => ?_
  match ps, rel, hq with
  | [], _, hq => exact hq.elim
  | _ :: _ :: _, _, hq => exact hq.elim
  | [(x, y)], rel, hq =>
    obtain ⟨b, d, rfl, hb, t, l, e, q2⟩ := hq
    cases rel with
    | @cons _ q0 _ _ h1 h2 =>
      cases h2
      obtain ⟨u1, u2⟩ := q0
      obtain ⟨r1, r2⟩ := h1
      obtain rfl : u1 = Value.ref b := r1
      have n0 : ND X.prog X.w X.K H2 s.heap.objs.size [] := ⟨e, fun _ h => nomatch h⟩
      obtain ⟨z, ys, rr, dd⟩ := nd_of I2 n0
      cases rr
      refine ⟨[(keyN d, b, u2)], ⟨rfl, rfl, nk_of I2 hb t l, trivial⟩, dd, fun h' tk dd' hs => wpAny_pure ⟨.ref s.heap.objs.size, _, ?_, rfl, q2⟩⟩
      obtain ⟨o, es, ep, hq, h2, h3, h4, _, h5⟩ := dd'
      exact d_write I2 (by rw [e]; exact True.intro) hs ⟨o, hq⟩ (ndO_ok ⟨z, _, .cons ⟨rfl, rfl, r2⟩ .nil, h5, o, es, ep, hq, h2, h3, h4⟩)
end
end My
/-! ### the pen stays -/
namespace My
open PySem PySem.Spec PyProof.Rows L2
theorem PenC.same {H H' : Hp} {p c : Addr} {n : Nat} (h : PenC H p c n) (s : Same H H') : PenC H' p c n := h.keep (fun _ e => s _ _ e) (fun _ e => s _ _ e)
end My
/-! ### the law's machines -/
namespace My
open PySem PySem.Spec PyProof.Rows L2
abbrev sXMachineB : Stmt := topS 64
abbrev sXPlainB : Stmt := topS 65
theorem scXMachineB : FnScope ["pen", "base", "letters", "most", "wide", "many", "states", "state", "row", "letter", "choice", "again", "pair"] ["pen", "base", "letters", "most", "wide"] (defScope sXMachineB) := ⟨rfl, rfl, rfl, by decide +kernel, rfl, by decide +kernel, by decide +kernel⟩
theorem scXPlainB : FnScope ["pen", "base", "letters", "most", "wide", "many", "states", "state", "letter"] ["pen", "base", "letters", "most", "wide"] (defScope sXPlainB) := ⟨rfl, rfl, rfl, by decide +kernel, rfl, by decide +kernel, by decide +kernel⟩
structure BlTxt (K : PySem.W.Frag) (mg : Str → Option Value) (xm xp xf xs : Addr) (ym yp yf ys : FuncData) : Prop where
  range : mg "range" = none
  len : mg "len" = none
  tuple : mg "tuple" = none
  int : mg "int" = none
  FXMachineB : Fun K "_law_x_machine" "_law_x_machine" sXMachineB xm ym
  bXMachineB : Binds K ym ["pen", "base", "letters", "most", "wide"] []
  gXMachineB : mg "_law_x_machine" = some (.ref xm)
  FXPlainB : Fun K "_law_x_plain" "_law_x_plain" sXPlainB xp yp
  bXPlainB : Binds K yp ["pen", "base", "letters", "most", "wide"] []
  gXPlainB : mg "_law_x_plain" = some (.ref xp)
theorem ts_but {K : PySem.W.Frag} {p : Addr} {n : Nat} {H H' : Hp} (h : Pen H p n) (b : But p H H') : TStay K H H' := fun a xs e => by
  obtain ⟨ys, hp⟩ := h.ls
  have ne : ∀ o, H a = some o → (∃ ks, o = .tup ks) ∨ (∃ u ks, o = .frz u (.tup ks)) → a ≠ p := fun o e ho z => by
    rw [z, hp] at e
    cases e
    rcases ho with ⟨_, ho⟩ | ⟨_, _, ho⟩ <;> cases ho
  rcases e with (e | ⟨u, e⟩) | e
  · exact .inl (.inl (b _ _ (ne _ e (.inl ⟨_, rfl⟩)) e))
  · exact .inl (.inr ⟨u, b _ _ (ne _ e (.inr ⟨_, _, rfl⟩)) e⟩)
  · exact .inr e
theorem goS {K : PySem.W.Frag} {H H' : Hp} {us : List V} {es : List (List (List (Int × Int)))} (s : TStay K H H') (h : RpAll K H us (es.map eS)) : RpAll K H' us (es.map eS) := rpAll_ts s h (tOs_map tO_eS _)
theorem goC {K : PySem.W.Frag} {H H' : Hp} {us : List V} {es : List (List (Int × Int))} (s : TStay K H H') (h : RpAll K H us (es.map eC)) : RpAll K H' us (es.map eC) := rpAll_ts s h (tOs_map tO_eC _)
theorem goP {K : PySem.W.Frag} {H H' : Hp} {us : List V} {es : List (Int × Int)} (s : TStay K H H') (h : RpAll K H us (es.map eP)) : RpAll K H' us (es.map eP) := rpAll_ts s h (tOs_map tO_eP _)
theorem rp_snoc {K : PySem.W.Frag} {H : Hp} {v : V} {d : PyData} : ∀ {vs : List V} {ds : List PyData}, RpAll K H vs ds → Rp K H v d → RpAll K H (vs ++ [v]) (ds ++ [d])
  | _, _, .nil, h => .cons h .nil
  | _, _, .cons a t, h => .cons a (rp_snoc t h)
theorem map_snoc {α : Type} {f : α → PyData} {l : List α} {x : α} : (l ++ [x]).map f = l.map f ++ [f x] := by rw [List.map_append]; rfl
theorem all_snoc {α : Type} {P : α → Prop} {l : List α} {x : α} (h : ∀ y ∈ l, P y) (hx : P x) : ∀ y ∈ l ++ [x], P y := fun y hy => by
  rcases List.mem_append.mp hy with m | m
  · exact h y m
  · rw [List.mem_singleton.mp m]
    exact hx
theorem ts_lst {K : PySem.W.Frag} {H : Hp} {S : Addr} {ys : List V} {o : HO} (h : H S = some (.lst ys)) : TStay K H (upd H S o) := ts_upd h (fun _ z => nomatch z) (fun _ _ z => nomatch z)
theorem butNone {p a : Addr} {H H' : Hp} (b : But p H H') (n : a ≠ p) (e : H' a = none) : H a = none := by
  cases h : H a with
  | none => rfl
  | some o =>
    rw [b a o n h] at e
    cases e
theorem rp_nil {K : PySem.W.Frag} {H : Hp} {vs : List V} {ds : List PyData} (h : RpAll K H vs ds) : RpAll K H (vs ++ []) ds := by
  rw [List.append_nil]
  exact h
theorem eqv_eP (a b : Int × Int) : PyData.eqv (eP a) (eP b) = decide (a = b) := by
  obtain ⟨a1, a2⟩ := a
  obtain ⟨b1, b2⟩ := b
  simp only [eP, PyData.eqv, PyData.eqvAll, Bool.and_true, Prod.mk.injEq]
  by_cases h1 : a1 = b1 <;> by_cases h2 : a2 = b2 <;> simp [h1, h2]
theorem any_eP (ps : List (Int × Int)) (p : Int × Int) : ((ps.map eP).any fun z => PyData.eqv z (eP p)) = decide (p ∈ ps) := by
  rw [List.any_map]
  induction ps with
  | nil => rfl
  | cons q ps ih =>
    rw [List.any_cons, ih]
    show (PyData.eqv (eP q) (eP p) || decide (p ∈ ps)) = decide (p ∈ q :: ps)
    rw [eqv_eP]
    by_cases h : q = p
    · simp [h]
    · have : ¬ p = q := fun z => h z.symm
      simp [h, this]
theorem lay_eP : ∀ l : List (Int × Int), PyData.canLayAll0 (l.map eP) = true ∧ PyData.depthAll (l.map eP) ≤ 1 ∧ PyData.hasDictAll (l.map eP) = false
  | [] => by simp [PyData.canLayAll0, PyData.depthAll, PyData.hasDictAll]
  | x :: a => by
    have ih := lay_eP a
    rw [List.map_cons]
    simp [eP, PyData.canLayAll0, PyData.depthAll, PyData.canLay0, PyData.depth, PyData.hasDictAll, PyData.hasDict, ih]
theorem shaped_eP (p : Int × Int) : SeqAt.shaped (eP p) = true := by
  simp [SeqAt.shaped, eP, PyData.canLay0, PyData.canLayAll0, PyData.depth, PyData.depthAll]
/-- a choice as the law makes it -/
structure Ck (m wd : Int) (ps : List (Int × Int)) : Prop where
  nd : ps.Nodup
  le : ps.length ≤ 3
  rg : ∀ p ∈ ps, -wd ≤ p.1 ∧ p.1 ≤ wd ∧ 0 ≤ p.2 ∧ p.2 ≤ m - 1
/-- a machine as the law makes it: choices of different pairs, or pairs alone -/
structure Made (M : Mc) : Prop where
  ok : Mok M
  few : M.C.length ≤ 130
def Side (d : PyData) (M : Mc) : Prop := Made M ∧ ((d = eM M ∧ mchD d = true) ∨ (d = fM M ∧ mchD d = false ∧ plnD d = true ∧ withD d = eM M ∧ ∀ cs ∈ M.C, ∀ ps ∈ cs, ps.length = 1))
def spMach3 (K : PySem.W.Frag) : Sp := fun vs H Q _ => ∃ (p c : Addr) (n : Nat) (b : Int) (z : Str) (most wide : Int), vs = [.ref p, .int b, .str z, .int most, .int wide] ∧ PenC H p c n ∧ n < 1046000 ∧ lettersL z.cps.toList = true ∧ 2 ≤ b ∧ b ≤ 9 ∧ 1 ≤ most ∧ most ≤ 4 ∧ 1 ≤ wide ∧ wide ≤ 20 ∧
  ∀ (H' : Hp) (t : Addr) (M : Mc), But p H H' → PenC H' p c (n + 100) → t ≠ p → Rp K H' (.ref t) (eM M) → Side (eM M) M → M.b = b → M.z = z → (M.C.length : Int) ≤ most → (∀ cs ∈ M.C, ∀ ps ∈ cs, ∀ p ∈ ps, -wide ≤ p.1 ∧ p.1 ≤ wide) → Q (.ref t) H'
theorem key_of {ps : List (Int × Int)} : (ps.map eP).map keyD = ps.map fun p => [p.1, p.2] := by
  rw [List.map_map]
  rfl
theorem tupD_ok {lo hi : Int} {ds : List PyData} (h1 : lo ≤ (ds.length : Int)) (h2 : (ds.length : Int) ≤ hi) : tupD lo hi (.tuple ds) = true := by
  show (decide (lo ≤ (ds.length : Int)) && decide ((ds.length : Int) ≤ hi)) = true
  rw [decide_eq_true h1, decide_eq_true h2]
  rfl
theorem betD_ok {lo hi i : Int} (h1 : lo ≤ i) (h2 : i ≤ hi) : betD lo hi (.int i) = true := by
  show (decide (lo ≤ i) && decide (i ≤ hi)) = true
  rw [decide_eq_true h1, decide_eq_true h2]
  rfl
theorem mch_made {wd b : Int} (wd20 : wd ≤ 20) {z : Str} {C : List (List (List (Int × Int)))} (b2 : 2 ≤ b) (b9 : b ≤ 9) (hl : lettersL z.cps.toList = true) (c1 : 1 ≤ C.length) (c4 : C.length ≤ 4) (row : ∀ cs ∈ C, cs.length = z.length)
    (ch : ∀ cs ∈ C, ∀ ps ∈ cs, 1 ≤ ps.length ∧ Ck (C.length : Int) wd ps) : Side (eM ⟨b, z, C⟩) ⟨b, z, C⟩ := by
  have w : (20 : Int) ≤ wideN := by decide +kernel
  have l1 : ∀ cs ∈ C, tupD (z.length : Int) (z.length : Int) (eS cs) = true := fun cs hcs => by
    have := row cs hcs
    exact tupD_ok (by rw [List.length_map]; omega) (by rw [List.length_map]; omega)
  have l2 : ∀ cs ∈ C, ∀ ps ∈ cs, chD (C.length : Int) (eC ps) = true := fun cs hcs ps hps => by
    obtain ⟨h1, h2⟩ := ch cs hcs ps hps
    have a1 : tupD 1 3 (.tuple (ps.map eP)) = true := by
      have := h2.le
      exact tupD_ok (by rw [List.length_map]; omega) (by rw [List.length_map]; omega)
    have a2 : (ps.map eP).all (pairD 20 (C.length : Int)) = true := by
      rw [List.all_map, List.all_eq_true]
      intro p hp
      obtain ⟨r1, r2, r3, r4⟩ := h2.rg p hp
      show (betD (-20) 20 (.int p.1) && betD 0 ((C.length : Int) - 1) (.int p.2)) = true
      rw [betD_ok (by omega) (by omega), betD_ok r3 r4]
      rfl
    have a3 : ((ps.map eP).map keyD).Nodup := by
      rw [key_of]
      refine List.Pairwise.map _ (fun x y hxy e => hxy ?_) h2.nd
      injection e with e1 e2
      injection e2 with e2 _
      exact Prod.ext e1 e2
    show (tupD 1 3 (.tuple (ps.map eP)) && ((ps.map eP).all (pairD 20 (C.length : Int)) && decide ((List.map keyD (ps.map eP)).Nodup))) = true
    rw [a1, a2, decide_eq_true a3]
    rfl
  have fr : frmD 4 (eM ⟨b, z, C⟩) = true := by
    show (betD 2 9 (.int b) && (ltrD (.str z) && tabD (lenD (.str z)) 4 (.tuple (C.map eS)))) = true
    have a1 : betD 2 9 (.int b) = true := betD_ok b2 b9
    have a2 : tabD (lenD (.str z)) 4 (.tuple (C.map eS)) = true := by
      show (tupD 1 4 (.tuple (C.map eS)) && (C.map eS).all (tupD (z.length : Int) (z.length : Int))) = true
      have a3 : tupD 1 4 (.tuple (C.map eS)) = true := tupD_ok (by rw [List.length_map]; omega) (by rw [List.length_map]; omega)
      have a4 : (C.map eS).all (tupD (z.length : Int) (z.length : Int)) = true := by
        rw [List.all_map, List.all_eq_true]
        exact fun cs hcs => l1 cs hcs
      rw [a3, a4]
      rfl
    rw [a1, a2, show ltrD (.str z) = true from hl]
    rfl
  refine ⟨⟨⟨b2, b9, hl, c1, (show C.length ≤ 300 by omega), row, fun cs hcs ps hps => ⟨(ch cs hcs ps hps).1, (ch cs hcs ps hps).2.le⟩, fun cs hcs ps hps p hp => ?_, .inl c4⟩, (show C.length ≤ 130 by omega)⟩, .inl ⟨rfl, ?_⟩⟩
  · obtain ⟨r1, r2, r3, r4⟩ := (ch cs hcs ps hps).2.rg p hp
    exact ⟨by omega, by omega, r3, r4⟩
  · show (frmD 4 (eM ⟨b, z, C⟩) && ((C.map eS).flatMap fun st => (elems st).map (chD ((C.map eS).length : Int))).all id) = true
    rw [fr, Bool.true_and, List.all_eq_true]
    intro x hx
    obtain ⟨st, hst, hx⟩ := List.mem_flatMap.mp hx
    obtain ⟨cs, hcs, rfl⟩ := List.mem_map.mp hst
    obtain ⟨d, hd, rfl⟩ := List.mem_map.mp hx
    obtain ⟨ps, hps, rfl⟩ := List.mem_map.mp (show d ∈ cs.map eC from hd)
    rw [List.length_map]
    exact l2 cs hcs ps hps
section
variable {P : Program} {w : World} {K : PySem.W.Frag} {mg : Str → Option Value} {base : Heap} {f1 f2 f3 f4 : Addr} {d1 d2 d3 d4 : FuncData} {xm xp xf xs : Addr} {ym yp yf ys : FuncData}
theorem ok_mach3 (TP : PenTxt K mg f1 f2 f3 f4 d1 d2 d3 d4) (T : BlTxt K mg xm xp xf xs ym yp yf ys) {k : Nat} : FnOk P w K mg base CX0 (k + 4) xm ym ["pen", "base", "letters", "most", "wide"] (spMach3 K) := by
  have GTC : FnOk P w K mg base CX0 (k + 3) f3 d3 ["pen", "many"] spTakeC := ok_takeC TP (k := k + 1)
  have GP : FnOk P w K mg base CX0 (k + 3) f4 d4 ["pen", "some"] (spPickC K) := ok_pickC TP (k := k)
  refine T.FXMachineB.ok scXMachineB (fun vs H Q E h => ?_) (fun cdv A outer s H vs Q E hr h => ?_)
  · obtain ⟨p, c, n, b, z, most, wide, rfl, _⟩ := h
    rfl
  · obtain ⟨p, c, n, b, z, most, wide, rfl, hP, hn, hl, b2', b9', m1, m4, w1, w20, q⟩ := h
    have hu : (A.deeper (envOfC "_law_x_machine" (defScope sXMachineB) s.heap.objs.size xm cdv)).units + 65 < cLine := by have := hr.un; omega
    refine ⟨_, (Evl.pss_cut (ps_par (i := 5) (j := 6) (by rfl) scXMachineB.nd rfl rfl (by decide) rfl rfl (pa_cons (pe_op op_add pe_int (pe_call GTC hr (by rfl) TP.gTake TP.FTake.kp TP.bTake .nil pass0 (pa_cons (pv 0) (pa_cons (pv 3) pa_nil)))) (pa_cons (pe_lst pa_nil) pa_nil)) (by rfl))
 (pss_cons (ps_for PassesOwn.never rfl (pi_range1 (by rfl) T.range (pa_cons (pv 5) pa_nil)) (pg_name (i := 7) scXMachineB.nd rfl (.inl rfl))
 (pss_cons (ps_set (i := 8) scXMachineB.nd rfl (.inl rfl) (pe_lst pa_nil))
 (pss_cons (ps_for PassesOwn.never rfl (pi_str (pv 2)) (pg_name (i := 9) scXMachineB.nd rfl (.inl rfl))
 (pss_cons (ps_set (i := 10) scXMachineB.nd rfl (.inl rfl) (pe_lst pa_nil))
 (pss_cons (ps_for PassesOwn.never rfl (pi_range1 (by rfl) T.range (pa_cons (pe_call GP hr (by rfl) TP.gPick TP.FPick.kp TP.bPick .nil pass0 (pa_cons (pv 0) (pa_cons (pe_lst (pa_cons pe_int (pa_cons pe_int (pa_cons pe_int (pa_cons pe_int (pa_cons pe_int pa_nil)))))) pa_nil))) pa_nil)) (pg_name (i := 11) scXMachineB.nd rfl (.inl rfl))
 (pss_cons (ps_set (i := 12) scXMachineB.nd rfl (.inl rfl) (pe_tup (pa_cons (pe_op op_sub (pe_call GTC hr (by rfl) TP.gTake TP.FTake.kp TP.bTake .nil pass0 (pa_cons (pv 0) (pa_cons (pe_op op_add (pe_op op_mul pe_int (pv 4)) pe_int) pa_nil))) (pv 4)) (pa_cons (pe_call GTC hr (by rfl) TP.gTake TP.FTake.kp TP.bTake .nil pass0 (pa_cons (pv 0) (pa_cons (pv 5) pa_nil))) pa_nil))))
 (pss_one (ps_set (i := 10) scXMachineB.nd rfl (.inl rfl) (pe_op op_cat (pv 10) (pe_op op_rep (pe_lst (pa_cons (pv 12) pa_nil)) (pe_callTy call_int1 (by rfl) T.int (by decide +kernel) (pa_cons (pe_cmpR (op_notInD hu) (pv 12) (pv 10) (by rfl)) pa_nil))))))))
 (pss_one (ps_expr (pe_bm PySem.F.plainAttrs_list PySem.F.slot_list_append PySem.F.type_list_append mt_append (pv 8) (pa_cons (pe_callTy call_tuple_of (by rfl) T.tuple (by decide +kernel) (pa_cons (pv 10) pa_nil)) pa_nil)))))))
 (pss_one (ps_expr (pe_bm PySem.F.plainAttrs_list PySem.F.slot_list_append PySem.F.type_list_append mt_append (pv 6) (pa_cons (pe_callTy call_tuple_of (by rfl) T.tuple (by decide +kernel) (pa_cons (pv 8) pa_nil)) pa_nil)))))))
 (pss_one (ps_ret (pe_tup (pa_cons (pv 1) (pa_cons (pv 2) (pa_cons (pe_callTy call_tuple_of (by rfl) T.tuple (by decide +kernel) (pa_cons (pv 6) pa_nil)) pa_nil)))))))), ?_⟩
    have z3 : z.cps.size ≤ 3 := ltrD_len (d := .str z) hl
    have sl3 : ∀ {m : Nat}, m ≤ 100 → m < sizeLine := fun h => Nat.lt_of_le_of_lt h (by decide)
    refine ⟨fun σ H' => ∃ (mi : Int) (S : Addr), σ = [some (.ref p), some (.int b), some (.str z), some (.int most), some (.int wide), some (.int mi), some (.ref S), none, none, none, none, none, none] ∧ 1 ≤ mi ∧ mi ≤ most ∧ But p H H' ∧ PenC H' p c (n + 1) ∧ H' S = some (.lst []) ∧ S ≠ p ∧ S ≠ c ∧ H S = none, ?_, ?_⟩
    · refine ⟨_, rfl, _, rfl, p, c, most, n, rfl, hP, by omega, by omega, log_small (m := 4) (by omega) (by decide), fun H1 k1 b1 hP1 k10 k11 => ⟨_, _, rfl, rfl, (by show 0 ≤ sizeLine; decide), fun S hS => ?_⟩⟩
      have x1 := same_upd (o := HO.lst []) hS
      obtain ⟨c1, _, _, hp1, hc1, _⟩ := hP1.ex
      refine ⟨_, _, rfl, 1 + k1, S, rfl, by omega, by omega, b1.trans (But.of x1), hP1.same x1, upd_same, (ne_of_none hp1 hS).symm, (ne_of_none hc1 hS).symm, butNone b1 (ne_of_none hp1 hS).symm hS⟩
    rintro σ H1 ⟨mi, S, rfl, i1, i4, b1, hP1, hS, nSp, nSc, S0⟩
    refine ⟨_, rfl, _, rfl, by omega, by omega, ?_⟩
    refine for_range (lo := 0) (n := mi.toNat) (fun i σ H' => ∃ v7 v8 v9 v10 v11 v12 vs css, σ = [some (.ref p), some (.int b), some (.str z), some (.int most), some (.int wide), some (.int mi), some (.ref S), v7, v8, v9, v10, v11, v12] ∧ But p H H' ∧ PenC H' p c (n + 1 + 22 * i) ∧ H' S = some (.lst vs) ∧ RpAll K H' vs (List.map eS css) ∧ vs.length = i ∧ ∀ cs ∈ css, cs.length = z.length ∧ ∀ ps ∈ cs, 1 ≤ ps.length ∧ Ck mi wide ps)
      ⟨none, none, none, none, none, none, [], [], rfl, b1, hP1, hS, .nil, rfl, fun _ h => nomatch h⟩ ?_ ?_
    · rintro i σ H2 hi ⟨v7, v8, v9, v10, v11, v12, vs, css, rfl, b2, hP2, hS2, hV, lv, ok⟩
      refine ⟨(by show 0 ≤ sizeLine; decide), fun R hR => ?_⟩
      have xR := same_upd (o := HO.lst []) hR
      obtain ⟨_, _, _, hp2, hc2, _⟩ := hP2.ex
      have nRp := (ne_of_none hp2 hR).symm
      have nRc := (ne_of_none hc2 hR).symm
      have nRS := (ne_of_none hS2 hR).symm
      have R0 := butNone b2 nRp hR
      refine ⟨_, rfl, z, rfl, ?_⟩
      refine for_it walk_str (fun j σ H' => ∃ v9 v10 v11 v12 us pss, σ = [some (.ref p), some (.int b), some (.str z), some (.int most), some (.int wide), some (.int mi), some (.ref S), some (.int (0 + (i : Int))), some (.ref R), v9, v10, v11, v12] ∧ But p H H' ∧ PenC H' p c (n + 1 + 22 * i + 7 * j) ∧ H' S = some (.lst vs) ∧ RpAll K H' vs (List.map eS css) ∧ H' R = some (.lst us) ∧ RpAll K H' us (List.map eC pss) ∧ us.length = j ∧ ∀ ps ∈ pss, 1 ≤ ps.length ∧ Ck mi wide ps)
        ⟨v9, v10, v11, v12, [], [], rfl, b2.trans (But.of xR), hP2.same xR, xR _ _ hS2, goS (ts_same xR) hV, upd_same, .nil, rfl, fun _ h => nomatch h⟩ (fun _ _ _ _ _ => trivial) ?_ ?_
      · rintro j u σ H' H3 hj ⟨v9, v10, v11, v12, us, pss, rfl, b3, hP3, hS3, hV3, hR3, hU3, lu, oku⟩ ⟨rfl, cc, hcc, rfl⟩
        refine ⟨(by show 0 ≤ sizeLine; decide), fun C hC => ?_⟩
        have xC := same_upd (o := HO.lst []) hC
        have hPC := hP3.same xC
        refine ⟨_, rfl, (by show 5 ≤ sizeLine; decide), fun L hL => ?_⟩
        have xL := same_upd (o := HO.lst [.int 1, .int 1, .int 2, .int 2, .int 3]) hL
        have hPL := hPC.same xL
        obtain ⟨_, _, _, hp3, _⟩ := hPC.ex
        refine ⟨p, c, L, _, _, rfl, hPL, by omega, SqL.of upd_same, (ne_of_none hp3 hL).symm, (by show 0 < 5; decide), (by show 5 ≤ 1000; decide), fun H4 m v b4 hP4 hm => ?_⟩
        have hv : ∃ g : Int, v = .int g ∧ 1 ≤ g ∧ g ≤ 3 := by
          match m, hm with
          | 0, hm => exact ⟨1, (Option.some.inj hm).symm, by omega, by omega⟩
          | 1, hm => exact ⟨1, (Option.some.inj hm).symm, by omega, by omega⟩
          | 2, hm => exact ⟨2, (Option.some.inj hm).symm, by omega, by omega⟩
          | 3, hm => exact ⟨2, (Option.some.inj hm).symm, by omega, by omega⟩
          | 4, hm => exact ⟨3, (Option.some.inj hm).symm, by omega, by omega⟩
          | m + 5, hm => exact absurd hm (by simp)
        obtain ⟨g, rfl, g1, g3⟩ := hv
        have nCp := (ne_of_none (hP3.ex.choose_spec.choose_spec.choose_spec.1) hC).symm
        have bCL : But p H3 H4 := (But.of (xC.trans xL)).trans b4
        have bT4 : TStay K H3 H4 := ts_but hP3.pen bCL
        refine ⟨_, rfl, by omega, by omega, ?_⟩
        refine for_range (lo := 0) (n := g.toNat) (fun e σ H' => ∃ v11 v12 C ws ps, σ = [some (.ref p), some (.int b), some (.str z), some (.int most), some (.int wide), some (.int mi), some (.ref S), some (.int (0 + (i : Int))), some (.ref R), some (.str ⟨#[cc]⟩), some (.ref C), v11, v12] ∧ But p H3 H' ∧ PenC H' p c (n + 1 + 22 * i + 7 * j + 1 + 2 * e) ∧ H' C = some (.lst ws) ∧ RpAll K H' ws (List.map eP ps) ∧ (ps.length ≤ e ∧ (0 < e → 1 ≤ ps.length)) ∧ (ps.Nodup ∧ ∀ q ∈ ps, -wide ≤ q.1 ∧ q.1 ≤ wide ∧ 0 ≤ q.2 ∧ q.2 ≤ mi - 1) ∧ C ≠ p)
          ⟨v11, v12, C, [], [], rfl, bCL, hP4, b4 _ _ nCp (xL _ _ upd_same), .nil, ⟨Nat.le_refl _, fun h => absurd h (Nat.lt_irrefl _)⟩, ⟨.nil, fun _ h => nomatch h⟩, nCp⟩ ?_ ?_
        · rintro e σ H5 he ⟨v11, v12, C, ws, ps, rfl, b5, hP5, hC5, hW5, lw, okw, nCp5⟩
          refine ⟨_, rfl, _, rfl, _, _, rfl, rfl, .inl ⟨by decide, by decide⟩, _, _, rfl, rfl, p, c, 2 * wide + 1, _, rfl, hP5, by omega, by omega, log_small (m := 41) (by omega) (by decide), fun H6 k6 b6 hP6 k60 k61 => ?_⟩
          refine ⟨_, rfl, _, _, rfl, rfl, _, rfl, _, rfl, p, c, mi, _, rfl, hP6, by omega, by omega, log_small (m := 4) (by omega) (by decide), fun H7 k7 b7 hP7 k70 k71 => ⟨(by show 2 ≤ sizeLine; decide), fun T hT => ?_⟩⟩
          have b67 := b6.trans b7
          have bT7 : TStay K H5 H7 := ts_but hP5.pen b67
          have hC7 := b67 _ _ nCp5 hC5
          have xT := same_upd (o := HO.tup [.int (k6 - wide), .int k7]) hT
          refine ⟨_, rfl, _, rfl, (by show 1 ≤ sizeLine; decide), fun M hM => ?_⟩
          have xM := same_upd (o := HO.lst [.ref T]) hM
          have xTM := xT.trans xM
          have rg : -wide ≤ k6 - wide ∧ k6 - wide ≤ wide ∧ 0 ≤ k7 ∧ k7 ≤ mi - 1 := by omega
          obtain ⟨pr, hpr⟩ : ∃ pr : Int × Int, pr = (k6 - wide, k7) := ⟨_, rfl⟩
          have rT : Rp K (upd (upd H7 T (HO.tup [.int (k6 - wide), .int k7])) M (HO.lst [.ref T])) (.ref T) (eP pr) := by
            rw [hpr]
            exact .tup (SqT.of (xM _ _ upd_same)) (.cons (.int _) (.cons (.int _) .nil))
          have hCM := xTM _ _ hC7
          have hWM := goP (bT7.trans (ts_same xTM)) hW5
          have lay := lay_eP ps
          have lps : ws.length = ps.length := by rw [hW5.len, List.length_map]
          have sht : SeqAt.shaped (.list (List.map eP ps)) = true := by
            have l2 := lay.2.1
            simp [SeqAt.shaped, PyData.canLay0, PyData.depth, lay.1]
            omega
          refine ⟨_, rfl, _, rfl, eP pr, List.map eP ps, rT.dp (by simp [eP, PyData.hasDict, PyData.hasDictAll]), .lst (SqL.of hCM) (RpAll.dp hWM lay.2.2), shaped_eP pr, sht, ?_⟩
          rw [any_eP]
          by_cases mem : pr ∈ ps
          · rw [decide_eq_true mem]
            refine .inr ⟨false, rfl, M, 0, [V.ref T], rfl, rfl, upd_same, by decide, by decide, (by show 0 ≤ sizeLine; decide), fun N hN => ?_⟩
            have xN := same_upd (o := HO.lst []) hN
            refine ⟨C, N, ws, [], rfl, rfl, xN _ _ hCM, upd_same, (by show ws.length + 0 ≤ sizeLine; exact Nat.le_of_lt (sl3 (by omega))), fun O hO => ?_⟩
            have xO := same_upd (o := HO.lst (ws ++ [])) hO
            have x4 := (xTM.trans xN).trans xO
            obtain ⟨_, _, _, hp7, _, _⟩ := hP7.ex
            have nO : O ≠ p := (ne_of_none ((xTM.trans xN) _ _ hp7) hO).symm
            refine ⟨_, _, O, ws ++ [], ps, rfl, b5.trans (b67.trans (But.of x4)), (hP7.same x4).mono (by omega), upd_same, ?_, ⟨by omega, fun _ => List.length_pos_of_mem mem⟩, okw, nO⟩
            exact rp_nil (goP (ts_same (xN.trans xO)) hWM)
          · rw [decide_eq_false mem]
            refine .inr ⟨true, rfl, M, 1, [V.ref T], rfl, rfl, upd_same, by decide, by decide, (by show 1 ≤ sizeLine; decide), fun N hN => ?_⟩
            have xN := same_upd (o := HO.lst [V.ref T]) hN
            refine ⟨C, N, ws, [V.ref T], rfl, rfl, xN _ _ hCM, upd_same, (by show ws.length + 1 ≤ sizeLine; exact Nat.le_of_lt (sl3 (by omega))), fun O hO => ?_⟩
            have xO := same_upd (o := HO.lst (ws ++ [V.ref T])) hO
            have x4 := (xTM.trans xN).trans xO
            obtain ⟨_, _, _, hp7, _, _⟩ := hP7.ex
            have nO : O ≠ p := (ne_of_none ((xTM.trans xN) _ _ hp7) hO).symm
            refine ⟨_, _, O, ws ++ [V.ref T], ps ++ [pr], rfl, b5.trans (b67.trans (But.of x4)), (hP7.same x4).mono (by omega), upd_same, ?_, ?_, ⟨?_, ?_⟩, nO⟩
            · rw [map_snoc]
              exact rp_snoc (goP (ts_same (xN.trans xO)) hWM) (rp_ts (ts_same (xN.trans xO)) rT (tO_eP _))
            · rw [List.length_append, List.length_singleton]
              omega
            · rw [List.nodup_append]
              refine ⟨okw.1, by simp, fun a ha b hb => ?_⟩
              rw [List.mem_singleton.mp hb]
              exact fun z => mem (z ▸ ha)
            · exact all_snoc okw.2 (by rw [hpr]; exact rg)
        · rintro σ H5 ⟨v11, v12, C, ws, ps, rfl, b5, hP5, hC5, hW5, lw, okw, nCp5⟩
          have bT5 : TStay K H3 H5 := ts_but hP3.pen b5
          have hR5 := b5 _ _ nRp hR3
          have hS5 := b5 _ _ nSp hS3
          refine ⟨_, rfl, .inl ⟨rfl, _, SqL.of hR5⟩, _, rfl, C, _, rfl, .inl ⟨SqL.of hC5, fun t ht => ?_⟩⟩
          have xt := same_upd (o := HO.tup ws) ht
          have bt : TStay K (upd H5 t (HO.tup ws)) (upd (upd H5 t (HO.tup ws)) R (HO.lst (us ++ [V.ref t]))) := ts_lst (xt _ _ hR5)
          have z9 : z.cps.size ≤ 3 := z3
          have ckp : 1 ≤ ps.length ∧ Ck mi wide ps := ⟨lw.2 (by omega), okw.1, by omega, okw.2⟩
          refine ⟨R, _, _, rfl, rfl, xt _ _ hR5, sl3 (by omega), ?_⟩
          refine ⟨_, _, _, _, us ++ [V.ref t], pss ++ [ps], rfl, ?_, ?_, ?_, ?_, upd_same, ?_, by rw [List.length_append, lu]; rfl, all_snoc oku ckp⟩
          · intro b o nb e
            rw [upd_ne (ne_of_none e R0)]
            exact xt _ _ (b5 _ _ nb (b3 _ _ nb e))
          · exact (hP5.keep (fun o e => by rw [upd_ne nRp.symm]; exact xt _ _ e) (fun o e => by rw [upd_ne nRc.symm]; exact xt _ _ e)).mono (by omega)
          · rw [upd_ne nRS.symm]
            exact xt _ _ hS5
          · exact goS ((bT5.trans (ts_same xt)).trans bt) hV3
          · rw [map_snoc]
            refine rp_snoc (goC ((bT5.trans (ts_same xt)).trans bt) hU3) (.tup (bt _ _ (SqT.of upd_same)) (goP ((ts_same xt).trans bt) hW5))
      · rintro σ H4 ⟨v9, v10, v11, v12, us, pss, rfl, b4, hP4, hS4, hV4, hR4, hU4, lu, oku⟩
        have lu3 : us.length ≤ 3 := by rw [lu]; exact z3
        refine ⟨_, rfl, .inl ⟨rfl, _, SqL.of hS4⟩, _, rfl, R, _, rfl, .inl ⟨SqL.of hR4, fun t ht => ?_⟩⟩
        have xt := same_upd (o := HO.tup us) ht
        refine ⟨S, _, _, rfl, rfl, xt _ _ hS4, sl3 (by omega), ?_⟩
        have bt : TStay K (upd H4 t (HO.tup us)) (upd (upd H4 t (HO.tup us)) S (HO.lst (vs ++ [V.ref t]))) := ts_lst (xt _ _ hS4)
        have lup : us.length = pss.length := by rw [hU4.len, List.length_map]
        refine ⟨_, _, _, _, _, _, vs ++ [V.ref t], css ++ [pss], rfl, ?_, ?_, upd_same, ?_, by rw [List.length_append, lv]; rfl, all_snoc ok ⟨lup.symm.trans lu, oku⟩⟩
        · intro b o nb e
          rw [upd_ne (ne_of_none e S0)]
          exact xt _ _ (b4 _ _ nb e)
        · exact (hP4.keep (fun o e => by rw [upd_ne nSp.symm]; exact xt _ _ e) (fun o e => by rw [upd_ne nSc.symm]; exact xt _ _ e)).mono (by have : z.cps.size ≤ 3 := z3; omega)
        · rw [map_snoc]
          exact rp_snoc (goS ((ts_same xt).trans bt) hV4) (.tup (bt _ _ (SqT.of upd_same)) (goC ((ts_same xt).trans bt) hU4))
    · rintro σ H2 ⟨v7, v8, v9, v10, v11, v12, vs, css, rfl, b2, hP2, hS2, hV, lv, ok⟩
      refine ⟨_, rfl, _, rfl, _, rfl, S, _, rfl, .inl ⟨SqL.of hS2, fun t ht => ⟨(by show 3 ≤ sizeLine; decide), fun u hu => ?_⟩⟩⟩
      have xt := same_upd (o := HO.tup vs) ht
      have xu := same_upd (o := HO.tup [V.int b, V.str z, V.ref t]) hu
      have x2 := xt.trans xu
      have hz : z.length ≤ sizeLine := Nat.le_trans (show z.length ≤ 3 from z3) (by decide)
      have lvc : vs.length = css.length := by rw [hV.len, List.length_map]
      have emi : mi = (css.length : Int) := by omega
      have hPt := hP2.same xt
      obtain ⟨_, _, _, hpt, _, _⟩ := hPt.ex
      refine q _ u ⟨b, z, css⟩ (b2.trans (But.of x2)) ((hP2.same x2).mono (by omega)) (ne_of_none hpt hu).symm (.tup (SqT.of upd_same) (.cons (.int b) (.cons (.str z hz) (.cons (.tup (SqT.of (xu _ _ upd_same)) (goS (ts_same x2) hV)) .nil)))) ?_ rfl rfl (by show (css.length : Int) ≤ most; omega) (fun cs hcs ps hps p hp => ?_)
      · exact mch_made w20 b2' b9' hl (by omega) (by omega) (fun cs hcs => (ok cs hcs).1) fun cs hcs ps hps => emi ▸ (ok cs hcs).2 ps hps
      · have := ((ok cs hcs).2 ps hps).2.rg p hp
        exact ⟨this.1, this.2.1⟩
def spPln3 (K : PySem.W.Frag) : Sp := fun vs H Q _ => ∃ (p c : Addr) (n : Nat) (b : Int) (z : Str) (most wide : Int), vs = [.ref p, .int b, .str z, .int most, .int wide] ∧ PenC H p c n ∧ n < 1046000 ∧ lettersL z.cps.toList = true ∧ 2 ≤ b ∧ b ≤ 9 ∧ 1 ≤ most ∧ most ≤ 5 ∧ 1 ≤ wide ∧ wide ≤ wideN ∧
  ∀ (H' : Hp) (t : Addr) (M : Mc), But p H H' → PenC H' p c (n + 50) → t ≠ p → Rp K H' (.ref t) (fM M) → Side (fM M) M → M.b = b → M.z = z → (M.C.length : Int) ≤ most → (∀ cs ∈ M.C, ∀ ps ∈ cs, ∀ p ∈ ps, -wide ≤ p.1 ∧ p.1 ≤ wide) → Q (.ref t) H'
def rowD (qs : List (Int × Int)) : PyData := .tuple (qs.map eP)
structure Pk (wide m : Int) (q : Int × Int) : Prop where
  lo : -wide ≤ q.1
  hi : q.1 ≤ wide
  t0 : 0 ≤ q.2
  t1 : q.2 ≤ m - 1
theorem tO_rowD (qs : List (Int × Int)) : tO (rowD qs) = true := by
  rw [rowD, tO]
  exact tOs_map tO_eP qs
theorem goR {K : PySem.W.Frag} {H H' : Hp} {us : List V} {es : List (List (Int × Int))} (s : TStay K H H') (h : RpAll K H us (es.map rowD)) : RpAll K H' us (es.map rowD) := rpAll_ts s h (tOs_map tO_rowD _)
theorem pln_made {K : PySem.W.Frag} {b : Int} {z : Str} {rows : List (List (Int × Int))} (b2 : 2 ≤ b) (b9 : b ≤ 9) (hl : lettersL z.cps.toList = true) (c1 : 1 ≤ rows.length) (c5 : rows.length ≤ 130) (row : ∀ qs ∈ rows, qs.length = z.length)
    (pr : ∀ qs ∈ rows, ∀ q ∈ qs, -wideN ≤ q.1 ∧ q.1 ≤ wideN ∧ 0 ≤ q.2 ∧ q.2 ≤ (rows.length : Int) - 1) :
    Side (fM ⟨b, z, rows.map (List.map fun p => [p])⟩) ⟨b, z, rows.map (List.map fun p => [p])⟩ ∧ fM ⟨b, z, rows.map (List.map fun p => [p])⟩ = .tuple [.int b, .str z, .tuple (rows.map rowD)] := by
  have e1 : fM ⟨b, z, rows.map (List.map fun p => [p])⟩ = .tuple [.int b, .str z, .tuple (rows.map rowD)] := by
    unfold fM
    simp only [List.map_map]
    refine congrArg (fun l => PyData.tuple [.int b, .str z, .tuple l]) (List.map_congr_left fun xs _ => ?_)
    show PyData.tuple ((xs.map fun p => [p]).map fC) = .tuple (xs.map eP)
    rw [List.map_map]
    rfl
  refine ⟨?_, e1⟩
  have z1 := ltr_pos hl
  have fr : ∀ most : Int, (rows.length : Int) ≤ most → frmD most (.tuple [.int b, .str z, .tuple (rows.map rowD)]) = true := fun most hm => by
    show (betD 2 9 (.int b) && (ltrD (.str z) && tabD (lenD (.str z)) most (.tuple (rows.map rowD)))) = true
    have a2 : tabD (lenD (.str z)) most (.tuple (rows.map rowD)) = true := by
      show (tupD 1 most (.tuple (rows.map rowD)) && (rows.map rowD).all (tupD (z.length : Int) (z.length : Int))) = true
      have a4 : (rows.map rowD).all (tupD (z.length : Int) (z.length : Int)) = true := by
        rw [List.all_map, List.all_eq_true]
        intro qs hqs
        have := row qs hqs
        exact tupD_ok (by rw [List.length_map]; omega) (by rw [List.length_map]; omega)
      rw [tupD_ok (by rw [List.length_map]; omega) (by rw [List.length_map]; exact hm), a4]
      rfl
    rw [betD_ok b2 b9, a2, show ltrD (.str z) = true from hl]
    rfl
  have pl : plnD (fM ⟨b, z, rows.map (List.map fun p => [p])⟩) = true := by
    rw [e1]
    show (frmD 300 (.tuple [.int b, .str z, .tuple (rows.map rowD)]) && ((rows.map rowD).flatMap fun st => (elems st).map (pairD ((10 : Int) ^ (30 : Int).toNat) ((rows.map rowD).length : Int))).all id) = true
    rw [fr 300 (by omega), Bool.true_and, List.all_eq_true]
    intro x hx
    obtain ⟨st, hst, hx⟩ := List.mem_flatMap.mp hx
    obtain ⟨qs, hqs, rfl⟩ := List.mem_map.mp hst
    obtain ⟨d, hd, rfl⟩ := List.mem_map.mp hx
    obtain ⟨p, hp, rfl⟩ := List.mem_map.mp (show d ∈ qs.map eP from hd)
    obtain ⟨r1, r2, r3, r4⟩ := pr qs hqs p hp
    rw [List.length_map]
    show (betD (-wideN) wideN (.int p.1) && betD 0 ((rows.length : Int) - 1) (.int p.2)) = true
    rw [betD_ok r1 r2, betD_ok r3 r4]
    rfl
  have mk : mchD (fM ⟨b, z, rows.map (List.map fun p => [p])⟩) = false := by
    rw [e1]
    cases rows with
    | nil => exact absurd c1 (by decide)
    | cons qs rest =>
      have lq := row qs (.head _)
      cases qs with
      | nil => rw [List.length_nil] at lq; omega
      | cons p r =>
        have : ((((p :: r) :: rest).map rowD).flatMap fun st => (elems st).map (chD ((((p :: r) :: rest).map rowD).length : Int))).all id = false := by
          have hc : ∀ m : Int, chD m (eP p) = false := fun m => by
            show (tupD 1 3 (eP p) && ((([.int p.1, .int p.2] : List PyData).all (pairD 20 m)) && decide ((List.map keyD [.int p.1, .int p.2]).Nodup))) = false
            rw [show (([.int p.1, .int p.2] : List PyData).all (pairD 20 m)) = false from rfl]
            simp
          rw [List.map_cons, List.flatMap_cons]
          show (((eP p :: r.map eP).map (chD _)) ++ _).all id = false
          rw [List.map_cons, List.cons_append, List.all_cons, hc]
          rfl
        show (frmD 4 _ && _) = false
        rw [this, Bool.and_false]
  have wd : withD (fM ⟨b, z, rows.map (List.map fun p => [p])⟩) = eM ⟨b, z, rows.map (List.map fun p => [p])⟩ := by
    rw [e1]
    unfold withD eM eS
    simp only [List.map_map]
    refine congrArg (fun l => PyData.tuple [.int b, .str z, .tuple l]) (List.map_congr_left fun xs _ => ?_)
    show PyData.tuple ((elems (.tuple (xs.map eP))).map fun pr => .tuple [pr]) = .tuple ((xs.map fun p => [p]).map eC)
    unfold elems eC
    simp only [List.map_map]
    rfl
  have one : ∀ cs ∈ rows.map (List.map fun p : Int × Int => [p]), ∀ ps ∈ cs, ∃ qs ∈ rows, ∃ p ∈ qs, ps = [p] := fun cs hcs ps hps => by
    obtain ⟨qs, hqs, rfl⟩ := List.mem_map.mp hcs
    obtain ⟨p, hp, rfl⟩ := List.mem_map.mp hps
    exact ⟨qs, hqs, p, hp, rfl⟩
  have l1 : ∀ cs ∈ rows.map (List.map fun p : Int × Int => [p]), ∀ ps ∈ cs, ps.length = 1 := fun cs hcs ps hps => by
    obtain ⟨qs, hqs, p, hp, rfl⟩ := one cs hcs ps hps
    rfl
  have lr : (rows.map (List.map fun p : Int × Int => [p])).length = rows.length := List.length_map _
  refine ⟨⟨⟨b2, b9, hl, (by show 1 ≤ (List.map _ rows).length; omega), (by show (List.map _ rows).length ≤ 300; omega), fun cs hcs => ?_, fun cs hcs ps hps => ?_, fun cs hcs ps hps p hp => ?_, .inr l1⟩, (by show (List.map _ rows).length ≤ 130; omega)⟩, .inr ⟨rfl, mk, pl, wd, l1⟩⟩
  · obtain ⟨qs, hqs, rfl⟩ := List.mem_map.mp hcs
    rw [List.length_map]
    exact row qs hqs
  · rw [l1 cs hcs ps hps]
    exact ⟨Nat.le_refl _, Nat.le_add_left 1 2⟩
  · obtain ⟨qs, hqs, q, hq, rfl⟩ := one cs hcs ps hps
    obtain rfl := List.mem_singleton.mp hp
    obtain ⟨r1, r2, r3, r4⟩ := pr qs hqs p hq
    exact ⟨r1, r2, r3, by show p.2 ≤ ((List.map _ rows).length : Int) - 1; omega⟩
theorem ok_pln3 (TP : PenTxt K mg f1 f2 f3 f4 d1 d2 d3 d4) (T : BlTxt K mg xm xp xf xs ym yp yf ys) {k : Nat} : FnOk P w K mg base CX0 (k + 4) xp yp ["pen", "base", "letters", "most", "wide"] (spPln3 K) := by
  have GTC : FnOk P w K mg base CX0 (k + 3) f3 d3 ["pen", "many"] spTakeC := ok_takeC TP (k := k + 1)
  refine T.FXPlainB.ok scXPlainB (fun vs H Q E h => ?_) (fun cdv A outer s H vs Q E hr h => ?_)
  · obtain ⟨p, c, n, b, z, most, wide, rfl, _⟩ := h
    rfl
  · obtain ⟨p, c, n, b, z, most, wide, rfl, hP, hn, hl, b2', b9', m1, m4, wi0, wiN, q⟩ := h
    refine ⟨_, (Evl.pss_cut (ps_asg (pe_tup (pa_cons (pe_op op_add pe_int (pe_call GTC hr (by rfl) TP.gTake TP.FTake.kp TP.bTake .nil pass0 (pa_cons (pv 0) (pa_cons (pv 3) pa_nil)))) (pa_cons (pe_lst pa_nil) pa_nil))) (pg_tup rfl (pgs_cons (pg_name (i := 5) scXPlainB.nd rfl (.inr rfl)) (pgs_cons (pg_name (i := 6) scXPlainB.nd rfl (.inl rfl)) pgs_nil))))
 (pss_cons (ps_for PassesOwn.never rfl (pi_range1 (by rfl) T.range (pa_cons (pv 5) pa_nil)) (pg_name (i := 7) scXPlainB.nd rfl (.inl rfl))
 (pss_one (ps_expr (pe_bm PySem.F.plainAttrs_list PySem.F.slot_list_append PySem.F.type_list_append mt_append (pv 6) (pa_cons (pe_callTy call_tuple_of (by rfl) T.tuple (by decide +kernel) (pa_cons (pe_lc (own := [("letter", 8)]) (g := gName 8) (tt := tYes) (by rfl) scXPlainB.nd (pi_str (pv 2)) (blkOk_by (N := ["pen", "base", "letters", "most", "wide", "many", "states", "state", "letter"]) (sc := defScope sXPlainB) (by decide +kernel)) (fun _ _ _ _ _ => pg_name (i := 8) scXPlainB.nd rfl (Or.inl rfl)) (fun _ _ _ _ _ => pts_nil) (fun _ _ _ _ _ => (pe_tup (pa_cons (pe_op op_sub (pe_call GTC hr (by rfl) TP.gTake TP.FTake.kp TP.bTake .nil pass0 (pa_cons (pv 0) (pa_cons (pe_op op_add (pe_op op_mul pe_int (pv 4)) pe_int) pa_nil))) (pv 4)) (pa_cons (pe_call GTC hr (by rfl) TP.gTake TP.FTake.kp TP.bTake .nil pass0 (pa_cons (pv 0) (pa_cons (pv 5) pa_nil))) pa_nil))))) pa_nil)) pa_nil)))))
 (pss_one (ps_ret (pe_tup (pa_cons (pv 1) (pa_cons (pv 2) (pa_cons (pe_callTy call_tuple_of (by rfl) T.tuple (by decide +kernel) (pa_cons (pv 6) pa_nil)) pa_nil)))))))), ?_⟩
    have wi1 : wide < 2 ^ 100 := Int.lt_of_le_of_lt wiN wide_two.1
    have z3 : z.cps.size ≤ 3 := ltrD_len (d := .str z) hl
    have sl3 : ∀ {m : Nat}, m ≤ 100 → m < sizeLine := fun h => Nat.lt_of_le_of_lt h (by decide)
    refine ⟨fun σ H' => ∃ (mi : Int) (S : Addr), σ = [some (.ref p), some (.int b), some (.str z), some (.int most), some (.int wide), some (.int mi), some (.ref S), none, none] ∧ 1 ≤ mi ∧ mi ≤ most ∧ But p H H' ∧ PenC H' p c (n + 1) ∧ H' S = some (.lst []) ∧ S ≠ p ∧ S ≠ c ∧ H S = none, ?_, ?_⟩
    · refine ⟨_, rfl, _, rfl, p, c, most, n, rfl, hP, by omega, by omega, log_small (m := 6) (by omega) (by decide), fun H1 k1 b1 hP1 k10 k11 => ⟨_, _, rfl, rfl, (by show 0 ≤ sizeLine; decide), fun S hS => ⟨(by show 2 ≤ sizeLine; decide), fun t ht => ?_⟩⟩⟩
      have x1 := same_upd (o := HO.lst []) hS
      have x2 := x1.trans (same_upd (o := HO.tup [.int (1 + k1), .ref S]) ht)
      obtain ⟨c1, _, _, hp1, hc1, _⟩ := hP1.ex
      refine ⟨t, _, rfl, SqT.of upd_same, rfl, _, _, rfl, _, _, rfl, rfl, 1 + k1, S, rfl, by omega, by omega, b1.trans (But.of x2), hP1.same x2, same_upd ht _ _ upd_same, (ne_of_none hp1 hS).symm, (ne_of_none hc1 hS).symm, butNone b1 (ne_of_none hp1 hS).symm hS⟩
    rintro σ H1 ⟨mi, S, rfl, i1, i4, b1, hP1, hS, nSp, nSc, S0⟩
    refine ⟨_, rfl, _, rfl, by omega, by omega, ?_⟩
    refine for_range (lo := 0) (n := mi.toNat) (fun i σ H' => ∃ v7 vs rows, σ = [some (.ref p), some (.int b), some (.str z), some (.int most), some (.int wide), some (.int mi), some (.ref S), v7, none] ∧ But p H H' ∧ PenC H' p c (n + 1 + 6 * i) ∧ H' S = some (.lst vs) ∧ RpAll K H' vs (List.map rowD rows) ∧ vs.length = i ∧ ∀ qs ∈ rows, qs.length = z.length ∧ ∀ q ∈ qs, Pk wide mi q)
      ⟨none, [], [], rfl, b1, hP1, hS, .nil, rfl, fun _ h => nomatch h⟩ ?_ ?_
    · rintro i σ H2 hi ⟨v7, vs, rows, rfl, b2, hP2, hS2, hV, lv, ok⟩
      refine ⟨_, rfl, .inl ⟨rfl, _, SqL.of hS2⟩, _, rfl, z, rfl, fun D nD => ?_⟩
      obtain ⟨_, _, _, hp2, hc2, _⟩ := hP2.ex
      have xD := same_upd (o := HO.lst []) nD
      have nDp := (ne_of_none hp2 nD).symm
      have nDc := (ne_of_none hc2 nD).symm
      refine lc_it walk_str (fun j H' => ∃ us qs, But p H2 H' ∧ PenC H' p c (n + 1 + 6 * i + 2 * j) ∧ H' D = some (.lst us) ∧ RpAll K H' us (List.map eP qs) ∧ us.length = j ∧ ∀ q ∈ qs, Pk wide mi q) ⟨[], [], But.of xD, hP2.same xD, upd_same, .nil, rfl, fun _ h => nomatch h⟩ (fun _ _ _ _ => trivial) ?_ ?_
      · rintro j u H' H3 hj ⟨us, qs, bj, hPj, hD, hU, lu, oku⟩ ⟨rfl, cc, hcc, rfl⟩
        refine ⟨rfl, ?_⟩
        refine ⟨_, rfl, _, rfl, _, _, rfl, rfl, .inl ⟨by decide, by decide⟩, _, _, rfl, rfl, p, c, 2 * wide + 1, _, rfl, hPj, by omega, by omega, ?_, fun H6 k6 b6 hP6 k60 k61 => ?_⟩
        · exact Nat.lt_trans (log_le (k := 103) (show (2 * wide + 1).natAbs < 2 ^ 103 by omega) (by decide)) (by decide)
        refine ⟨_, rfl, _, _, rfl, rfl, _, rfl, _, rfl, p, c, mi, _, rfl, hP6, by omega, by omega, log_small (m := 6) (by omega) (by decide), fun H7 k7 b7 hP7 k70 k71 => ⟨(by show 2 ≤ sizeLine; decide), fun T hT => ?_⟩⟩
        have b67 := b6.trans b7
        have bT7 : TStay K H3 H7 := ts_but hPj.pen b67
        have hD7 := b67 _ _ nDp hD
        have xT := same_upd (o := HO.tup [.int (k6 - wide), .int k7]) hT
        have isp : Pk wide mi (k6 - wide, k7) := ⟨by show -wide ≤ k6 - wide; omega, by show k6 - wide ≤ wide; omega, k70, by show k7 ≤ mi - 1; omega⟩
        have hDT := xT _ _ hD7
        have bt : TStay K (upd H7 T (HO.tup [.int (k6 - wide), .int k7])) (upd (upd H7 T (HO.tup [.int (k6 - wide), .int k7])) D (HO.lst (us ++ [V.ref T]))) := ts_lst hDT
        have z9 : z.cps.size ≤ 3 := z3
        refine ⟨_, hDT, sl3 (by omega), us ++ [V.ref T], qs ++ [(k6 - wide, k7)], ?_, ?_, upd_same, ?_, by rw [List.length_append, lu]; rfl, all_snoc oku isp⟩
        · intro b o nb e
          rw [upd_ne (ne_of_none e nD)]
          exact xT _ _ (b67 _ _ nb (bj _ _ nb e))
        · exact (hP7.keep (fun o e => by rw [upd_ne nDp.symm]; exact xT _ _ e) (fun o e => by rw [upd_ne nDc.symm]; exact xT _ _ e)).mono (by omega)
        · rw [map_snoc]
          exact rp_snoc (goP ((bT7.trans (ts_same xT)).trans bt) hU) (.tup (bt _ _ (SqT.of upd_same)) (.cons (.int _) (.cons (.int _) .nil)))
      · rintro H3 ⟨us, qs, bj, hPj, hD, hU, lu, oku⟩
        have lu3 : us.length ≤ 3 := by rw [lu]; exact z3
        refine ⟨D, _, rfl, .inl ⟨SqL.of hD, fun t ht => ?_⟩⟩
        have xt := same_upd (o := HO.tup us) ht
        have hS3 := xt _ _ (bj _ _ nSp hS2)
        refine ⟨S, _, _, rfl, rfl, hS3, sl3 (by omega), ?_⟩
        have bt : TStay K (upd H3 t (HO.tup us)) (upd (upd H3 t (HO.tup us)) S (HO.lst (vs ++ [V.ref t]))) := ts_lst hS3
        have bT3 : TStay K H2 H3 := ts_but hP2.pen bj
        have luq : us.length = qs.length := by rw [hU.len, List.length_map]
        refine ⟨_, vs ++ [V.ref t], rows ++ [qs], rfl, ?_, ?_, upd_same, ?_, by rw [List.length_append, lv]; rfl, all_snoc ok ⟨luq.symm.trans lu, oku⟩⟩
        · intro b o nb e
          rw [upd_ne (ne_of_none e S0)]
          exact xt _ _ (bj _ _ nb (b2 _ _ nb e))
        · exact (hPj.keep (fun o e => by rw [upd_ne nSp.symm]; exact xt _ _ e) (fun o e => by rw [upd_ne nSc.symm]; exact xt _ _ e)).mono (by have : z.cps.size ≤ 3 := z3; omega)
        · rw [map_snoc]
          exact rp_snoc (goR ((bT3.trans (ts_same xt)).trans bt) hV) (.tup (bt _ _ (SqT.of upd_same)) (goP ((ts_same xt).trans bt) hU))
    · rintro σ H2 ⟨v7, vs, rows, rfl, b2, hP2, hS2, hV, lv, ok⟩
      refine ⟨_, rfl, _, rfl, _, rfl, S, _, rfl, .inl ⟨SqL.of hS2, fun t ht => ⟨(by show 3 ≤ sizeLine; decide), fun u hu => ?_⟩⟩⟩
      have xt := same_upd (o := HO.tup vs) ht
      have xu := same_upd (o := HO.tup [V.int b, V.str z, V.ref t]) hu
      have x2 := xt.trans xu
      have hz : z.length ≤ sizeLine := Nat.le_trans (show z.length ≤ 3 from z3) (by decide)
      have lvr : vs.length = rows.length := by rw [hV.len, List.length_map]
      have emi : mi = (rows.length : Int) := by omega
      have hPt := hP2.same xt
      obtain ⟨_, _, _, hpt, _, _⟩ := hPt.ex
      obtain ⟨sd, rp⟩ := pln_made (K := K) b2' b9' hl (by omega) (by omega) (fun qs hqs => (ok qs hqs).1) (fun qs hqs q hq => by
        obtain ⟨h1, h2, h3, h4⟩ := (ok qs hqs).2 q hq
        exact ⟨by omega, by omega, h3, by omega⟩)
      refine q _ u ⟨b, z, rows.map (List.map fun p => [p])⟩ (b2.trans (But.of x2)) ((hP2.same x2).mono (by omega)) (ne_of_none hpt hu).symm ?_ sd rfl rfl (by show ((rows.map (List.map fun p : Int × Int => [p])).length : Int) ≤ most; rw [List.length_map]; omega) (fun cs hcs ps hps p hp => ?_)
      · rw [rp]
        exact .tup (SqT.of upd_same) (.cons (.int b) (.cons (.str z hz) (.cons (.tup (SqT.of (xu _ _ upd_same)) (goR (ts_same x2) hV)) .nil)))
      · obtain ⟨qs, hqs, rfl⟩ := List.mem_map.mp hcs
        obtain ⟨q1, hq1, rfl⟩ := List.mem_map.mp hps
        obtain rfl := List.mem_singleton.mp hp
        have := (ok qs hqs).2 p hq1
        exact ⟨this.lo, this.hi⟩
end
end My
/-! ### rules for the looks at data -/
namespace My
open PySem PySem.Spec PyProof.Rows L2
/-! isinstance of data -/
theorem Rp.tyx {K : PySem.W.Frag} {H : Hp} {x : V} {d : PyData} (h : Rp K H x d) : TyX K H x (.type (kindOf d)) := by
  cases h with
  | non => exact .base .non
  | bl => exact .base (.bl _)
  | int => exact .base (.int _)
  | str => exact .base (.str _)
  | lst h1 _ =>
    rcases h1 with (z | ⟨o, z⟩) | ⟨o, its, n, z, c, _⟩
    · exact .base (.lst z)
    · exact .base (.frz z)
    · exact .kList z c
  | tup h1 _ =>
    rcases h1 with (z | ⟨o, z⟩) | ⟨o, its, n, z, c, _⟩
    · exact .base (.tup z)
    · exact .fTuple z
    · exact .kTuple z c
  | dct h1 => exact .base (.dK h1)
def isInt : PyData → Bool
  | .bool _ => true
  | .int _ => true
  | _ => false
theorem kit_int {K : PySem.W.Frag} (d : PyData) : PySem.W.kitOne K (.type (kindOf d)) (.type "int") = some (isInt d) := by
  cases d with
  | none => exact kit_ty (by decide +kernel : L2.kitB "NoneType" "int" = some false)
  | bool _ => exact kit_ty (by decide +kernel : L2.kitB "bool" "int" = some true)
  | int _ => exact kit_ty (by decide +kernel : L2.kitB "int" "int" = some true)
  | str _ => exact kit_ty (by decide +kernel : L2.kitB "str" "int" = some false)
  | list _ => exact kit_ty (by decide +kernel : L2.kitB "list" "int" = some false)
  | tuple _ => exact kit_ty (by decide +kernel : L2.kitB "tuple" "int" = some false)
  | dict _ => exact kit_ty (by decide +kernel : L2.kitB "dict" "int" = some false)
def isBool : PyData → Bool
  | .bool _ => true
  | _ => false
theorem kit_bool {K : PySem.W.Frag} (d : PyData) : PySem.W.kitOne K (.type (kindOf d)) (.type "bool") = some (isBool d) := by
  cases d with
  | none => exact kit_ty (by decide +kernel : L2.kitB "NoneType" "bool" = some false)
  | bool _ => exact kit_ty (by decide +kernel : L2.kitB "bool" "bool" = some true)
  | int _ => exact kit_ty (by decide +kernel : L2.kitB "int" "bool" = some false)
  | str _ => exact kit_ty (by decide +kernel : L2.kitB "str" "bool" = some false)
  | list _ => exact kit_ty (by decide +kernel : L2.kitB "list" "bool" = some false)
  | tuple _ => exact kit_ty (by decide +kernel : L2.kitB "tuple" "bool" = some false)
  | dict _ => exact kit_ty (by decide +kernel : L2.kitB "dict" "bool" = some false)
def isStr : PyData → Bool
  | .str _ => true
  | _ => false
theorem kit_str {K : PySem.W.Frag} (d : PyData) : PySem.W.kitOne K (.type (kindOf d)) (.type "str") = some (isStr d) := by
  cases d with
  | none => exact kit_ty (by decide +kernel : L2.kitB "NoneType" "str" = some false)
  | bool _ => exact kit_ty (by decide +kernel : L2.kitB "bool" "str" = some false)
  | int _ => exact kit_ty (by decide +kernel : L2.kitB "int" "str" = some false)
  | str _ => exact kit_ty (by decide +kernel : L2.kitB "str" "str" = some true)
  | list _ => exact kit_ty (by decide +kernel : L2.kitB "list" "str" = some false)
  | tuple _ => exact kit_ty (by decide +kernel : L2.kitB "tuple" "str" = some false)
  | dict _ => exact kit_ty (by decide +kernel : L2.kitB "dict" "str" = some false)
def isTup : PyData → Bool
  | .tuple _ => true
  | _ => false
theorem kit_tuple {K : PySem.W.Frag} (d : PyData) : PySem.W.kitOne K (.type (kindOf d)) (.type "tuple") = some (isTup d) := by
  cases d with
  | none => exact kit_ty (by decide +kernel : L2.kitB "NoneType" "tuple" = some false)
  | bool _ => exact kit_ty (by decide +kernel : L2.kitB "bool" "tuple" = some false)
  | int _ => exact kit_ty (by decide +kernel : L2.kitB "int" "tuple" = some false)
  | str _ => exact kit_ty (by decide +kernel : L2.kitB "str" "tuple" = some false)
  | list _ => exact kit_ty (by decide +kernel : L2.kitB "list" "tuple" = some false)
  | tuple _ => exact kit_ty (by decide +kernel : L2.kitB "tuple" "tuple" = some true)
  | dict _ => exact kit_ty (by decide +kernel : L2.kitB "dict" "tuple" = some false)
def isLst : PyData → Bool
  | .list _ => true
  | _ => false
theorem kit_list {K : PySem.W.Frag} (d : PyData) : PySem.W.kitOne K (.type (kindOf d)) (.type "list") = some (isLst d) := by
  cases d with
  | none => exact kit_ty (by decide +kernel : L2.kitB "NoneType" "list" = some false)
  | bool _ => exact kit_ty (by decide +kernel : L2.kitB "bool" "list" = some false)
  | int _ => exact kit_ty (by decide +kernel : L2.kitB "int" "list" = some false)
  | str _ => exact kit_ty (by decide +kernel : L2.kitB "str" "list" = some false)
  | list _ => exact kit_ty (by decide +kernel : L2.kitB "list" "list" = some true)
  | tuple _ => exact kit_ty (by decide +kernel : L2.kitB "tuple" "list" = some false)
  | dict _ => exact kit_ty (by decide +kernel : L2.kitB "dict" "list" = some false)
def isDct : PyData → Bool
  | .dict _ => true
  | _ => false
theorem kit_dict {K : PySem.W.Frag} (d : PyData) : PySem.W.kitOne K (.type (kindOf d)) (.type "dict") = some (isDct d) := by
  cases d with
  | none => exact kit_ty (by decide +kernel : L2.kitB "NoneType" "dict" = some false)
  | bool _ => exact kit_ty (by decide +kernel : L2.kitB "bool" "dict" = some false)
  | int _ => exact kit_ty (by decide +kernel : L2.kitB "int" "dict" = some false)
  | str _ => exact kit_ty (by decide +kernel : L2.kitB "str" "dict" = some false)
  | list _ => exact kit_ty (by decide +kernel : L2.kitB "list" "dict" = some false)
  | tuple _ => exact kit_ty (by decide +kernel : L2.kitB "tuple" "dict" = some false)
  | dict _ => exact kit_ty (by decide +kernel : L2.kitB "dict" "dict" = some true)
/-! x in t, t a tuple of data -/
theorem op_inTD {X : Cx} (hu : X.A.units + 65 < cLine) : OpR X (compareOp .In) (fun x y H Q => ∃ d ds, Dp X.K H x d ∧ Dp X.K H y (.tuple ds) ∧ SeqAt.shaped d = true ∧ SeqAt.shaped (.tuple ds) = true ∧ Q (.bl (ds.any fun z => PyData.eqv z d)) H) := by
  intro pins s σ H x y v u Q I rx ry h
  obtain ⟨d, ds, hd, he, sd, se, q⟩ := h
  obtain ⟨as, r1⟩ := Dp.reads I d x v hd rx
  obtain ⟨bs, r2⟩ := Dp.reads I (.tuple ds) y u he ry
  exact SeqAt.in_tuple_reads r2 r1 (SeqAt.canLay_of_shaped se) (SeqAt.canLay_of_shaped sd) (room_in_shaped sd hu) ⟨.bl _, H, I, rfl, q⟩
/-! len(set(xs)), xs a list of ints -/
def kinds (ns : List Int) : Nat → List Int := PyProof.Rows.firstMet fun i => ns.getD i 0
def tLenSetN (K : PySem.W.Frag) (ta : TE) : TE := fun σ H Q => ta σ H fun x H1 => ∃ (l : Addr) (ns : List Int), x = .ref l ∧ SqL K H1 l (ns.map V.int) ∧ ns.length ≤ 4000 ∧ Q (.int ((kinds ns ns.length).length : Nat)) H1
theorem pe_lenSetN {X : Cx} {a : Expr} {ta : TE} {p p2 q pos : Pos} (hg : Gl X "len") (hm : X.mg "len" = none) (hg2 : Gl X "set") (hm2 : X.mg "set" = none) (ha : PE X a ta) (hc : X.calm = true := by rfl)
    (na : starEach [a] X.env = (false, eval a X.env) :: starEach [] X.env := by rfl) : PE X (.Call (.Name "len" p) [.Call (.Name "set" p2) [a] [] q] [] pos) (tLenSetN X.K ta) := by
  refine ⟨fun pins s σ H Q I h => ?_⟩
  refine Call_ (ld_blt I hg hm boot_len (PyProof.Rows.callWith_builtin1 (PyProof.Rows.args_cons ?_ rfl) rfl rfl))
  refine Call_ (ld_blt I hg2 hm2 boot_set (PyProof.Rows.callWith_type1 (PyProof.Rows.args_cons (thn (ha.run pins s σ H _ I h) fun v s1 z => PyProof.Rows.args_nil ?_) na) na rfl))
  obtain ⟨x, H1, J, r1, l, ns, rfl, hq, hl, q1⟩ := z
  cases r1
  obtain ⟨its, r, pl, hz⟩ := J.list hq
  have same : its.toArray.size = ns.length := by rw [List.size_toArray, ← r.length, List.length_map]
  refine call_set_list (J.ok.hd hc) pl.isList (by simpa using RZ.intsAre_vals r) (by rw [same]; unfold scanBound; omega) fun h' tk hS hk => PyProof.Rows.args_nil ?_
  rw [same] at hS
  obtain ⟨o, es, ep, t, ho, hex, hd, _, _, _, hf, hn⟩ := hS
  have J2 : Inv X pins σ H1 { s1 with heap := h', toks := tk } := J.kept fun b o e => hk b o (Heap.lt_size e) e
  have few : (kinds ns ns.length).length ≤ ns.length := PyProof.Rows.firstMet_length_le (fun i => ns.getD i 0) ns.length
  have hn2 : es.size = (kinds ns ns.length).length := hn
  refine call_len_set ho hex hd hf (by omega) ⟨.int (kinds ns ns.length).length, H1, J2.tok _, ⟨_, by rw [hn2]⟩, q1⟩
/-- as many as there are: none is twice -/
theorem kinds_at {ns : List Int} : ∀ i, i ≤ ns.length → ((kinds ns i).length = i ↔ (ns.take i).Nodup)
  | 0, _ => by simp [kinds, PyProof.Rows.firstMet_zero]
  | i + 1, hi => by
    have ih := @kinds_at ns i (by omega)
    have le : (kinds ns i).length ≤ i := PyProof.Rows.firstMet_length_le (fun i => ns.getD i 0) i
    have hx : ns.getD i 0 = ns[i] := by
      rw [List.getD_eq_getElem?_getD, List.getElem?_eq_getElem (show i < ns.length by omega)]
      rfl
    have pre : (List.range i).map (fun i => ns.getD i 0) = ns.take i := by
      refine List.ext_getElem (by simp; omega) fun j h1 h2 => ?_
      have hj : j < ns.length := by
        rw [List.length_map, List.length_range] at h1
        omega
      rw [List.getElem_map, List.getElem_range, List.getElem_take, List.getD_eq_getElem?_getD, List.getElem?_eq_getElem hj]
      rfl
    have any : (kinds ns i).any (· == ns[i]) = (ns.take i).any (· == ns[i]) := by
      have := PyProof.Rows.firstMet_any (fun i => ns.getD i 0) i ns[i]
      rw [pre] at this
      exact this
    have len : (kinds ns (i + 1)).length = if (kinds ns i).any (· == ns[i]) = true then (kinds ns i).length else (kinds ns i).length + 1 := by
      have e : kinds ns (i + 1) = PyProof.Rows.step_dedup (kinds ns i) (ns.getD i 0) := PyProof.Rows.firstMet_succ (fun i => ns.getD i 0) i
      rw [e, PyProof.Rows.step_length, hx]
    rw [len, any, List.take_succ, List.getElem?_eq_getElem (show i < ns.length by omega)]
    have mem : (ns.take i).any (· == ns[i]) = true ↔ ns[i] ∈ ns.take i := by
      rw [List.any_eq_true]
      constructor
      · rintro ⟨x, hx, e⟩
        rw [beq_iff_eq] at e
        rw [← e]
        exact hx
      · exact fun h => ⟨_, h, beq_self_eq_true _⟩
    have nd : (ns.take i ++ [ns[i]]).Nodup ↔ (ns.take i).Nodup ∧ ¬ ns[i] ∈ ns.take i := by
      rw [List.nodup_append]
      constructor
      · rintro ⟨h1, _, h3⟩
        exact ⟨h1, fun h => h3 _ h _ (List.mem_singleton.mpr rfl) rfl⟩
      · rintro ⟨h1, h2⟩
        refine ⟨h1, by simp, fun a ha b hb e => h2 ?_⟩
        rw [List.mem_singleton.mp hb] at e
        rw [← e]
        exact ha
    show _ ↔ (ns.take i ++ [ns[i]]).Nodup
    rw [nd]
    by_cases h : (ns.take i).any (· == ns[i]) = true
    · rw [if_pos h]
      exact ⟨fun e => by omega, fun e => absurd (mem.mp h) e.2⟩
    · rw [if_neg h]
      have h2 : ¬ ns[i] ∈ ns.take i := fun m => h (mem.mpr m)
      exact ⟨fun e => ⟨ih.mp (by omega), h2⟩, fun e => by rw [ih.mpr e.1]⟩
theorem kinds_all {ns : List Int} : (kinds ns ns.length).length = ns.length ↔ ns.Nodup := by
  have h := kinds_at (ns := ns) ns.length (Nat.le_refl _)
  rw [List.take_length] at h
  exact h
/-! one sign found in the alphabet -/
theorem find_abc (c : Nat) : Txt.find abc ⟨#[c]⟩ = if 97 ≤ c ∧ c ≤ 122 then ((c - 97 : Nat) : Int) else -1 := by
  have there : ∀ n : Nat, n < 26 → Txt.find abc ⟨#[97 + n]⟩ = (n : Int) := by decide +kernel
  by_cases h : 97 ≤ c ∧ c ≤ 122
  · rw [if_pos h]
    have := there (c - 97) (by omega)
    rw [show 97 + (c - 97) = c by omega] at this
    exact this
  · rw [if_neg h]
    have ll : ∀ x ∈ abc.cps.toList, 97 ≤ x ∧ x ≤ 122 := by decide +kernel
    have e := PySem.StrLaws.found_one abc c
    rw [decide_eq_false (fun m => h (ll c m))] at e
    unfold Txt.find
    cases q : Builtin.Str.occurrences abc ⟨#[c]⟩ 0 abc.length 1 with
    | nil => rfl
    | cons a b =>
      rw [q] at e
      cases e
end My
/-! ### a state, or None -/
namespace My
open PySem PySem.Spec PyProof.Rows L2
def stV : Option Int → V
  | some i => .int i
  | none => .non
end My
/-! ### the law's rule -/
namespace My
open PySem PySem.Spec PyProof.Rows L2
abbrev sXRule : Stmt := topS 66
theorem scXRule : FnScope ["pen", "letters", "most", "many", "states", "state", "row", "letter", "after"] ["pen", "letters", "most"] (defScope sXRule) := ⟨rfl, rfl, rfl, by decide +kernel, rfl, by decide +kernel, by decide +kernel⟩
structure RulTxt (K : PySem.W.Frag) (mg : Str → Option Value) (x2 : Addr) (y2 : FuncData) : Prop where
  range : mg "range" = none
  len : mg "len" = none
  tuple : mg "tuple" = none
  FXRule : Fun K "_law_x_rule" "_law_x_rule" sXRule x2 y2
  bXRule : Binds K y2 ["pen", "letters", "most"] []
  gXRule : mg "_law_x_rule" = some (.ref x2)
def stD : Option Int → PyData
  | some i => .int i
  | none => .none
theorem letters_pos {z : Str} (h : lettersL z.cps.toList = true) : 0 < z.length := by
  have e : z.cps.toList.length = z.length := Array.length_toList
  rw [← e]
  cases l : z.cps.toList with
  | nil => rw [l] at h; cases h
  | cons a b => exact Nat.succ_pos _
theorem but_none {p a : Addr} {H H' : Hp} (b : But p H H') (n : a ≠ p) (e : H' a = none) : H a = none := by
  cases h : H a with
  | none => rfl
  | some o => exact absurd ((b a o n h).symm.trans e) (by simp)
/-- a row of a rule's table -/
structure RowOk (n m : Nat) (r : List (Option Int)) : Prop where
  len : r.length = n
  has : ∃ x ∈ r, x ≠ none
  range : ∀ i, some i ∈ r → 0 ≤ i ∧ i < (m : Int)
def rowsD (rows : List (List (Option Int))) : List PyData := rows.map fun r => .tuple (r.map stD)
theorem rulD_rows {z : Str} {rows : List (List (Option Int))} (hl : lettersL z.cps.toList = true) (h1 : 1 ≤ rows.length) (h2 : rows.length ≤ 4) (h : ∀ r ∈ rows, RowOk z.length rows.length r) : rulD (.tuple [.str z, .tuple (rowsD rows)]) = true := by
  have ln : (rowsD rows).length = rows.length := List.length_map ..
  rw [rulD, Bool.and_eq_true, Bool.and_eq_true, tabD, Bool.and_eq_true, List.all_eq_true, List.all_eq_true]
  refine ⟨hl, ⟨?_, fun e he => ?_⟩, fun e he => ?_⟩
  · rw [tupD, Bool.and_eq_true, decide_eq_true_eq, decide_eq_true_eq, ln]
    omega
  · obtain ⟨r, hr, rfl⟩ := List.mem_map.mp he
    rw [tupD, Bool.and_eq_true, decide_eq_true_eq, decide_eq_true_eq, List.length_map, (h r hr).len]
    exact ⟨Int.le_refl _, Int.le_refl _⟩
  · obtain ⟨r, hr, rfl⟩ := List.mem_map.mp he
    rw [wayD, Bool.and_eq_true, List.all_eq_true, decide_eq_true_eq, ln]
    refine ⟨?_, fun d hd => ?_⟩
    · obtain ⟨x, hx, hn⟩ := (h r hr).has
      cases x with
      | none => exact absurd rfl hn
      | some i =>
        have : PyData.int i ∈ (r.map stD).filter someD := List.mem_filter.mpr ⟨List.mem_map.mpr ⟨some i, hx, rfl⟩, rfl⟩
        have := List.length_pos_of_mem this
        omega
    · obtain ⟨hd1, hd2⟩ := List.mem_filter.mp hd
      obtain ⟨x, hx, rfl⟩ := List.mem_map.mp hd1
      cases x with
      | none => cases hd2
      | some i =>
        have := (h r hr).range i hx
        show betD 0 _ (.int i) = true
        rw [betD, Bool.and_eq_true, decide_eq_true_eq, decide_eq_true_eq]
        omega
/-- the tuples of rows stand -/
inductive RowsAt (p : Addr) (H : Hp) : List Addr → List (List (Option Int)) → Prop
  | nil : RowsAt p H [] []
  | cons {t : Addr} {r : List (Option Int)} {ts : List Addr} {rows : List (List (Option Int))} : (t ≠ p ∧ H t = some (.tup (r.map stV))) → RowsAt p H ts rows → RowsAt p H (t :: ts) (r :: rows)
theorem RowsAt.go {p : Addr} {H H' : Hp} {ts : List Addr} {rows : List (List (Option Int))} (h : RowsAt p H ts rows) (g : ∀ (t : Addr) (r : List (Option Int)), t ≠ p → H t = some (.tup (r.map stV)) → H' t = some (.tup (r.map stV))) : RowsAt p H' ts rows := by
  induction h with
  | nil => exact .nil
  | cons a _ ih => exact .cons ⟨a.1, g _ _ a.1 a.2⟩ ih
theorem RowsAt.snoc {p : Addr} {H : Hp} {ts : List Addr} {rows : List (List (Option Int))} (h : RowsAt p H ts rows) {t : Addr} {r : List (Option Int)} (n : t ≠ p) (e : H t = some (.tup (r.map stV))) : RowsAt p H (ts ++ [t]) (rows ++ [r]) := by
  induction h with
  | nil => exact .cons ⟨n, e⟩ .nil
  | cons a _ ih => exact .cons a ih
theorem rs_st {p : Addr} {K : PySem.W.Frag} {H : Hp} (x : Option Int) : Rs p K H (stV x) (stD x) := by
  cases x with
  | none => exact rs_non
  | some i => exact rs_int i
theorem RowsAt.rs {p : Addr} {K : PySem.W.Frag} {H : Hp} {ts : List Addr} {rows : List (List (Option Int))} (h : RowsAt p H ts rows) : RsAll p K H (ts.map V.ref) (rowsD rows) := by
  induction h with
  | nil => exact rsNil
  | cons a _ ih => exact RsAll.cons (rs_tup a.1 a.2 (rsAll_of fun x _ => rs_st x)) ih
def spXRule (K : PySem.W.Frag) : Sp := fun vs H Q _ => ∃ (p : Addr) (n : Nat) (z : Str) (most : Int), vs = [.ref p, .str z, .int most] ∧ Pen H p n ∧ n < 1047000 ∧ lettersL z.cps.toList = true ∧ 1 ≤ most ∧ most ≤ 4 ∧
  ∀ (H' : Hp) (t : Addr) (rows : List (List (Option Int))), But p H H' → Pen H' p (n + 45) → Rs p K H' (.ref t) (.tuple [.str z, .tuple (rowsD rows)]) → rulD (.tuple [.str z, .tuple (rowsD rows)]) = true → 1 ≤ rows.length → (rows.length : Int) ≤ most → (∀ r ∈ rows, RowOk z.length rows.length r) → Q (.ref t) H'
section
variable {P : Program} {w : World} {K : PySem.W.Frag} {mg : Str → Option Value} {base : Heap} {f1 f2 f3 f4 : Addr} {d1 d2 d3 d4 : FuncData} {x2 : Addr} {y2 : FuncData}
theorem ok_xRule (TP : PenTxt K mg f1 f2 f3 f4 d1 d2 d3 d4) (T : RulTxt K mg x2 y2) {k : Nat} : FnOk P w K mg base CX0 (k + 4) x2 y2 ["pen", "letters", "most"] (spXRule K) := by
  have GT : FnOk P w K mg base CX0 (k + 3) f3 d3 ["pen", "many"] spTake := ok_take TP (k := k + 1)
  have GTC : FnOk P w K mg base CX0 (k + 3) f3 d3 ["pen", "many"] spTakeC := ok_takeC TP (k := k + 1)
  have GP : FnOk P w K mg base CX0 (k + 3) f4 d4 ["pen", "some"] (spPickC K) := ok_pickC TP (k := k)
  refine T.FXRule.ok scXRule (fun vs H Q E h => ?_) (fun cdv A outer s H vs Q E hr h => ?_)
  · obtain ⟨p, n, z, most, rfl, _⟩ := h
    rfl
  · obtain ⟨p, n, z, most, rfl, hP, hn, hl, m1, m4, q⟩ := h
    refine ⟨_, (Evl.pss_cut (ps_asg (pe_tup (pa_cons (pe_op op_add pe_int (pe_call GTC hr (by rfl) TP.gTake TP.FTake.kp TP.bTake .nil pass0 (pa_cons (pv 0) (pa_cons (pv 2) pa_nil)))) (pa_cons (pe_lst pa_nil) pa_nil))) (pg_tup rfl (pgs_cons (pg_name (i := 3) scXRule.nd rfl (.inr rfl)) (pgs_cons (pg_name (i := 4) scXRule.nd rfl (.inl rfl)) pgs_nil))))
 (pss_cons (ps_for PassesOwn.never rfl (pi_range1 (by rfl) T.range (pa_cons (pv 3) pa_nil)) (pg_name (i := 5) scXRule.nd rfl (.inl rfl))
 (Evl.pss_cut (ps_setLc (i := 6) (own := [("letter", 7)]) (g := gName 7) (tt := tYes) (by rfl) scXRule.nd rfl rfl (sw_true rfl rfl rfl (by decide +kernel)) (pi_str (pv 1)) (blkOk_by (N := ["pen", "letters", "most", "many", "states", "state", "row", "letter", "after"]) (sc := defScope sXRule) (by decide +kernel)) (fun _ _ _ _ _ => pg_name (i := 7) scXRule.nd rfl (Or.inl rfl)) (fun _ _ _ _ _ => pts_nil) (fun _ _ _ _ _ => (pe_call GP hr (by rfl) TP.gPick TP.FPick.kp TP.bPick .nil pass0 (pa_cons (pv 0) (pa_cons (pe_lst (pa_cons pe_non (pa_cons (pe_call GTC hr (by rfl) TP.gTake TP.FTake.kp TP.bTake .nil pass0 (pa_cons (pv 0) (pa_cons (pv 3) pa_nil))) (pa_cons (pe_call GTC hr (by rfl) TP.gTake TP.FTake.kp TP.bTake .nil pass0 (pa_cons (pv 0) (pa_cons (pv 3) pa_nil))) pa_nil)))) pa_nil)))))
 (Evl.pss_cut (ps_if (pt_cmpR op_notIn_seq pe_bl (pe_lc (own := [("after", 8)]) (g := gName 8) (tt := tYes) (by rfl) scXRule.nd (pi_list (pv 6)) (blkOk_by (N := ["pen", "letters", "most", "many", "states", "state", "row", "letter", "after"]) (sc := defScope sXRule) (by decide +kernel)) (fun _ _ _ _ _ => pg_name (i := 8) scXRule.nd rfl (Or.inl rfl)) (fun _ _ _ _ _ => pts_nil) (fun _ _ _ _ _ => (pe_cmpR op_isN (pv 8) pe_non (nomark _)))) (by rfl)) (pss_one (ps_asg (pe_call GTC hr (by rfl) TP.gTake TP.FTake.kp TP.bTake .nil pass0 (pa_cons (pv 0) (pa_cons (pv 3) pa_nil))) (pg_sub (pv 6) (pe_call GTC hr (by rfl) TP.gTake TP.FTake.kp TP.bTake .nil pass0 (pa_cons (pv 0) (pa_cons (pe_callB call_len_seq (by rfl) T.len PySem.boot_len (pa_cons (pv 6) pa_nil)) pa_nil))) set_list))) pss_nil)
 (pss_one (ps_expr (pe_bm PySem.F.plainAttrs_list PySem.F.slot_list_append PySem.F.type_list_append mt_append (pv 4) (pa_cons (pe_callTy call_tuple_of (by rfl) T.tuple (by decide +kernel) (pa_cons (pv 6) pa_nil)) pa_nil)))))))
 (pss_one (ps_ret (pe_tup (pa_cons (pv 1) (pa_cons (pe_callTy call_tuple_of (by rfl) T.tuple (by decide +kernel) (pa_cons (pv 4) pa_nil)) pa_nil))))))), ?_⟩
    obtain ⟨c, hP⟩ := hP.at
    have z3 : z.cps.size ≤ 3 := ltrD_len (d := .str z) hl
    have sl3 : ∀ {m : Nat}, m ≤ 3 → m < sizeLine := fun h => Nat.lt_of_le_of_lt h (by decide)
    refine ⟨fun σ H' => ∃ (mi : Int) (S : Addr), σ = [some (.ref p), some (.str z), some (.int most), some (.int mi), some (.ref S), none, none, none, none] ∧ 1 ≤ mi ∧ mi ≤ most ∧ But p H H' ∧ PenC H' p c (n + 1) ∧ H' S = some (.lst []) ∧ S ≠ p ∧ S ≠ c ∧ H S = none, ?_, ?_⟩
    · refine ⟨_, rfl, _, rfl, p, c, most, n, rfl, hP, by omega, by omega, log_small (m := 4) (by omega) (by decide), fun H1 k1 b1 hP1 k10 k11 => ⟨_, _, rfl, rfl, (by show 0 ≤ sizeLine; decide), fun S hS => ⟨(by show 2 ≤ sizeLine; decide), fun t ht => ?_⟩⟩⟩
      have x1 := same_upd (o := HO.lst []) hS
      have x2 := same_upd (o := HO.tup [.int (1 + k1), .ref S]) ht
      obtain ⟨c1, _, _, hp1, hc1, _⟩ := hP1.ex
      refine ⟨t, _, rfl, SqT.of upd_same, rfl, _, _, rfl, _, _, rfl, rfl, 1 + k1, S, rfl, by omega, by omega, b1.trans (But.of (x1.trans x2)), hP1.keep (fun o e => (x1.trans x2) _ _ e) (fun o e => (x1.trans x2) _ _ e), x2 _ _ upd_same, (ne_of_none hp1 hS).symm, (ne_of_none hc1 hS).symm, but_none b1 (ne_of_none hp1 hS).symm hS⟩
    rintro σ H1 ⟨mi, S, rfl, i1, i4, b1, hP1, hS, nSp, nSc, S0⟩
    refine ⟨_, rfl, _, rfl, by omega, by omega, ?_⟩
    have lift : ∀ {i : Nat} {v5 v6 : Option V}, True := trivial
    refine for_range (lo := 0) (n := mi.toNat) (fun i σ H' => ∃ v5 v6 ts rows, σ = [some (.ref p), some (.str z), some (.int most), some (.int mi), some (.ref S), v5, v6, none, none] ∧ But p H H' ∧ PenC H' p c (n + 1 + 11 * i) ∧ H' S = some (.lst (ts.map V.ref)) ∧ RowsAt p H' ts rows ∧ rows.length = i ∧ ts.length = i ∧ ∀ r ∈ rows, RowOk z.length mi.toNat r)
      ⟨none, none, [], [], rfl, b1, hP1, hS, .nil, rfl, rfl, fun _ h => nomatch h⟩ ?_ ?_
    · rintro i σ H2 hi ⟨v5, v6, ts, rows, rfl, b2, hP2, hS2, hR, lr, lt, ok⟩
      -- row
      refine ⟨fun σ H' => ∃ (R : Addr) (r : List (Option Int)), σ = [some (.ref p), some (.str z), some (.int most), some (.int mi), some (.ref S), some (.int (0 + (i : Int))), some (.ref R), none, none] ∧ But p H H' ∧ PenC H' p c (n + 1 + 11 * i + 9) ∧ H' S = some (.lst (ts.map V.ref)) ∧ RowsAt p H' ts rows ∧ H' R = some (.lst (r.map stV)) ∧ r.length = z.length ∧ (∀ j, some j ∈ r → 0 ≤ j ∧ j < mi) ∧ R ≠ p ∧ R ≠ S ∧ R ≠ c ∧ H R = none, ?_, ?_⟩
      · refine ⟨_, rfl, z, rfl, fun D nD => ?_⟩
        obtain ⟨_, _, _, hp2, hc2, _⟩ := hP2.ex
        have nDp : D ≠ p := (ne_of_none hp2 nD).symm
        have nDc : D ≠ c := (ne_of_none hc2 nD).symm
        have nDS : D ≠ S := (ne_of_none hS2 nD).symm
        refine lc_it walk_str (fun j H' => ∃ r : List (Option Int), But p H2 H' ∧ PenC H' p c (n + 1 + 11 * i + 3 * j) ∧ H' D = some (.lst (r.map stV)) ∧ r.length = j ∧ (∀ j, some j ∈ r → 0 ≤ j ∧ j < mi)) ⟨[], But.of (same_upd nD), hP2.keep (fun o e => same_upd nD _ _ e) (fun o e => same_upd nD _ _ e), upd_same, rfl, fun _ h => nomatch h⟩ (fun _ _ _ _ => trivial) ?_ ?_
        · rintro j u H' H3 hj ⟨r, bj, hPj, hD, lj, rj⟩ ⟨rfl, cc, hcc, rfl⟩
          refine ⟨rfl, ?_⟩
          refine ⟨_, rfl, _, rfl, _, rfl, p, c, mi, _, rfl, hPj, by omega, by omega, log_small (m := 4) (by omega) (by decide), fun Ha ka ba hPa ka0 ka1 => ?_⟩
          refine ⟨_, rfl, _, rfl, p, c, mi, _, rfl, hPa, by omega, by omega, log_small (m := 4) (by omega) (by decide), fun Hb kb bb hPb kb0 kb1 => ⟨(by show 3 ≤ sizeLine; decide), fun L hL => ?_⟩⟩
          have xL := same_upd (o := HO.lst [V.non, .int ka, .int kb]) hL
          obtain ⟨_, _, _, hpb, hcb, _⟩ := hPb.ex
          refine ⟨p, c, L, _, _, rfl, hPb.keep (fun o e => xL _ _ e) (fun o e => xL _ _ e), by omega, SqL.of upd_same, (ne_of_none hpb hL).symm, (by show 0 < 3; decide), (by show 3 ≤ 1000; decide), fun Hc m v bc hPc hm => ?_⟩
          have bD : But p H3 Hc := (ba.trans bb).trans ((But.of xL).trans bc)
          have hv : ∃ x : Option Int, v = stV x ∧ ∀ j, x = some j → 0 ≤ j ∧ j < mi := by
            match m, hm with
            | 0, hm => exact ⟨none, (Option.some.inj hm).symm, fun _ e => nomatch e⟩
            | 1, hm => exact ⟨some ka, (Option.some.inj hm).symm, fun j e => by cases e; exact ⟨ka0, ka1⟩⟩
            | 2, hm => exact ⟨some kb, (Option.some.inj hm).symm, fun j e => by cases e; exact ⟨kb0, kb1⟩⟩
            | m + 3, hm => exact absurd hm (by simp)
          obtain ⟨x, rfl, hx⟩ := hv
          refine ⟨_, bD _ _ nDp hD, ?_, r ++ [x], ?_, ?_, ?_, ?_, ?_⟩
          · rw [List.length_map, lj]
            exact sl3 (by omega)
          · intro b o nb e
            rw [upd_ne (ne_of_none e nD)]
            exact bD _ _ nb (bj _ _ nb e)
          · have hk : n + 1 + 11 * i + 3 * (j + 1) = n + 1 + 11 * i + 3 * j + 1 + 1 + 1 := by omega
            rw [hk]
            exact hPc.keep (fun o e => by rw [upd_ne nDp.symm]; exact e) (fun o e => by rw [upd_ne nDc.symm]; exact e)
          · rw [upd_same, List.map_append]
            rfl
          · rw [List.length_append, lj]
            rfl
          · intro j hj
            rcases List.mem_append.mp hj with h | h
            · exact rj j h
            · exact hx j (List.mem_singleton.mp h).symm
        · rintro H' ⟨r, bj, hPj, hD, lj, rj⟩
          refine ⟨D, r, rfl, b2.trans bj, hPj.mono (by omega), bj _ _ nSp hS2, hR.go fun t _ nt e => bj _ _ nt e, hD, lj, rj, nDp, nDS, nDc, but_none b2 nDp nD⟩
      rintro σ H3 ⟨R, r, rfl, b3, hP3, hS3, hR3, hr3, lr3, rg, nRp, nRS, nRc, R0⟩
      -- one that lets a letter by
      refine ⟨fun σ H' => ∃ (R : Addr) (r : List (Option Int)), σ = [some (.ref p), some (.str z), some (.int most), some (.int mi), some (.ref S), some (.int (0 + (i : Int))), some (.ref R), none, none] ∧ But p H H' ∧ PenC H' p c (n + 1 + 11 * i + 11) ∧ H' S = some (.lst (ts.map V.ref)) ∧ RowsAt p H' ts rows ∧ H' R = some (.lst (r.map stV)) ∧ RowOk z.length mi.toNat r ∧ R ≠ p ∧ R ≠ S ∧ R ≠ c ∧ H R = none, ?_, ?_⟩
      · refine ⟨_, rfl, R, rfl, ⟨_, SqL.of hr3⟩, fun D nD => ?_⟩
        obtain ⟨_, _, _, hp3, hc3, _⟩ := hP3.ex
        have xD := same_upd (o := HO.lst []) nD
        refine lc_lstO (xs := r.map stV) (fun j H' => Same H3 H' ∧ H' D = some (.lst ((r.take j).map fun x => V.bl (decide (stV x = V.non))))) ⟨xD, upd_same⟩ (fun i H' h => h.1.seq (SqL.of hr3)) ?_ ?_
        · rintro j u H' hu ⟨sm, hD⟩
          rw [List.getElem?_map] at hu
          cases e : r[j]? with
          | none =>
            rw [e] at hu
            cases hu
          | some x =>
            rw [e] at hu
            cases hu
            refine ⟨rfl, ?_⟩
            refine ⟨_, rfl, rfl, _, hD, ?_, same_new sm nD, ?_⟩
            · rw [List.length_map]
              have := List.length_take_le' j r
              exact sl3 (by have : z.length ≤ 3 := z3; omega)
            · rw [upd_same, List.take_succ, e, List.map_append]
              rfl
        · rintro H' ⟨sm, hD⟩
          rw [List.length_map, List.take_length] at hD
          have fl : (r.map fun x => V.bl (decide (stV x = V.non))).all flatV = true := by
            rw [List.all_map, List.all_eq_true]
            exact fun _ _ => rfl
          have hP4 : PenC H' p c (n + 1 + 11 * i + 9) := hP3.keep (fun o e => sm _ _ e) (fun o e => sm _ _ e)
          refine ⟨D, _, rfl, .inl (SqL.of hD), rfl, fl, _, rfl, ite2 (fun u => ?_) (fun u => ?_)⟩
          · have lr4 : 0 < r.length := by rw [lr3]; exact letters_pos hl
            refine ⟨_, rfl, _, rfl, p, c, mi, _, rfl, hP4, by omega, by omega, log_small (m := 4) (by omega) (by decide), fun Ha ka ba hPa ka0 ka1 => ?_⟩
            have hRa : Ha R = some (.lst (r.map stV)) := ba _ _ nRp (sm _ _ hr3)
            refine ⟨_, rfl, _, rfl, _, rfl, R, _, rfl, .inl (SqL.of hRa), p, c, _, _, rfl, hPa, by omega, by rw [List.length_map]; omega, log_small (m := 4) (by rw [List.length_map]; have : z.length ≤ 3 := z3; omega) (by decide), fun Hb kb bb hPb kb0 kb1 => ?_⟩
            rw [List.length_map] at kb1
            have hRb : Hb R = some (.lst (r.map stV)) := bb _ _ nRp hRa
            have b34 : But p H3 Hb := (But.of sm).trans (ba.trans bb)
            have nxt : But p H3 (upd Hb R (.lst ((r.set kb.toNat (some ka)).map stV))) → True := fun _ => trivial
            refine ⟨R, _, kb, kb.toNat, rfl, rfl, hRb, ixN_of kb0 (by rw [List.length_map]; exact kb1), ?_⟩
            have er : (r.map stV).set kb.toNat (.int ka) = (r.set kb.toNat (some ka)).map stV := by rw [List.map_set]; rfl
            rw [er]
            refine ⟨R, r.set kb.toNat (some ka), rfl, fun b o nb e => ?_, ?_, ?_, ?_, upd_same, ⟨?_, ?_, ?_⟩, nRp, nRS, nRc, R0⟩
            · rw [upd_ne (ne_of_none e R0)]
              exact b34 _ _ nb (b3 _ _ nb e)
            · exact hPb.keep (fun o e => by rw [upd_ne nRp.symm]; exact e) (fun o e => by rw [upd_ne nRc.symm]; exact e)
            · rw [upd_ne nRS.symm]
              exact b34 _ _ nSp hS3
            · refine hR3.go fun t _ nt e => ?_
              rw [upd_ne (ne_of e hr3 (by intro z; cases z))]
              exact b34 _ _ nt e
            · rw [List.length_set, lr3]
            · exact ⟨some ka, List.mem_of_getElem? (i := kb.toNat) (by rw [List.getElem?_set_self (by omega)]), by simp⟩
            · intro j hj
              rcases List.mem_or_eq_of_mem_set hj with h | h
              · have := rg j h
                omega
              · cases h
                omega
          · refine ⟨R, r, rfl, b3.trans (But.of sm), hP4.mono (by omega), sm _ _ hS3, hR3.go fun t _ nt e => sm _ _ e, sm _ _ hr3, ⟨lr3, ?_, fun j hj => ?_⟩, nRp, nRS, nRc, R0⟩
            · have u2 : inV (.bl false) (r.map fun x => V.bl (decide (stV x = V.non))) = true := by
                cases e : inV (.bl false) (r.map fun x => V.bl (decide (stV x = V.non))) with
                | true => rfl
                | false => exact absurd (by rw [e]; rfl) u
              unfold inV at u2
              rw [List.any_map, List.any_eq_true] at u2
              obtain ⟨x, hx, hx2⟩ := u2
              refine ⟨x, hx, fun e => ?_⟩
              subst e
              exact absurd hx2 (by decide)
            · have := rg j hj
              omega
      rintro σ H4 ⟨R, r, rfl, b4, hP4, hS4, hR4, hr4, okr, nRp, nRS, nRc, _⟩
      refine ⟨_, rfl, .inl ⟨rfl, _, SqL.of hS4⟩, _, rfl, R, _, rfl, .inl ⟨SqL.of hr4, fun t ht => ?_⟩⟩
      have xt := same_upd (o := HO.tup (r.map stV)) ht
      obtain ⟨_, _, _, hp4, hc4, _⟩ := hP4.ex
      have ntp : t ≠ p := (ne_of_none hp4 ht).symm
      refine ⟨S, _, _, rfl, rfl, xt _ _ hS4, ?_, ?_⟩
      · rw [List.length_map, lt]
        exact sl3 (by omega)
      · refine ⟨_, _, ts ++ [t], rows ++ [r], rfl, ?_, ?_, ?_, ?_, ?_, ?_, ?_⟩
        · intro b o nb e
          rw [upd_ne (ne_of_none e S0)]
          exact xt _ _ (b4 _ _ nb e)
        · exact (hP4.keep (fun o e => by rw [upd_ne nSp.symm]; exact xt _ _ e) (fun o e => by rw [upd_ne nSc.symm]; exact xt _ _ e)).mono (by omega)
        · rw [upd_same, List.map_append]
          rfl
        · refine RowsAt.snoc (hR4.go fun t' _ nt e => ?_) ntp ?_
          · rw [upd_ne (ne_of e hS4 (by intro z; cases z))]
            exact xt _ _ e
          · rw [upd_ne (ne_of_none hS4 ht).symm]
            exact upd_same
        · rw [List.length_append, lr]
          rfl
        · rw [List.length_append, lt]
          rfl
        · intro r' hr'
          rcases List.mem_append.mp hr' with h | h
          · exact ok r' h
          · rw [List.mem_singleton.mp h]
            exact okr
    · rintro σ H2 ⟨v5, v6, ts, rows, rfl, b2, hP2, hS2, hR, lr, lt, ok⟩
      refine ⟨_, rfl, _, rfl, S, _, rfl, .inl ⟨SqL.of hS2, fun t ht => ⟨(by show 2 ≤ sizeLine; decide), fun u hu => ?_⟩⟩⟩
      have xt := same_upd (o := HO.tup (ts.map V.ref)) ht
      have xu := same_upd (o := HO.tup [V.str z, V.ref t]) hu
      have x2 := xt.trans xu
      obtain ⟨_, _, _, hp2, hc2, _⟩ := hP2.ex
      have ntp : t ≠ p := (ne_of_none hp2 ht).symm
      have nup : u ≠ p := (ne_of_none (xt _ _ hp2) hu).symm
      have hz : z.length ≤ sizeLine := Nat.le_trans (show z.length ≤ 3 from z3) (by decide)
      refine q _ u rows (b2.trans (But.of x2)) ((hP2.keep (fun o e => x2 _ _ e) (fun o e => x2 _ _ e)).mono (by omega)).pen ?_ ?_ (by omega) (by omega) (by rw [lr]; exact ok)
      · exact rs_tup nup upd_same (RsAll.cons (rs_str z hz) (RsAll.cons (rs_tup ntp (xu _ _ upd_same) (hR.go fun t' _ _ e => x2 _ _ e).rs) rsNil))
      · exact rulD_rows hl (by omega) (by omega) (by rw [lr]; exact ok)
end
end My
/-! ### dicts whose keys are data, told by what they encode -/
namespace My
open PySem PySem.Spec PyProof.Rows L2
structure EncOk {α : Type} (enc : α → PyData) : Prop where
  inj : ∀ a b, keyN (enc a) = keyN (enc b) → a = b
  tO : ∀ a, tO (enc a) = true
  kd : ∀ a, (keyN (enc a)).depth ≤ 8
  ref : ∀ a, ∃ x r, enc a = .tuple (x :: r)
  alike : ∀ a b, PySem.W.alike (enc a) (enc b) = true
  eqv : ∀ a b, PyData.eqv (enc a) (enc b) = true → a = b
  dp : ∀ a, (enc a).depth ≤ 8
section
variable {α β : Type} [DecidableEq α]
def getA (l : List (α × β)) (t : α) : Option β := (l.find? fun q => decide (q.1 = t)).map (·.2)
def putA (l : List (α × β)) (t : α) (v : β) : List (α × β) := if (getA l t).isSome = true then l.map fun q => if q.1 = t then (q.1, v) else q else l ++ [(t, v)]
def keysA (l : List (α × β)) : List α := l.map (·.1)
theorem getA_cons (q : α × β) (r : List (α × β)) (t : α) : getA (q :: r) t = if q.1 = t then some q.2 else getA r t := by
  unfold getA
  rw [List.find?_cons]
  by_cases e : q.1 = t <;> simp [e]
theorem getA_none {l : List (α × β)} {t : α} : getA l t = none ↔ t ∉ keysA l := by
  induction l with
  | nil => simp [getA, keysA]
  | cons q r ih =>
    rw [getA_cons]
    by_cases e : q.1 = t
    · simp [e, keysA]
    · rw [if_neg e, ih]
      unfold keysA
      simp only [List.map_cons, List.mem_cons, not_or]
      exact ⟨fun h => ⟨fun z => e z.symm, h⟩, fun h => h.2⟩
theorem getA_isSome {l : List (α × β)} {t : α} : (getA l t).isSome = true ↔ t ∈ keysA l := by
  cases h : getA l t with
  | none => simp [getA_none.mp h]
  | some v =>
    simp only [Option.isSome_some, true_iff]
    exact Classical.byContradiction fun z => by rw [getA_none.mpr z] at h; cases h
theorem getA_mem {l : List (α × β)} {t : α} {v : β} (h : getA l t = some v) : (t, v) ∈ l := by
  induction l with
  | nil => cases h
  | cons q r ih =>
    rw [getA_cons] at h
    by_cases e : q.1 = t
    · rw [if_pos e] at h
      cases h
      rw [← e]
      exact .head _
    · rw [if_neg e] at h
      exact .tail _ (ih h)
theorem mem_getA {l : List (α × β)} {t : α} {v : β} (nd : (keysA l).Nodup) (h : (t, v) ∈ l) : getA l t = some v := by
  induction l with
  | nil => cases h
  | cons q r ih =>
    rw [getA_cons]
    have nd2 : q.1 ∉ keysA r ∧ (keysA r).Nodup := List.nodup_cons.mp nd
    rcases List.mem_cons.mp h with e | e
    · rw [← e, if_pos rfl]
    · have : ¬ q.1 = t := fun z => nd2.1 (by rw [z]; exact List.mem_map_of_mem (f := (·.1)) e)
      rw [if_neg this]
      exact ih nd2.2 e
theorem keysA_put (l : List (α × β)) (t : α) (v : β) : keysA (putA l t v) = if (getA l t).isSome then keysA l else keysA l ++ [t] := by
  unfold putA
  split
  · unfold keysA
    rw [List.map_map]
    refine List.map_congr_left fun p _ => ?_
    show (if p.1 = t then (p.1, v) else p).1 = p.1
    split <;> rfl
  · unfold keysA
    rw [List.map_append]
    rfl
theorem putA_nodup {l : List (α × β)} {t : α} {v : β} (nd : (keysA l).Nodup) : (keysA (putA l t v)).Nodup := by
  rw [keysA_put]
  split
  · exact nd
  · rename_i h
    rw [List.nodup_append]
    refine ⟨nd, by simp, fun a ha b hb => ?_⟩
    simp only [List.mem_singleton] at hb
    rintro rfl
    rw [hb] at ha
    exact h (getA_isSome.mpr ha)
theorem getA_map (t u : α) (v : β) : ∀ l : List (α × β), getA (l.map fun q => if q.1 = t then (q.1, v) else q) u = (getA l u).map fun x => if u = t then v else x
  | [] => rfl
  | p :: r => by
    rw [List.map_cons, getA_cons, getA_cons, getA_map t u v r]
    by_cases h : p.1 = t
    · rw [if_pos h]
      by_cases e : p.1 = u
      · simp [e, ← h]
      · simp [e]
    · rw [if_neg h]
      by_cases e : p.1 = u
      · have : ¬ u = t := fun z => h (e.trans z)
        simp [e, this]
      · simp [e]
theorem getA_snoc (t u : α) (v : β) : ∀ l : List (α × β), getA l t = none → getA (l ++ [(t, v)]) u = if u = t then some v else getA l u
  | [], _ => by
    rw [List.nil_append, getA_cons]
    by_cases e : t = u
    · rw [if_pos e, if_pos e.symm]
    · rw [if_neg e, if_neg (fun z => e z.symm)]
  | p :: r, h => by
    rw [getA_cons] at h
    by_cases e : p.1 = t
    · rw [if_pos e] at h
      cases h
    · rw [if_neg e] at h
      rw [List.cons_append, getA_cons, getA_cons, getA_snoc t u v r h]
      by_cases e2 : p.1 = u
      · rw [if_pos e2, if_pos e2, if_neg (fun z => e (e2.trans z))]
      · rw [if_neg e2, if_neg e2]
theorem getA_put (l : List (α × β)) (t u : α) (v : β) : getA (putA l t v) u = if u = t then some v else getA l u := by
  unfold putA
  cases h : getA l t with
  | none => exact getA_snoc t u v l h
  | some x =>
    rw [if_pos (show (some x).isSome = true from rfl), getA_map]
    by_cases e : u = t
    · rw [e, h]; simp
    · simp [e]
theorem putA_len (l : List (α × β)) (t : α) (v : β) : (putA l t v).length ≤ l.length + 1 := by
  unfold putA
  split
  · rw [List.length_map]; omega
  · rw [List.length_append]; exact Nat.le_refl _
theorem putA_map {γ : Type} (f : β → γ) (l : List (α × β)) (t : α) (v : β) : (putA l t v).map (fun q => (q.1, f q.2)) = putA (l.map fun q => (q.1, f q.2)) t (f v) := by
  have : getA (l.map fun q => (q.1, f q.2)) t = (getA l t).map f := by
    induction l with
    | nil => rfl
    | cons q r ih =>
      rw [List.map_cons, getA_cons, getA_cons, ih]
      by_cases e : q.1 = t <;> simp [e]
  unfold putA
  rw [this, Option.isSome_map]
  split
  · rw [List.map_map, List.map_map]
    refine List.map_congr_left fun q _ => ?_
    show (fun q : α × β => (q.1, f q.2)) (if q.1 = t then (q.1, v) else q) = if q.1 = t then (q.1, f v) else (q.1, f q.2)
    split <;> rfl
  · rw [List.map_append]
    rfl
theorem getA_mapv {γ : Type} (f : β → γ) (l : List (α × β)) (t : α) : getA (l.map fun q => (q.1, f q.2)) t = (getA l t).map f := by
  induction l with
  | nil => rfl
  | cons q r ih =>
    rw [List.map_cons, getA_cons, getA_cons, ih]
    by_cases e : q.1 = t <;> simp [e]
end
section
variable {α : Type} [DecidableEq α] {enc : α → PyData} {P : Program} {w : World} {K : PySem.W.Frag} {H H' : Hp} {a b : Addr} {xs : Nx} {l : List (α × V)} {t : α} {v : V}
def KxE (K : PySem.W.Frag) (H : Hp) (enc : α → PyData) (e : NestedKey × Addr × V) (q : α × V) : Prop := e.1 = keyN (enc q.1) ∧ Rp K H (.ref e.2.1) (enc q.1) ∧ e.2.2 = q.2
def Kx (K : PySem.W.Frag) (H : Hp) (enc : α → PyData) (xs : Nx) (l : List (α × V)) : Prop := Paired (KxE K H enc) xs l
omit [DecidableEq α] in
theorem Kx.ts (h : Kx K H enc xs l) (ok : EncOk enc) (s : TStay K H H') : Kx K H' enc xs l := Paired.mapP h fun _ q e => ⟨e.1, rp_ts s e.2.1 (ok.tO q.1), e.2.2⟩
theorem Kx.val (ok : EncOk enc) (h : Kx K H enc xs l) (t : α) : valN xs (keyN (enc t)) = getA l t := by
  unfold Kx at h
  induction h with
  | nil => rfl
  | @cons p q ps qs r _ ih =>
    obtain ⟨e1, _, e3⟩ := r
    rw [getA_cons]
    by_cases e : q.1 = t
    · rw [if_pos e, valN_pos (by rw [e1, e]), e3]
    · rw [if_neg e, valN_neg (fun z => e (ok.inj _ _ (e1.symm.trans z)))]
      exact ih
theorem Kx.map (ok : EncOk enc) (h : Kx K H enc xs l) (t : α) (v : V) : Kx K H enc (xs.map fun e => if e.1 = keyN (enc t) then (e.1, e.2.1, v) else e) (l.map fun q => if q.1 = t then (q.1, v) else q) := by
  unfold Kx at h ⊢
  induction h with
  | nil => exact .nil
  | @cons p q ps qs r _ ih =>
    rw [List.map_cons, List.map_cons]
    refine .cons ?_ ih
    obtain ⟨e1, e2, e3⟩ := r
    by_cases e : q.1 = t
    · rw [if_pos e, if_pos (by rw [e1, e])]
      exact ⟨e1, e2, rfl⟩
    · rw [if_neg e, if_neg (fun z => e (ok.inj _ _ (e1.symm.trans z)))]
      exact ⟨e1, e2, e3⟩
theorem Kx.put (ok : EncOk enc) (h : Kx K H enc xs l) (hb : Rp K H (.ref b) (enc t)) : Kx K H enc (putN xs (keyN (enc t)) b v) (putA l t v) := by
  unfold putN putA
  rw [h.val ok t]
  split
  · exact h.map ok t v
  · exact Paired.snoc h ⟨rfl, hb, rfl⟩
/-- at a stands such a dict -/
def ED (P : Program) (w : World) (K : PySem.W.Frag) (enc : α → PyData) (H : Hp) (a : Addr) (l : List (α × V)) : Prop := ∃ xs, H a = some (NdO P w a xs) ∧ Kx K H enc xs l
/-- .. to be read -/
def EDr (P : Program) (w : World) (K : PySem.W.Frag) (enc : α → PyData) (H : Hp) (a : Addr) (l : List (α × V)) : Prop := ∃ xs, Rd H a (NdO P w a xs) ∧ Kx K H enc xs l
omit [DecidableEq α] in
theorem ED.r (h : ED P w K enc H a l) : EDr P w K enc H a l := by
  obtain ⟨xs, e, k⟩ := h
  exact ⟨xs, .inl e, k⟩
omit [DecidableEq α] in
theorem ED.ts (h : ED P w K enc H a l) (ok : EncOk enc) (s : TStay K H H') (e : ∀ o, H a = some o → H' a = some o) : ED P w K enc H' a l := by
  obtain ⟨xs, h1, h2⟩ := h
  exact ⟨xs, e _ h1, h2.ts ok s⟩
omit [DecidableEq α] in
theorem ED.same (h : ED P w K enc H a l) (ok : EncOk enc) (s : Same H H') : ED P w K enc H' a l := h.ts ok (ts_same s) fun o e => s _ _ e
omit [DecidableEq α] in
theorem EDr.ts (h : EDr P w K enc H a l) (ok : EncOk enc) (s : TStay K H H') (e : ∀ o, H a = some o → H' a = some o) : EDr P w K enc H' a l := by
  obtain ⟨xs, h1, h2⟩ := h
  refine ⟨xs, ?_, h2.ts ok s⟩
  rcases h1 with h1 | ⟨o, h1⟩
  · exact .inl (e _ h1)
  · exact .inr ⟨o, e _ h1⟩
omit [DecidableEq α] in
theorem EDr.same (h : EDr P w K enc H a l) (ok : EncOk enc) (s : Same H H') : EDr P w K enc H' a l := h.ts ok (ts_same s) fun o e => s _ _ e
omit [DecidableEq α] in
theorem ED.mut (h : ED P w K enc H a l) : ∃ φ, H a = some (.ext φ) := by
  obtain ⟨xs, h1, _⟩ := h
  exact ⟨_, h1⟩
end
/-! what the rules ask -/
def NAtR (P : Program) (w : World) (K : PySem.W.Frag) (H : Hp) (x y : V) (a b : Addr) (xs : Nx) (d : PyData) : Prop := x = .ref a ∧ y = .ref b ∧ Rd H a (NdO P w a xs) ∧ (∀ e ∈ xs, ∃ d, keyN d = e.1 ∧ Rp K H (.ref e.2.1) d ∧ tO d = true ∧ e.1.depth ≤ 8) ∧ Rp K H (.ref b) d ∧ tO d = true ∧ (keyN d).depth ≤ 8
def EGet (P : Program) (w : World) (K : PySem.W.Frag) (H : Hp) (x y v : V) : Prop := ∃ a b xs d, NAtR P w K H x y a b xs d ∧ valN xs (keyN d) = some v
def EIn (P : Program) (w : World) (K : PySem.W.Frag) (H : Hp) (x y : V) (r : Bool) : Prop := ∃ a b xs d, NAtR P w K H x y a b xs d ∧ r = (valN xs (keyN d)).isSome
def EPut (P : Program) (w : World) (K : PySem.W.Frag) (H : Hp) (x y v : V) (H' : Hp) : Prop := ∃ a b xs d, NAt P w K H x y a b xs d ∧ xs.length < sizeLine ∧ H' = upd H a (NdO P w a (putN xs (keyN d) b v))
section
variable {α : Type} [DecidableEq α] {enc : α → PyData} {P : Program} {w : World} {K : PySem.W.Frag} {H H' : Hp} {a b : Addr} {xs : Nx} {l : List (α × V)} {t : α} {v : V}
omit [DecidableEq α] in
theorem Kx.ks (ok : EncOk enc) (h : Kx K H enc xs l) : ∀ e ∈ xs, ∃ d, keyN d = e.1 ∧ Rp K H (.ref e.2.1) d ∧ tO d = true ∧ e.1.depth ≤ 8 := by
  unfold Kx at h
  induction h with
  | nil => exact fun _ h => nomatch h
  | @cons p q ps qs r _ ih =>
    intro e he
    rcases List.mem_cons.mp he with rfl | he
    · exact ⟨_, r.1.symm, r.2.1, ok.tO _, by rw [r.1]; exact ok.kd _⟩
    · exact ih e he
theorem EDr.get (ok : EncOk enc) (h : EDr P w K enc H a l) (hb : Rp K H (.ref b) (enc t)) (e : getA l t = some v) : EGet P w K H (.ref a) (.ref b) v := by
  obtain ⟨xs, h1, h2⟩ := h
  exact ⟨a, b, xs, enc t, ⟨rfl, rfl, h1, h2.ks ok, hb, ok.tO t, ok.kd t⟩, by rw [h2.val ok, e]⟩
theorem EDr.in_ (ok : EncOk enc) (h : EDr P w K enc H a l) (hb : Rp K H (.ref b) (enc t)) : EIn P w K H (.ref a) (.ref b) (getA l t).isSome := by
  obtain ⟨xs, h1, h2⟩ := h
  exact ⟨a, b, xs, enc t, ⟨rfl, rfl, h1, h2.ks ok, hb, ok.tO t, ok.kd t⟩, by rw [h2.val ok]⟩
theorem ED.put (ok : EncOk enc) (h : ED P w K enc H a l) (hb : Rp K H (.ref b) (enc t)) (z : l.length < sizeLine) (v : V) : ∃ φ, EPut P w K H (.ref a) (.ref b) v (upd H a (.ext φ)) ∧ ED P w K enc (upd H a (.ext φ)) a (putA l t v) := by
  obtain ⟨xs, h1, h2⟩ := h
  have ln : xs.length = l.length := Paired.length h2
  have ts : TStay K H (upd H a (NdO P w a (putN xs (keyN (enc t)) b v))) := ts_upd h1 (fun _ z => nomatch z) (fun _ _ z => nomatch z)
  refine ⟨NdP P w a (putN xs (keyN (enc t)) b v), ⟨a, b, xs, enc t, ⟨rfl, rfl, ⟨h1, h2.ks ok⟩, hb, ok.tO t, ok.kd t⟩, by omega, rfl⟩, putN xs (keyN (enc t)) b v, upd_same, ?_⟩
  exact (h2.put ok hb).ts ok ts
omit [DecidableEq α] in
theorem ED.nil (h : H a = some (NdO P w a [])) : ED P w K enc H a [] := ⟨[], h, .nil⟩
end
section
variable {X : Cx} {pins : List (Addr × Obj)} {σ : L2.St} {H : Hp} {s : Shared} {a b : Addr} {xs : Nx} {d : PyData} {A : Around} {E : Value → Shared → Prop}
theorem ndr_of (I : Inv X pins σ H s) (h : Rd H a (NdO X.prog X.w a xs)) (ks : ∀ e ∈ xs, ∃ d, keyN d = e.1 ∧ Rp X.K H (.ref e.2.1) d ∧ tO d = true ∧ e.1.depth ≤ 8) : (a == sysModules) = false ∧ ∃ ys, NR xs ys ∧ s.heap.DictOfH (nestedKind X.prog X.w) a ys := by
  obtain ⟨⟨z, ys, r, nd, o, es, ep, h1, h2, h3, h4⟩, _, _⟩ := (show ObjOk X.prog X.w H s.heap a (NdO X.prog X.w a xs) from h.ok I.hok)
  refine ⟨z, ys, r, o, es, ep, h1, h2, h3, h4, fun y hy => ?_, nd⟩
  obtain ⟨x, hx, e1, e2⟩ := r.mem y hy
  obtain ⟨d', k1, k2, k3, k4⟩ := ks x hx
  obtain ⟨as, rd, _⟩ := Rp.reads I d' _ _ k2 (show RelV (.ref x.2.1) (Value.ref x.2.1) from rfl)
  rw [← e1, ← e2]
  exact ⟨k1 ▸ reads_nest rd k3, k4⟩
/-- only what stands there, not what the keys are -/
theorem ndr_raw (I : Inv X pins σ H s) (h : Rd H a (NdO X.prog X.w a xs)) : (a == sysModules) = false ∧ ∃ ys, NR xs ys ∧ ∃ o es ep, s.heap.get? a = some o ∧ o.ExactDict ∧ o.data = .dict es ep ∧ es.toList = ys.map (entryOfKey (nestedKind X.prog X.w)) := by
  obtain ⟨⟨z, ys, r, nd, o, es, ep, h1, h2, h3, h4⟩, _, _⟩ := (show ObjOk X.prog X.w H s.heap a (NdO X.prog X.w a xs) from h.ok I.hok)
  exact ⟨z, ys, r, o, es, ep, h1, h2, h3, h4⟩
end
def tEGet (P : Program) (w : World) (K : PySem.W.Frag) (td ty : TE) : TE := fun σ H Q => td σ H fun x H1 => ty σ H1 fun y H2 => ∃ v, EGet P w K H2 x y v ∧ Q v H2
def tENotIn (P : Program) (w : World) (K : PySem.W.Frag) (ty td : TE) : TE := fun σ H Q => ty σ H fun y H1 => td σ H1 fun x H2 => ∃ r, EIn P w K H2 x y r ∧ Q (.bl (!r)) H2
def tEIn (P : Program) (w : World) (K : PySem.W.Frag) (ty td : TE) : TE := fun σ H Q => ty σ H fun y H1 => td σ H1 fun x H2 => ∃ r, EIn P w K H2 x y r ∧ Q (.bl r) H2
def sEPut (P : Program) (w : World) (K : PySem.W.Frag) (td ty tv : TE) : TS := fun D σ H => tv σ H fun v H1 => td σ H1 fun x H2 => ty σ H2 fun y H3 => ∃ H', EPut P w K H3 x y v H' ∧ D.nx σ H'
section
variable {X : Cx} {o i e value : Expr} {pos pos' : Pos} {td ty tv : TE}
theorem pe_eget (hu : X.A.units + 9 < cLine) (ho : PE X o td) (hi : PE X i ty) (hs : NoSl i) : PE X (.Subscript o i pos) (tEGet X.prog X.w X.K td ty) := by
  refine ⟨fun pins s σ H Q I h => ?_⟩
  refine subD_of PySem.F.slot_dict_getitem.lookup hs (thn (ho.run pins s σ H _ I h) fun u s1 ⟨x, H1, I1, rx, q1⟩ => thn (hi.run pins s1 σ H1 _ I1 q1) fun iv s2 ⟨y, H2, I2, ry, v, ⟨a, b, xs, d, ⟨ex, ey, n, ks, hb, t, l⟩, hv⟩, q2⟩ => ?_)
  subst ex ey
  obtain rfl : u = Value.ref a := rx
  obtain rfl : iv = Value.ref b := ry
  obtain ⟨_, ys, r, dd⟩ := ndr_of I2 n ks
  refine ⟨dd.typeIs, ?_⟩
  obtain ⟨w', hw, rw'⟩ := RelO.some_of (v := v) (o := (atKey ys (keyN d)).map (·.2)) (by rw [← hv]; exact r.val _)
  obtain ⟨p, hp, hp2⟩ := Option.map_eq_some_iff.mp hw
  refine wpAny_getItem_heap (nroom hu) (nk_of I2 hb t l) dd hp ?_
  rw [hp2]
  exact ⟨v, H2, I2.tok _, rw', q2⟩
theorem pc_enotin (hu : X.A.units + 9 < cLine) (hi : PE X i ty) (ho : PE X o td) : PC X .NotIn i o (tENotIn X.prog X.w X.K ty td) := by
  refine ⟨fun pins s σ H Q I h => ?_⟩
  refine thn (hi.run pins s σ H _ I h) fun iv s1 ⟨y, H1, I1, ry, q1⟩ => thn (ho.run pins s1 σ H1 _ I1 q1) fun u s2 ⟨x, H2, I2, rx, r, ⟨a, b, xs, d, ⟨ex, ey, n, ks, hb, t, l⟩, er⟩, q2⟩ => ?_
  subst ex ey er
  obtain rfl : u = Value.ref a := rx
  obtain rfl : iv = Value.ref b := ry
  obtain ⟨z, ys, r, dd⟩ := ndr_of I2 n ks
  refine wpAny_notIn_heap (nroom hu) (nk_of I2 hb t l) z dd ?_
  have q := (r.val (keyN d)).isSome_eq
  rw [Option.isSome_map] at q
  rw [← q]
  exact ⟨.bl _, H2, I2.tok _, rfl, q2⟩
theorem pc_ein (hu : X.A.units + 9 < cLine) (hi : PE X i ty) (ho : PE X o td) : PC X .In i o (tEIn X.prog X.w X.K ty td) := by
  refine ⟨fun pins s σ H Q I h => ?_⟩
  refine thn (hi.run pins s σ H _ I h) fun iv s1 ⟨y, H1, I1, ry, q1⟩ => thn (ho.run pins s1 σ H1 _ I1 q1) fun u s2 ⟨x, H2, I2, rx, r, ⟨a, b, xs, d, ⟨ex, ey, n, ks, hb, t, l⟩, er⟩, q2⟩ => ?_
  subst ex ey er
  obtain rfl : u = Value.ref a := rx
  obtain rfl : iv = Value.ref b := ry
  obtain ⟨z, ys, r, dd⟩ := ndr_of I2 n ks
  refine wpAny_in_heap (nroom hu) (nk_of I2 hb t l) z dd ?_
  have q := (r.val (keyN d)).isSome_eq
  rw [Option.isSome_map] at q
  rw [← q]
  exact ⟨.bl _, H2, I2.tok _, rfl, q2⟩
theorem ps_eput (hu : X.A.units + 9 < cLine) (ho : PE X o td) (hi : PE X i ty) (hv : PE X value tv) (hs : swapsWith value (some (.Subscript o i pos')) pos.line X.env = pure false) :
    PS X (.Assign [.Subscript o i pos'] value pos) (sEPut X.prog X.w X.K td ty tv) := by
  refine ⟨fun pins s σ H D I h => ?_⟩
  refine wpAny_Assign_Subscript (thn (hv.run pins s σ H _ I h) fun r s1 ⟨v, H1, I1, rv, q1⟩ => thn (ho.run pins s1 σ H1 _ I1 q1) fun u s2 ⟨x, H2, I2, rx, q2⟩ => thn (hi.run pins s2 σ H2 _ I2 q2) fun iv s3 ⟨y, H3, I3, ry, H4, ⟨a, b, xs, d, ⟨ex, ey, n, hb, t, l⟩, hz, e4⟩, q3⟩ => ?_) hs
  subst ex ey e4
  obtain rfl : u = Value.ref a := rx
  obtain rfl : iv = Value.ref b := ry
  exact nd_setItem hu I3 n hb t l hz rv fun s4 I4 => ⟨σ, _, I4, q3⟩
end
end My
/-! ### such dicts walked, listed, sorted; lists of data sorted -/
namespace My
open PySem PySem.Spec PyProof.Rows L2
/-- in the order of Python's < -/
def sortE {α : Type} (enc : α → PyData) (ts : List α) : List α := ts.mergeSort (PySem.W.dataLe false enc)
section
variable {α : Type} {enc : α → PyData}
theorem le_total : PySem.W.TotalLe (PySem.W.dataLe false enc) := PySem.W.sortLe_total _ _ _
theorem sortE_perm (ts : List α) : (sortE enc ts).Perm ts := List.mergeSort_perm _ _
theorem sortE_pair (ts : List α) : (sortE enc ts).Pairwise fun a b => PySem.W.dataLe false enc a b = true := PySem.W.sort_pairwise le_total ts
/-- which way two of them stand is told -/
theorem le_anti (ok : EncOk enc) {a b : α} (h1 : PySem.W.dataLe false enc a b = true) (h2 : PySem.W.dataLe false enc b a = true) : a = b := by
  have e1 : PySem.W.dataLt (enc b) (enc a) = false := by simpa [PySem.W.dataLe_eq] using h1
  have e2 : PySem.W.dataLt (enc a) (enc b) = false := by simpa [PySem.W.dataLe_eq] using h2
  have tk : PySem.W.keyToks (enc a) = PySem.W.keyToks (enc b) := PyProof.Rows.lex_total _ _ e2 e1
  refine ok.eqv a b ?_
  cases q : PyData.eqv (enc a) (enc b) with
  | true => rfl
  | false =>
    have h := (PySem.W.toks_eqv (enc a) (enc b) (ok.alike a b)).2 q [] [.inl 0]
    rw [tk, PySem.W.lex_pre, PyProof.Rows.lex_irrefl] at h
    exact absurd h (by simp [PyProof.Rows.lexLt])
theorem sortE_eq (ok : EncOk enc) {l m : List α} (p : l.Perm m) (s : l.Pairwise fun a b => PySem.W.dataLe false enc a b = true) : l = sortE enc m := by
  have s2 := sortE_pair (enc := enc) m
  have p2 : l.Perm (sortE enc m) := p.trans (sortE_perm m).symm
  exact p2.eq_of_pairwise (fun a b _ _ h1 h2 => le_anti ok h1 h2) s s2
theorem sortE_congr (ok : EncOk enc) {l m : List α} (p : l.Perm m) : sortE enc l = sortE enc m := sortE_eq ok ((sortE_perm l).trans p) (sortE_pair l)
end
section
variable {prog : Program} {w : World} {A : Around} {E : Value → Shared → Prop} {s : Shared} {T : String} {r d : Addr} {n : Nat} {P : Nat → Value → Prop} {OK : Heap → Prop} {β : Type} {bs : List β} {enc : β → PyData} {R : Value → β → Prop}
/-- sorted of what can be walked, by data -/
theorem sorted_src {Q : Value → Shared → Prop} (S : PySem.W.KdlSrc prog w T r d n P OK) (hh : A.handled = none) (hok : OK s.heap) (hn : n ≤ sizeLine) (hbl : bs.length = n)
    (he : ∀ acc : List Value, acc.length = n → (∀ j v, acc[j]? = some v → P j v) → PySem.W.EachIs R acc bs)
    (er : ∀ h' : Heap, (∀ b o, s.heap.get? b = some o → h'.get? b = some o) → ∀ v b, R v b → b ∈ bs → ∃ as, Reads h' v (enc b) as)
    (hal : PySem.W.AllAlike (bs.map enc)) (hk : PySem.W.Sortable (bs.map enc)) (hu : ∀ b, b ∈ bs → A.units + 2 + (enc b).depth < cLine)
    (h : ∀ (h1 h' : Heap) (tk : Nat) (out : List Value), (∀ b o, s.heap.get? b = some o → h1.get? b = some o) → (∀ b o, h1.get? b = some o → h'.get? b = some o) → (∃ e, h'.get? h1.objs.size = some (PyProof.Rows.seqObj "list" out.toArray e)) → PySem.W.EachIs R out (bs.mergeSort (PySem.W.dataLe false enc)) → Q (.ref h1.objs.size) { s with heap := h', toks := tk }) :
    wpAny (model prog w) A (call (.builtin "sorted") [.ref r]) Q E s := by
  refine Calls.call_function_entry PyProof.Rows.kind_sorted PyProof.Rows.plain_sorted PyProof.Rows.entry_sorted (PyProof.Rows.args_sorted1 _) ?_
  unfold Builtin.«sorted»
  refine wpAny_bind (m := checkCount "sorted" 1 1 _) (wpAny_pure ?_)
  refine wpAny_bind (PySem.W.kdu_collect (A := A.in1) S hh hok hn fun h' tk acc hk' hacc => ?_)
  have hal2 : acc.toList.length = n := by rw [Array.length_toList]; exact hacc.1
  have hE := he acc.toList hal2 fun j v e => hacc.2 j v (by rw [← Array.getElem?_toList]; exact e)
  refine wpAny_bind (wpAny_newList ?_ (by rw [hal2]; exact hn))
  have hoL : (h'.push (PyProof.Rows.seqObj "list" acc.toList.toArray 0)).get? h'.objs.size = some (PyProof.Rows.seqObj "list" acc.toList.toArray 0) := Heap.get?_push_size _ rfl
  show wpAny _ _ _ _ _ { s with heap := h'.push (PyProof.Rows.seqObj "list" acc.toList.toArray 0), toks := tk }
  have kp : ∀ b o, s.heap.get? b = some o → (PySem.W.sortingHeap (h'.push (PyProof.Rows.seqObj "list" acc.toList.toArray 0)) h'.objs.size acc.toList).get? b = some o := fun b o e => by
    have e2 := hk' b o e
    exact PySem.W.sortingHeap_old (Nat.ne_of_lt (Heap.lt_size e2)) (Heap.get?_push_of_some _ e2)
  have er' : PySem.W.EachIs (fun v b => ∃ as, Reads (PySem.W.sortingHeap (h'.push (PyProof.Rows.seqObj "list" acc.toList.toArray 0)) h'.objs.size acc.toList) v (enc b) as) acc.toList bs := (PySem.W.each_mem hE).mono fun v b q => er _ kp v b q.1 q.2
  have sa : PySem.W.SortsAt prog w A.in1.in1 { s with heap := PySem.W.sortingHeap (h'.push (PyProof.Rows.seqObj "list" acc.toList.toArray 0)) h'.objs.size acc.toList, toks := tk } (PySem.W.dataKind (PySem.W.sortingHeap (h'.push (PyProof.Rows.seqObj "list" acc.toList.toArray 0)) h'.objs.size acc.toList) (bs.map enc)) acc.toList :=
    PySem.W.SortsAt.data (s := { s with heap := PySem.W.sortingHeap (h'.push (PyProof.Rows.seqObj "list" acc.toList.toArray 0)) h'.objs.size acc.toList, toks := tk }) (PySem.W.each_map (R := fun v d => ∃ as, Reads (PySem.W.sortingHeap (h'.push (PyProof.Rows.seqObj "list" acc.toList.toArray 0)) h'.objs.size acc.toList) v d as) enc er') hal hk (fun d hd => by
      obtain ⟨b, hb, rfl⟩ := List.mem_map.mp hd
      exact hu b hb)
  refine wpAny_bind (wpAny_holding (wpAny_call_entry PyProof.Rows.slot_list_sort ⟨_, hoL, rfl⟩ PyProof.Rows.entry_list_sort
    (PySem.W.list_sort_vals (s := { s with heap := h'.push (PyProof.Rows.seqObj "list" acc.toList.toArray 0), toks := tk }) (κ := PySem.W.dataKind (PySem.W.sortingHeap (h'.push (PyProof.Rows.seqObj "list" acc.toList.toArray 0)) h'.objs.size acc.toList) (bs.map enc)) hoL sa (by rw [hal2]; exact hn) ⟨_, rfl, ?_⟩) (PyProof.Rows.args_list_sort _)))
  obtain ⟨e', he'⟩ := PyProof.Rows.sortedHeap_at (vs := acc.toList) (out := (PySem.W.sortVals (PySem.W.dataKind (PySem.W.sortingHeap (h'.push (PyProof.Rows.seqObj "list" acc.toList.toArray 0)) h'.objs.size acc.toList) (bs.map enc)) false acc.toList acc.toList).toArray) hoL
  refine wpAny_pure ⟨_, rfl, h h' _ tk _ hk' (fun b o e2 => ?_) ⟨e', he'⟩ (PySem.W.sortVals_data false hE er' hal)⟩
  have hb : b < h'.objs.size := Heap.lt_size e2
  rw [PyProof.Rows.sortedHeap_old (Nat.ne_of_lt hb) (by rw [PyProof.Rows.size_push']; exact Nat.lt_succ_of_lt hb)]
  exact Heap.get?_push_of_some _ e2
end
/-! as rules -/
theorem each_vals {β : Type} {f : β → V} : ∀ {l : List β} {us : List Value}, Vals (l.map f) us → PySem.W.EachIs (fun u b => RelV (f b) u) us l
  | [], _, h => by
    cases h
    exact .nil
  | b :: l, _, h => by
    cases h with
    | cons h1 h2 => exact .cons h1 (each_vals h2)
theorem vals_each {β : Type} {f : β → V} : ∀ {l : List β} {us : List Value}, PySem.W.EachIs (fun u b => RelV (f b) u) us l → Vals (l.map f) us
  | _, _, .nil => .nil
  | _, _, .cons h t => .cons h (vals_each t)
theorem zip_all {K : PySem.W.Frag} {H : Hp} {α : Type} {enc : α → PyData} : ∀ {vs : List V} {ts : List α}, RpAll K H vs (ts.map enc) → (vs.zip ts).map (·.1) = vs ∧ (vs.zip ts).map (·.2) = ts ∧ ∀ z ∈ vs.zip ts, Rp K H z.1 (enc z.2)
  | [], [], _ => ⟨rfl, rfl, fun _ h => nomatch h⟩
  | v :: vs, t :: ts, .cons h1 h2 => by
    obtain ⟨e1, e2, e3⟩ := zip_all (vs := vs) (ts := ts) h2
    refine ⟨?_, ?_, fun z hz => ?_⟩
    · rw [List.zip_cons_cons, List.map_cons, e1]
    · rw [List.zip_cons_cons, List.map_cons, e2]
    · rw [List.zip_cons_cons] at hz
      rcases List.mem_cons.mp hz with rfl | hz
      · exact h1
      · exact e3 z hz
theorem rpAll_map {K : PySem.W.Frag} {H : Hp} {β : Type} {f : β → V} {g : β → PyData} : ∀ {l : List β}, (∀ b ∈ l, Rp K H (f b) (g b)) → RpAll K H (l.map f) (l.map g)
  | [], _ => .nil
  | b :: l, h => .cons (h b (.head _)) (rpAll_map fun c hc => h c (.tail _ hc))
/-- sorted(xs), xs a list of data -/
def rSortE (K : PySem.W.Frag) : List V → Hp → VK → Prop := fun xs H Q => ∃ (a : Addr) (α : Type) (enc : α → PyData) (vs : List V) (ts : List α), xs = [.ref a] ∧ SqL K H a vs ∧ RpAll K H vs (ts.map enc) ∧ EncOk enc ∧
  ∀ (p : Addr) (vs' : List V), H p = none → RpAll K H vs' ((sortE enc ts).map enc) → Q (.ref p) (upd H p (.lst vs'))
section
variable {X : Cx}
theorem cr_sortE (hu : X.A.units + 16 < cLine) : CallR X (.builtin "sorted") (rSortE X.K) := by
  intro pins s σ H vs us Q I r h
  obtain ⟨a, α, enc, vs, ts, rfl, hs, hr, ok, q⟩ := h
  obtain ⟨its, rv, hl, hz⟩ := I.list hs
  obtain ⟨u, rfl, ru⟩ := vals1 r
  obtain rfl : u = Value.ref a := ru
  obtain ⟨e1, e2, e3⟩ := zip_all hr
  have rv2 : Vals ((vs.zip ts).map (·.1)) its := by rw [e1]; exact rv
  have lz : (vs.zip ts).length = its.length := by
    have := rv2.length
    rwa [List.length_map] at this
  have hE := each_vals rv2
  refine PySem.W.sorted_data (R := fun u (z : V × α) => RelV z.1 u) (enc := fun z : V × α => enc z.2) hl.isList hE ((PySem.W.each_mem hE).mono fun u z q => ?_) (PySem.W.AllAlike.of fun z z' => ok.alike _ _) (PySem.W.Sortable.tuples fun z => ok.ref _) (by rw [lz, ← rv.length]; exact hz) (fun z _ => ?_) fun out hlen ho => ?_
  · obtain ⟨as, rd, _⟩ := Rp.reads I (enc z.2) z.1 u (e3 z q.2) q.1
    exact ⟨as, rd⟩
  · have := ok.dp z.2
    show X.A.units + 2 + (enc z.2).depth < cLine
    omega
  · obtain ⟨e, he⟩ := PyProof.Rows.sortedAll_at s.heap its out.toArray
    have ov := vals_each ho
    have perm : ((vs.zip ts).mergeSort (PySem.W.dataLe false fun z : V × α => enc z.2)).Perm (vs.zip ts) := List.mergeSort_perm _ _
    have em : ((vs.zip ts).mergeSort (PySem.W.dataLe false fun z : V × α => enc z.2)).map (·.2) = sortE enc ts := by
      have := PySem.W.sort_maps (r := PySem.W.dataLe false fun z : V × α => enc z.2) (s := PySem.W.dataLe false enc) (fun z : V × α => z.2) (l := vs.zip ts) (fun a _ b _ => rfl)
      rw [e2] at this
      exact this
    refine ⟨.ref (s.heap.objs.size + 1), upd H (s.heap.objs.size + 1) (.lst (((vs.zip ts).mergeSort (PySem.W.dataLe false fun z : V × α => enc z.2)).map (·.1))), I.laid (t' := s.toks) (fun b o e => PyProof.Rows.sortedAll_old e) (Nat.le_succ _) ⟨?_, out, e, ov, he⟩, rfl, q _ _ (I.hok.fresh (Nat.le_succ _)) ?_⟩
    · rw [List.length_map, perm.length_eq, lz, ← rv.length]
      exact hz
    · rw [← em, List.map_map]
      exact rpAll_map fun z hz => e3 z (perm.mem_iff.mp hz)
end
/-! the keys of such a dict -/
theorem Kx.all {α : Type} {K : PySem.W.Frag} {H : Hp} {enc : α → PyData} {xs : Nx} {l : List (α × V)} (h : Kx K H enc xs l) : RpAll K H (xs.map fun e => V.ref e.2.1) ((keysA l).map enc) := by
  unfold Kx at h
  unfold keysA
  induction h with
  | nil => exact .nil
  | cons r _ ih => exact .cons r.2.1 ih
theorem Kx.at {α : Type} {K : PySem.W.Frag} {H : Hp} {enc : α → PyData} {xs : Nx} {l : List (α × V)} (h : Kx K H enc xs l) {i : Nat} {e : NestedKey × Addr × V} (he : xs[i]? = some e) : ∃ q, l[i]? = some q ∧ Rp K H (.ref e.2.1) (enc q.1) := by
  obtain ⟨q, h1, h2⟩ := LiI.paired_get h he
  exact ⟨q, h1, h2.2.1⟩
theorem NR.keys {xs : Nx} {ys : List (NestedKey × Addr × Value)} (r : NR xs ys) : ys.map (fun y => y.2.1) = xs.map fun e => e.2.1 := by
  unfold NR at r
  induction r with
  | nil => rfl
  | cons h _ ih => rw [List.map_cons, List.map_cons, ih, h.2.1]
theorem raw_at {P : Program} {w : World} {xs : Nx} {ys : List (NestedKey × Addr × Value)} {es : Array DictEntry} (r : NR xs ys) (h : es.toList = ys.map (entryOfKey (nestedKind P w))) : es.size = xs.length ∧ ∀ (i : Nat) (e : NestedKey × Addr × V), xs[i]? = some e → ∃ en, es[i]? = some en ∧ en.key = .ref e.2.1 := by
  have l1 : es.size = ys.length := size_of_entries h
  have l2 : xs.length = ys.length := Paired.length r
  refine ⟨by omega, fun i e he => ?_⟩
  obtain ⟨y, h1, _, h2, _⟩ := LiI.paired_get r he
  have q := entry_at h i
  rw [h1] at q
  exact ⟨_, q, by rw [h2]; rfl⟩
theorem raw_all {P : Program} {w : World} {xs : Nx} {ys : List (NestedKey × Addr × Value)} {es : Array DictEntry} (r : NR xs ys) (h : es.toList = ys.map (entryOfKey (nestedKind P w))) {us : List Value} (l : us.length = es.size) (hv : ∀ (j : Nat) (v : Value), us[j]? = some v → ∃ en : DictEntry, es[j]? = some en ∧ v = en.key) : us = xs.map fun e => Value.ref e.2.1 := by
  obtain ⟨z, at_⟩ := raw_at r h
  refine List.ext_getElem? fun j => ?_
  rw [List.getElem?_map]
  cases e : xs[j]? with
  | none =>
    have : xs.length ≤ j := List.getElem?_eq_none_iff.mp e
    rw [List.getElem?_eq_none (by omega)]
    rfl
  | some x =>
    have hj : j < xs.length := (List.getElem?_eq_some_iff.mp e).1
    obtain ⟨en, h1, h2⟩ := at_ j x e
    obtain ⟨en', h3, h4⟩ := hv j _ (List.getElem?_eq_getElem (by omega : j < us.length))
    rw [h1] at h3
    cases h3
    rw [List.getElem?_eq_getElem (by omega : j < us.length), h4, h2]
    rfl
def rSortN (P : Program) (w : World) (K : PySem.W.Frag) : List V → Hp → VK → Prop := fun xs H Q => ∃ (a : Addr) (α : Type) (enc : α → PyData) (l : List (α × V)), xs = [.ref a] ∧ EDr P w K enc H a l ∧ l.length ≤ sizeLine ∧ EncOk enc ∧
  ∀ (p : Addr) (vs' : List V), H p = none → RpAll K H vs' ((sortE enc (keysA l)).map enc) → Q (.ref p) (upd H p (.lst vs'))
def rListN (P : Program) (w : World) (K : PySem.W.Frag) : List V → Hp → VK → Prop := fun xs H Q => ∃ (a : Addr) (α : Type) (enc : α → PyData) (l : List (α × V)), xs = [.ref a] ∧ EDr P w K enc H a l ∧ l.length ≤ sizeLine ∧
  ∀ (p : Addr) (vs' : List V), H p = none → RpAll K H vs' ((keysA l).map enc) → Q (.ref p) (upd H p (.lst vs'))
def rLenN (P : Program) (w : World) (K : PySem.W.Frag) : List V → Hp → VK → Prop := fun xs H Q => ∃ (a : Addr) (α : Type) (enc : α → PyData) (l : List (α × V)), xs = [.ref a] ∧ EDr P w K enc H a l ∧ EncOk enc ∧ l.length ≤ sizeLine ∧ Q (.int (l.length : Nat)) H
def rTruN (P : Program) (w : World) (K : PySem.W.Frag) : V → Hp → (Bool → Hp → Prop) → Prop := fun x H Q => ∃ (a : Addr) (α : Type) (enc : α → PyData) (l : List (α × V)), x = .ref a ∧ EDr P w K enc H a l ∧ EncOk enc ∧ l.length ≤ sizeLine ∧ Q (!l.isEmpty) H
section
variable {X : Cx}
theorem cr_sortN (hc : X.calm = true) (hu : X.A.units + 16 < cLine) : CallR X (.builtin "sorted") (rSortN X.prog X.w X.K) := by
  intro pins s σ H vs us Q I r h
  obtain ⟨a, α, enc, l, rfl, ⟨xs, hd, kx⟩, hz, ok, q⟩ := h
  obtain ⟨u, rfl, ru⟩ := vals1 r
  obtain rfl : u = Value.ref a := ru
  obtain ⟨z, ys, nr, o, es, ep, h1, h2, h3, h4⟩ := ndr_raw I hd
  obtain ⟨sz, _⟩ := raw_at nr h4
  have lx : xs.length = l.length := Paired.length kx
  have all := kx.all
  obtain ⟨e1, e2, e3⟩ := zip_all all
  have lz : ((xs.map fun e => V.ref e.2.1).zip (keysA l)).length = es.size := by
    rw [List.length_zip, List.length_map, sz]
    unfold keysA
    rw [List.length_map]
    omega
  refine sorted_src (bs := (xs.map fun e => V.ref e.2.1).zip (keysA l)) (R := fun u z => RelV z.1 u) (enc := fun z => enc z.2) (kdl_raw z h2 h3) (I.ok.hd hc) h1 (by omega) lz (fun acc ha hv => ?_) (fun h' kp u z rv hz => ?_) (PySem.W.AllAlike.of fun z z' => ok.alike _ _) (PySem.W.Sortable.tuples fun z => ok.ref _) (fun z _ => ?_) fun h1 h' tk out kp kp2 ⟨e, he⟩ ho => ?_
  · obtain rfl := raw_all nr h4 ha hv
    refine each_vals (f := fun z : V × α => z.1) ?_
    rw [show List.map (fun z : V × α => z.1) ((xs.map fun e => V.ref e.2.1).zip (keysA l)) = xs.map fun e => V.ref e.2.1 from e1]
    have : ∀ xs : Nx, Vals (xs.map fun e => V.ref e.2.1) (xs.map fun e => Value.ref e.2.1) := fun xs => by
      induction xs with
      | nil => exact .nil
      | cons x r ih => exact .cons rfl ih
    exact this xs
  · have I2 : Inv X pins σ H { s with heap := h' } := I.kept (t' := s.toks) kp
    obtain ⟨as, rd, _⟩ := Rp.reads I2 (enc z.2) z.1 u (e3 z hz) rv
    exact ⟨as, rd⟩
  · have := ok.dp z.2
    show X.A.units + 2 + (enc z.2).depth < cLine
    omega
  · have I1 : Inv X pins σ H { s with heap := h1, toks := tk } := I.kept (t' := tk) kp
    have ov := vals_each ho
    have perm : (((xs.map fun e => V.ref e.2.1).zip (keysA l)).mergeSort (PySem.W.dataLe false fun z : V × α => enc z.2)).Perm ((xs.map fun e => V.ref e.2.1).zip (keysA l)) := List.mergeSort_perm _ _
    have em : (((xs.map fun e => V.ref e.2.1).zip (keysA l)).mergeSort (PySem.W.dataLe false fun z : V × α => enc z.2)).map (·.2) = sortE enc (keysA l) := by
      have := PySem.W.sort_maps (r := PySem.W.dataLe false fun z : V × α => enc z.2) (s := PySem.W.dataLe false enc) (fun z : V × α => z.2) (l := (xs.map fun e => V.ref e.2.1).zip (keysA l)) (fun a _ b _ => rfl)
      rw [e2] at this
      exact this
    refine ⟨.ref h1.objs.size, upd H h1.objs.size (.lst ((((xs.map fun e => V.ref e.2.1).zip (keysA l)).mergeSort (PySem.W.dataLe false fun z : V × α => enc z.2)).map (·.1))), I1.laid (t' := tk) kp2 (Nat.le_refl _) ⟨?_, out, e, ov, he⟩, rfl, q _ _ (I1.hok.fresh (Nat.le_refl _)) ?_⟩
    · rw [List.length_map, perm.length_eq, lz]
      omega
    · rw [← em, List.map_map]
      exact rpAll_map fun z hz => e3 z (perm.mem_iff.mp hz)
theorem cr_listN (hc : X.calm = true) : CallR X (.type "list") (rListN X.prog X.w X.K) := by
  intro pins s σ H vs us Q I r h
  obtain ⟨a, α, enc, l, rfl, ⟨xs, hd, kx⟩, hz, q⟩ := h
  obtain ⟨u, rfl, ru⟩ := vals1 r
  obtain rfl : u = Value.ref a := ru
  obtain ⟨z, ys, nr, o, es, ep, h1, h2, h3, h4⟩ := ndr_raw I hd
  obtain ⟨sz, _⟩ := raw_at nr h4
  have lx : xs.length = l.length := Paired.length kx
  refine PySem.W.kdl_call (kdl_raw z h2 h3) (I.ok.hd hc) h1 (by omega) fun h' tk acc c' hk hD hacc => ?_
  have e := raw_all nr h4 (us := acc.toList) (by rw [Array.length_toList]; exact hacc.1) fun j v e => hacc.2 j v (by rw [← Array.getElem?_toList]; exact e)
  have hv : Vals (xs.map fun e => V.ref e.2.1) acc.toList := by
    rw [e]
    have : ∀ xs : Nx, Vals (xs.map fun e => V.ref e.2.1) (xs.map fun e => Value.ref e.2.1) := fun xs => by
      induction xs with
      | nil => exact .nil
      | cons x r ih => exact .cons rfl ih
    exact this xs
  exact ⟨.ref s.heap.objs.size, upd H s.heap.objs.size (.lst (xs.map fun e => V.ref e.2.1)), I.laid (t' := tk) hk (Nat.le_refl _)
    (show ObjOk X.prog X.w _ _ _ (.lst (xs.map fun e => V.ref e.2.1)) from ⟨by rw [List.length_map]; omega, acc.toList, c', hv, by rw [Array.toArray_toList]; exact hD⟩), rfl, q _ _ (I.hok.fresh (Nat.le_refl _)) kx.all⟩
theorem cr_lenN : CallR X (.builtin "len") (rLenN X.prog X.w X.K) := by
  intro pins s σ H vs us Q I r h
  obtain ⟨a, α, enc, l, rfl, ⟨xs, hd, kx⟩, ok, hz, q⟩ := h
  obtain ⟨u, rfl, ru⟩ := vals1 r
  obtain rfl : u = Value.ref a := ru
  obtain ⟨z, ys, nr, dd⟩ := ndr_of I hd (kx.ks ok)
  have lx : xs.length = l.length := Paired.length kx
  have ly : xs.length = ys.length := Paired.length nr
  refine call_len_dictH z dd (by rw [sizeLine_eq] at hz; omega) ?_
  rw [show ys.length = l.length by omega]
  exact ⟨.int (l.length : Nat), H, I.tok _, ⟨_, rfl⟩, q⟩
theorem truthy_dictH {prog : Program} {w : World} {K : Type} [DecidableEq K] {knd : HeapKind prog w K} {A : Around} {E : Value → Shared → Prop} {s : Shared} {d : Addr} {xs : List (K × Addr × Value)} {Q : Bool → Shared → Prop} (hd : (d == sysModules) = false) (hm : s.heap.DictOfH knd d xs) (hfit : (xs.length : Int) < 2 ^ 63)
    (h : Q (!xs.isEmpty) { s with toks := s.toks + 1 + 1 }) : wpAny (model prog w) A (truthy (.ref d)) Q E s := by
  have hne : ((xs.length : Int) != 0) = !xs.isEmpty := by cases xs <;> simp <;> omega
  have key : wpAny (model prog w) A (runValue (.builtin "len" ⟨[.ref d], []⟩)) (fun r s' => r = .int xs.length (s.toks + 1) ∧ Q (!xs.isEmpty) s') E s := by
    refine wpAny_runValue (codeAny_builtin entry_len ?_)
    rw [Around.under_plainId plain_len _]
    exact wpAny_mono (wpAny_len_body_dictH (Q := fun r s' => r = .int xs.length (s.toks + 1) ∧ Q (!xs.isEmpty) s') hd hm hfit ⟨rfl, h⟩)
      (fun fin s' h' => by obtain ⟨r, rfl, hq⟩ := h'; exact hq) fun _ _ e => e
  unfold truthy
  first
    | refine wpAny_bind (wpAny_callSpecial?_none (name := Str.ofString "__bool__") hm.typeIs noBool_dict ?_)
    | refine wpAny_bind (wpAny_pure (wpAny_bind (wpAny_callSpecial?_none (name := Str.ofString "__bool__") hm.typeIs noBool_dict ?_)))
  first
    | refine wpAny_bind (wpAny_specialOf (name := Str.ofString "__len__") hm.typeIs F.slot_dict_len.lookup ?_)
    | refine wpAny_bind (wpAny_pure (wpAny_bind (wpAny_specialOf (name := Str.ofString "__len__") hm.typeIs F.slot_dict_len.lookup ?_)))
  first
    | exact wpAny_bind (wpAny_mono key (fun r s' h' => by obtain ⟨rfl, hq⟩ := h'; exact wpAny_pure (hne ▸ hq)) fun _ _ e => e)
    | exact wpAny_bind (wpAny_pure (wpAny_bind (wpAny_mono key (fun r s' h' => by obtain ⟨rfl, hq⟩ := h'; exact wpAny_pure (hne ▸ hq)) fun _ _ e => e)))
theorem tru_dictN : TruR X (rTruN X.prog X.w X.K) := by
  intro pins s σ H x v Q I rx h
  obtain ⟨a, α, enc, l, rfl, ⟨xs, hd, kx⟩, ok, hz, q⟩ := h
  obtain rfl : v = Value.ref a := rx
  obtain ⟨z, ys, nr, dd⟩ := ndr_of I hd (kx.ks ok)
  have lx : xs.length = l.length := Paired.length kx
  have ly : xs.length = ys.length := Paired.length nr
  refine truthy_dictH z dd (by rw [sizeLine_eq] at hz; omega) ?_
  have e : ys.isEmpty = l.isEmpty := by
    have h : ys.length = l.length := by omega
    rw [Bool.eq_iff_iff, List.isEmpty_iff_length_eq_zero, List.isEmpty_iff_length_eq_zero, h]
  rw [e]
  exact ⟨H, I.tok _, q⟩
/-- {} -/
def tENew (P : Program) (w : World) : TE := fun _ H Q => ∀ p, H p = none → Q (.ref p) (upd H p (NdO P w p []))
theorem pe_enew {pos : Pos} : PE X (.Dict [] [] pos) (tENew X.prog X.w) := by
  refine ⟨fun pins s σ H Q I q => wpAny_Dict_empty ?_⟩
  have zs : (s.heap.objs.size == sysModules) = false := beq_eq_false_iff_ne.mpr (Ne.symm (Nat.ne_of_lt I.big))
  have I1 := I.laid (a := s.heap.objs.size) (o := NdO X.prog X.w s.heap.objs.size []) (h' := s.heap.push { cls := .type "dict", data := .dict #[] }) (t' := s.toks) (fun _ _ q => Heap.get?_push_of_some _ q) (Nat.le_refl _)
    (ndO_ok ⟨zs, [], .nil, List.nodup_nil, _, #[], 0, Heap.get?_push_size _ rfl, ⟨rfl, rfl, rfl⟩, rfl, rfl⟩)
  exact ⟨.ref s.heap.objs.size, _, I1, rfl, q _ (I.hok.fresh (Nat.le_refl _))⟩
end
/-! for k in d -/
def Itn (P : Program) (w : World) (d : Addr) (o : Obj) (xs : Nx) : It :=
  ⟨fun i H => H d = some (.frz o (NdO P w d xs)) ∧ i < xs.length, fun i H x H' => H' = H ∧ ∃ e, xs[i]? = some e ∧ x = .ref e.2.1, fun i H => H d = some (.frz o (NdO P w d xs)) ∧ xs.length ≤ i⟩
theorem frzN {X : Cx} {pins : List (Addr × Obj)} {σ : L2.St} {H : Hp} {s : Shared} {d : Addr} {o : Obj} {xs : Nx} (I : Inv X pins σ H s) (h : H d = some (.frz o (NdO X.prog X.w d xs))) :
    (d == sysModules) = false ∧ s.heap.get? d = some o ∧ o.ExactDict ∧ ∃ (es : Array DictEntry) (ep : Nat), o.data = .dict es ep ∧ es.size = xs.length ∧ ∀ (i : Nat) (e : NestedKey × Addr × V), xs[i]? = some e → ∃ en, es[i]? = some en ∧ en.key = .ref e.2.1 := by
  obtain ⟨hd, ⟨z, ys, nr, nd, o', es, ep, h1, h2, h3, h4⟩, _, _⟩ := I.hok d _ h
  rw [hd] at h1
  cases h1
  obtain ⟨sz, at_⟩ := raw_at nr h4
  exact ⟨z, hd, h2, es, ep, h3, sz, at_⟩
theorem turn_nkeys {P : Program} {w : World} {K : PySem.W.Frag} {tg : Expr} {d : Addr} {o : Obj} {es : Array DictEntry} {ep : Nat} {xs : Nx} (it : Addr) (hod : o.data = .dict es ep) : Turn P w K tg (Itn P w d o xs) [it] it (fun i h => h.IsKeyIter it d i xs.length ep) where
  mem := by simp
  obj := fun i h st b hb => by
    have e : b = it := by simpa using hb
    subst e
    obtain ⟨oi, e, c, dd⟩ := st
    exact ⟨oi, e, fun v z => by rw [dd] at z; cases z⟩
  keep := fun i h h' st k => st.at fun oi e => k it (by simp) oi e
  item := by
    intro X hP hw hK hc i pins s σ H E I hf st hg
    subst hP hw hK
    obtain ⟨hd, hi⟩ := hg
    obtain ⟨f0, f1, f2, f3, f4, f5⟩ := hf it (by simp)
    obtain ⟨hs, hgd, hx, es', ep', hdt, hsz, ent⟩ := frzN I hd
    obtain ⟨rfl, rfl⟩ := dict_ep hod hdt
    obtain ⟨x, hxi⟩ : ∃ p, xs[i]? = some p := ⟨xs[i], List.getElem?_eq_getElem hi⟩
    obtain ⟨en, hen, hkey⟩ := ent i x hxi
    refine next_key_item st hgd hdt hsz hen fun h' st' sb => ?_
    have I1 : Inv X pins σ H { s with heap := h' } := I.turned (t' := s.toks) (fun b ob hb e => (sb.2 b hb).trans e) f0 f1 f3 f4 f5
    obtain ⟨oi, e, c, dd⟩ := id st'
    exact ⟨en.key, rfl, go_of (s := { s with heap := h' }) e c dd (by decide) ⟨.ref x.2.1, H, I1, hkey, ⟨rfl, x, hxi, rfl⟩, st', fun b hb => (hf b hb).1⟩⟩
  done := by
    intro X hP hw hK hc i pins s σ H E I hf st hg
    subst hP hw hK
    obtain ⟨hd, hi⟩ := hg
    obtain ⟨f0, f1, f2, f3, f4, f5⟩ := hf it (by simp)
    obtain ⟨hs, hgd, hx, es', ep', hdt, hsz, ent⟩ := frzN I hd
    obtain ⟨rfl, rfl⟩ := dict_ep hod hdt
    exact next_key_end (I.ok.hd hc) st hgd hdt hsz hi fun h' eb => ⟨rfl, I.turned (t' := s.toks) (fun b ob hb e => eb b ob hb e) f0 f1 f3 f4 f5⟩
  self := fun A i s Q E st h => wpAny_pyIter_keyiter st h
def iNKeys (P : Program) (w : World) (td : TE) : TI := fun σ H R => td σ H fun x H1 => ∃ d o xs, x = .ref d ∧ H1 d = some (.frz o (NdO P w d xs)) ∧ R (Itn P w d o xs) H1
theorem pi_nkeys {X : Cx} {tg e : Expr} {td : TE} (he : PE X e td) : PI X tg e (iNKeys X.prog X.w td) := by
  refine ⟨fun pins s σ H R I h => ?_⟩
  refine thn (he.run pins s σ H _ I h) fun u s1 ⟨x, H1, I1, rx, d, o, xs, ex, hd, q⟩ => ?_
  subst ex
  obtain rfl : u = Value.ref d := rx
  obtain ⟨hs, hgd, hx, es, ep, hdt, hsz, ent⟩ := frzN I1 hd
  refine iter_keys hs hgd hx hdt (pi_one (tk := s1.toks) I1 _ (turn_nkeys _ hdt) ⟨_, Heap.get?_push_size _ rfl, rfl, ?_⟩ q)
  rw [hsz] <;> rfl
theorem walk_nkeys {P : Program} {w : World} {d : Addr} {o : Obj} {xs : Nx} : Walk (Itn P w d o xs) xs.length (fun H => H d = some (.frz o (NdO P w d xs))) (fun i H x H' => H' = H ∧ ∃ e, xs[i]? = some e ∧ x = .ref e.2.1) :=
  ⟨fun _ _ hi q => ⟨q, hi⟩, fun _ q => ⟨q, Nat.le_refl _⟩, fun _ _ _ _ _ _ y => y⟩
end My
/-! ### standings -/
namespace My
open PySem PySem.Spec PyProof.Rows L2 PySem.Builtin.Str
structure Sg where
  p : Int
  s : Int
  L : List (Int × Int)
  deriving DecidableEq
def eSg (t : Sg) : PyData := .tuple [.int t.p, .int t.s, .tuple (t.L.map eP)]
theorem keyNs_eP : ∀ l : List (Int × Int), keyNs (l.map eP) = l.map fun q => NestedKey.tup [.num q.1, .num q.2]
  | [] => by rw [List.map_nil, keyNs, List.map_nil]
  | q :: l => by
    rw [List.map_cons, keyNs, keyNs_eP l, List.map_cons]
    rfl
theorem keyN_sg (t : Sg) : keyN (eSg t) = .tup [.num t.p, .num t.s, .tup (t.L.map fun q => .tup [.num q.1, .num q.2])] := by
  show keyN (.tuple _) = _
  simp only [eSg, keyN, keyNs, keyNs_eP]
theorem map_pair_inj : ∀ {l m : List (Int × Int)}, (l.map fun q => NestedKey.tup [.num q.1, .num q.2]) = (m.map fun q => NestedKey.tup [.num q.1, .num q.2]) → l = m
  | [], [], _ => rfl
  | [], _ :: _, h => by simp at h
  | _ :: _, [], h => by simp at h
  | a :: l, b :: m, h => by
    rw [List.map_cons, List.map_cons] at h
    injection h with h1 h2
    injection h1 with h1
    injection h1 with h3 h4
    injection h4 with h4 _
    injection h3 with h3
    injection h4 with h4
    rw [map_pair_inj h2, Prod.ext h3 h4]
theorem depth_pairs : ∀ l : List (Int × Int), NestedKey.depthAll (l.map fun q => NestedKey.tup [.num q.1, .num q.2]) ≤ 1
  | [] => by simp [NestedKey.depthAll]
  | q :: l => by
    rw [List.map_cons, NestedKey.depthAll]
    have := depth_pairs l
    simp [NestedKey.depth, NestedKey.depthAll]
    omega
theorem alike_pairs : ∀ l m : List (Int × Int), PySem.W.alikeAll (l.map eP) (m.map eP) = true
  | [], _ => by simp [PySem.W.alikeAll]
  | _ :: _, [] => by simp [PySem.W.alikeAll]
  | a :: l, b :: m => by
    rw [List.map_cons, List.map_cons, PySem.W.alikeAll, alike_pairs l m]
    simp [eP, PySem.W.alike, PySem.W.alikeAll]
theorem eqv_pairs : ∀ l m : List (Int × Int), PyData.eqvAll (l.map eP) (m.map eP) = true → l = m
  | [], [], _ => rfl
  | [], _ :: _, h => by simp [PyData.eqvAll] at h
  | _ :: _, [], h => by simp [PyData.eqvAll] at h
  | a :: l, b :: m, h => by
    rw [List.map_cons, List.map_cons, PyData.eqvAll, Bool.and_eq_true, eqv_eP, decide_eq_true_eq] at h
    rw [h.1, eqv_pairs l m h.2]
theorem depthD_pairs : ∀ l : List (Int × Int), PyData.depthAll (l.map eP) ≤ 1
  | l => (lay_eP l).2.1
theorem enc_sg : EncOk eSg := by
  refine ⟨fun a b h => ?_, fun a => ?_, fun a => ?_, fun a => ⟨_, _, rfl⟩, fun a b => ?_, fun a b h => ?_, fun a => ?_⟩
  · rw [keyN_sg, keyN_sg] at h
    injection h with h
    injection h with h1 h
    injection h with h2 h
    injection h with h3 _
    injection h1 with h1
    injection h2 with h2
    injection h3 with h3
    obtain ⟨p, s, L⟩ := a
    obtain ⟨p', s', L'⟩ := b
    simp only at h1 h2 h3
    rw [h1, h2, map_pair_inj h3]
  · simp only [eSg, tO, tOs, Bool.true_and, Bool.and_true]
    exact tOs_map tO_eP a.L
  · rw [keyN_sg]
    have := depth_pairs a.L
    simp [NestedKey.depth, NestedKey.depthAll]
    omega
  · simp only [eSg, PySem.W.alike, PySem.W.alikeAll, Bool.true_and, Bool.and_true]
    exact alike_pairs a.L b.L
  · simp only [eSg, PyData.eqv, PyData.eqvAll, Bool.and_eq_true, decide_eq_true_eq, Bool.and_true] at h
    obtain ⟨h1, h2, h3⟩ := h
    obtain ⟨p, s, L⟩ := a
    obtain ⟨p', s', L'⟩ := b
    simp only at h1 h2 h3
    rw [eqv_pairs _ _ h3]
    simp_all
  · simp only [eSg, PyData.depth, PyData.depthAll]
    have := depthD_pairs a.L
    omega
/-! dicts with all values changed -/
def mapD (f : Int → Int) (D : Dk) : Dk := D.map fun kv => (kv.1, f kv.2)
theorem getI_mapD (f : Int → Int) (k : Int) : ∀ D : Dk, getI (mapD f D) k = (getI D k).map f
  | [] => rfl
  | p :: r => by
    show getI ((p.1, f p.2) :: mapD f r) k = _
    rw [getI_cons, getI_cons, getI_mapD f k r]
    by_cases e : p.1 = k <;> simp [e]
theorem keys_mapD (f : Int → Int) (D : Dk) : keysI (mapD f D) = keysI D := by
  unfold keysI mapD
  rw [List.map_map]
  rfl
theorem putI_mapD (f : Int → Int) (D : Dk) (k v : Int) : putI (mapD f D) k (f v) = mapD f (putI D k v) := by
  unfold putI
  rw [getI_any, getI_any, getI_mapD, Option.isSome_map]
  split
  · unfold mapD
    rw [List.map_map, List.map_map]
    refine List.map_congr_left fun p _ => ?_
    show (if p.1 = k then (p.1, f v) else (p.1, f p.2)) = (fun kv : Int × Int => (kv.1, f kv.2)) (if p.1 = k then (p.1, v) else p)
    split <;> rfl
  · unfold mapD
    rw [List.map_append]
    rfl
theorem len_mapD (f : Int → Int) (D : Dk) : (mapD f D).length = D.length := List.length_map _
/-! one step on -/
structure Ct where
  M : Mc
  N : Mc
  R : List (List (Option Int))
def Ct.over (C : Ct) : Int := max 0 (maxL (paysL C.N) - minL (paysL C.M))
def Ct.below (C : Ct) : Int := max 0 (maxL (paysL C.M) - minL (paysL C.N))
def placeOn (R : List (List (Option Int))) (at_ : Nat) (p : Int) : Option Int := (R.getD p.toNat []).getD at_ none
def nearG (C : Ct) (at_ : Nat) (t : Sg) : Dk := gainOf (chP C.N at_) t.L
def aheadOf (b pay : Int) (G : Dk) : List (Int × Int) := (sortI (keysI G)).map fun e => (e, b * (pay - (getI G e).getD 0))
def vainB (b below lead : Int) : Bool := decide (below * b ≤ -lead * (b - 1))
def keepB (b over lead : Int) : Bool := decide (lead * (b - 1) ≤ over * b)
def goOn (C : Ct) (at_ : Nat) (t : Sg) (p' : Int) (q : Int × Int) : Option Sg :=
  if ((aheadOf C.M.b q.1 (nearG C at_ t)).any fun e => vainB C.M.b C.below e.2) = true then none
  else some ⟨p', q.2, (aheadOf C.M.b q.1 (nearG C at_ t)).filter fun e => keepB C.M.b C.over e.2⟩
def succOf (C : Ct) (at_ : Nat) (t : Sg) : List Sg := match placeOn C.R at_ t.p with
  | none => []
  | some p' => (chP C.M at_ t.s).filterMap (goOn C at_ t p')
def FIRSTg : Sg := ⟨0, 0, [(0, 0)]⟩
/-- what keeps the contest right -/
structure Cok (C : Ct) : Prop where
  m : Mok C.M
  n : Mok C.N
  bb : C.N.b = C.M.b
  zz : C.N.z = C.M.z
  r1 : 1 ≤ C.R.length
  r4 : C.R.length ≤ 4
  row : ∀ r ∈ C.R, RowOk C.M.z.length C.R.length r
/-- a standing of the contest -/
structure Sok (C : Ct) (t : Sg) : Prop where
  p0 : 0 ≤ t.p
  p1 : t.p ≤ (C.R.length : Int) - 1
  s0 : 0 ≤ t.s
  s1 : t.s ≤ (C.M.C.length : Int) - 1
  kin : Kin C.N.C.length t.L
  asc : t.L.Pairwise fun a b => a.1 < b.1
  bd : Bd 200 t.L
  few : t.L.length ≤ 60
theorem sok_first {C : Ct} (h : Cok C) : Sok C FIRSTg := by
  have h1 := h.r1
  have h2 := h.m.c1
  have h3 := h.n.c1
  refine ⟨Int.le_refl _, by show (0 : Int) ≤ _; omega, Int.le_refl _, by show (0 : Int) ≤ _; omega, ⟨by simp [FIRSTg, keysI], fun k hk => ?_⟩, by simp [FIRSTg], fun kv hkv => ?_, (by show 1 ≤ 60; decide)⟩
  · have : k = 0 := by simpa [FIRSTg, keysI] using hk
    omega
  · obtain rfl : kv = (0, 0) := by simpa [FIRSTg] using hkv
    decide +kernel
theorem near_kin {C : Ct} (h : Cok C) {at_ : Nat} {t : Sg} : Kin C.N.C.length (nearG C at_ t) := gain_kin h.n
theorem few_on2 {M : Mc} (h : Mok M) {at_ : Nat} {f : Int → Int → Int} {D : Dk} {n : Nat} (hd : D.length ≤ n) (hn : 4 ≤ n) : (bestOn (chP M at_) f D []).length ≤ n := by
  rcases h.few with c4 | one
  · have := kin_len (n := M.C.length) (d := bestOn (chP M at_) f D []) (kin_on (kin_nil _) fun kv _ p hp => ⟨(ch_rg h hp).2.2.1, (ch_rg h hp).2.2.2⟩)
    omega
  · have := on_len (P := chP M at_) (f := f) (fun s => by
      cases e : chP M at_ s with
      | nil => exact Nat.zero_le _
      | cons p r =>
        obtain ⟨cs, hcs, ps, hps, _, e2⟩ := ch_mem h (at_ := at_) (s := s) (p := p) (by rw [e]; exact .head _)
        rw [← e, e2, one cs hcs ps hps]
        exact Nat.le_refl _) D []
    rw [List.length_nil] at this
    omega
theorem near_few {C : Ct} (h : Cok C) {at_ : Nat} {t : Sg} (ht : t.L.length ≤ 60) : (nearG C at_ t).length ≤ 60 := few_on2 h.n ht (by decide)
theorem ahead_len (b pay : Int) (G : Dk) : (aheadOf b pay G).length = G.length := by
  unfold aheadOf
  rw [List.length_map, (sort_perm _).length_eq]
  unfold keysI
  exact List.length_map _
theorem ahead_keys (b pay : Int) (G : Dk) : (aheadOf b pay G).map (·.1) = sortI (keysI G) := by
  unfold aheadOf
  rw [List.map_map]
  exact List.map_id _
theorem ahead_asc {b pay : Int} {G : Dk} (nd : (keysI G).Nodup) : (aheadOf b pay G).Pairwise fun x y => x.1 < y.1 := by
  unfold aheadOf
  rw [List.pairwise_map]
  have n2 : (sortI (keysI G)).Nodup := (sort_perm _).nodup_iff.mpr nd
  exact (List.Pairwise.and (sort_sorted (keysI G)) n2).imp fun h => by
    have h1 := h.1
    have h2 := h.2
    show _ < _
    omega
theorem mul_bound {b k : Int} (b2 : 2 ≤ b) (h : 0 ≤ k) : k ≤ k * (b - 1) := by
  have := Int.mul_le_mul_of_nonneg_left (show (1 : Int) ≤ b - 1 by omega) h
  omega
theorem over_rg {C : Ct} (h : Cok C) : 0 ≤ C.over ∧ C.over ≤ 2 * wideN ∧ 0 ≤ C.below ∧ C.below ≤ 2 * wideN := by
  have a1 := pays_rg h.m _ (maxL_mem (pays_ne h.m))
  have a2 := pays_rg h.m _ (minL_mem (pays_ne h.m))
  have a3 := pays_rg h.n _ (maxL_mem (pays_ne h.n))
  have a4 := pays_rg h.n _ (minL_mem (pays_ne h.n))
  have w := wide_two.2
  unfold Ct.over Ct.below
  omega
/-- what a lead that is kept can be -/
theorem kept_rg {b over below k : Int} (b2 : 2 ≤ b) (b9 : b ≤ 9) (o0 : 0 ≤ over) (l0 : 0 ≤ below) (hv : vainB b below k = false) (hk : keepB b over k = true) : -(9 * below) ≤ k ∧ k ≤ 9 * over := by
  unfold vainB at hv
  unfold keepB at hk
  have h1 := of_decide_eq_false hv
  have h2 := of_decide_eq_true hk
  have a1 : over * b ≤ over * 9 := Int.mul_le_mul_of_nonneg_left b9 o0
  have a2 : below * b ≤ below * 9 := Int.mul_le_mul_of_nonneg_left b9 l0
  rcases Int.le_total 0 k with p | p
  · have := mul_bound b2 p
    omega
  · have := mul_bound b2 (show 0 ≤ -k by omega)
    omega
theorem go_sok {C : Ct} (h : Cok C) {at_ : Nat} {t u : Sg} {p' : Int} {q : Int × Int} (ht : t.L.length ≤ 60) (hp : 0 ≤ p' ∧ p' ≤ (C.R.length : Int) - 1) (hq : q ∈ chP C.M at_ t.s) (e : goOn C at_ t p' q = some u) : Sok C u := by
  unfold goOn at e
  split at e
  · cases e
  · rename_i nv
    cases e
    have nk := near_kin h (at_ := at_) (t := t)
    have qr := ch_rg h.m hq
    have asc := ahead_asc (b := C.M.b) (pay := q.1) nk.nd
    have mem : ∀ e ∈ aheadOf C.M.b q.1 (nearG C at_ t), e.1 ∈ keysI (nearG C at_ t) := fun e he => by
      have : e.1 ∈ (aheadOf C.M.b q.1 (nearG C at_ t)).map (·.1) := List.mem_map_of_mem he
      rw [ahead_keys] at this
      exact (sort_perm _).mem_iff.mp this
    refine ⟨hp.1, hp.2, qr.2.2.1, qr.2.2.2, ⟨?_, fun k hk => ?_⟩, asc.filter _, fun kv hkv => ?_, ?_⟩
    · unfold keysI
      rw [List.Nodup, List.pairwise_map]
      exact (asc.filter _).imp fun h => Int.ne_of_lt h
    · obtain ⟨e, he, rfl⟩ := List.mem_map.mp hk
      exact nk.rg _ (mem e (List.mem_filter.mp he).1)
    · obtain ⟨h1, h2⟩ := List.mem_filter.mp hkv
      have hv : vainB C.M.b C.below kv.2 = false := by
        rcases SrtO.bcase (vainB C.M.b C.below kv.2) with z | z
        · exact absurd (List.any_eq_true.mpr ⟨kv, h1, z⟩) nv
        · exact z
      have o := over_rg h
      have k := kept_rg h.m.b2 h.m.b9 o.1 o.2.2.1 hv h2
      have w : 18 * wideN < 2 ^ 199 := by decide +kernel
      have w2 : ((2 : Int) ^ 199).natAbs < 2 ^ 200 := by decide +kernel
      show kv.2.natAbs < 2 ^ 200
      omega
    · have l1 := List.length_filter_le (fun e : Int × Int => keepB C.M.b C.over e.2) (aheadOf C.M.b q.1 (nearG C at_ t))
      rw [ahead_len] at l1
      exact Nat.le_trans l1 (near_few h ht)
theorem place_rg {C : Ct} (h : Cok C) {at_ : Nat} {p p' : Int} (e : placeOn C.R at_ p = some p') : 0 ≤ p' ∧ p' ≤ (C.R.length : Int) - 1 := by
  unfold placeOn at e
  rw [List.getD_eq_getElem?_getD (l := C.R)] at e
  cases e1 : C.R[p.toNat]? with
  | none => rw [e1] at e; simp at e
  | some r =>
    rw [e1, Option.getD_some, List.getD_eq_getElem?_getD] at e
    cases e2 : r[at_]? with
    | none => rw [e2] at e; cases e
    | some x =>
      rw [e2] at e
      obtain rfl : x = some p' := e
      have := (h.row r (List.mem_of_getElem? e1)).range p' (List.mem_of_getElem? e2)
      omega
theorem succ_sok {C : Ct} (h : Cok C) {at_ : Nat} {t u : Sg} (ht : t.L.length ≤ 60) (hu : u ∈ succOf C at_ t) : Sok C u := by
  unfold succOf at hu
  split at hu
  · cases hu
  · rename_i p' e
    obtain ⟨q, hq, e2⟩ := List.mem_filterMap.mp hu
    exact go_sok h ht (place_rg h e) hq e2
end My
/-! ### the successors -/
namespace My
open PySem PySem.Spec PyProof.Rows L2 PySem.Builtin.Str
abbrev sSucc : Stmt := topS 54
abbrev sHasWon : Stmt := topS 56
theorem scSucc : FnScope ["contest", "standing", "at", "base", "_", "places", "ones", "others", "over", "below", "place", "state", "leads", "after", "nearest", "rival", "lead", "loss", "to", "found", "pay", "later", "ahead", "end", "pair"] ["contest", "standing", "at"] (defScope sSucc) := ⟨rfl, rfl, rfl, by decide +kernel, rfl, by decide +kernel, by decide +kernel⟩
theorem scHasWon : FnScope ["level", "standing"] ["level"] (defScope sHasWon) := ⟨rfl, rfl, rfl, by decide +kernel, rfl, by decide +kernel, by decide +kernel⟩
abbrev sIsWon : Stmt := topS 55
theorem scIsWon : FnScope ["standing"] ["standing"] (defScope sIsWon) := ⟨rfl, rfl, rfl, by decide +kernel, rfl, by decide +kernel, by decide +kernel⟩
structure SuTxt (K : PySem.W.Frag) (mg : Str → Option Value) (g1 g2 g3 : Addr) (e1 e2 e3 : FuncData) : Prop where
  sorted : mg "sorted" = none
  any : mg "any" = none
  tuple : mg "tuple" = none
  FSucc : Fun K "successors" "successors" sSucc g1 e1
  bSucc : Binds K e1 ["contest", "standing", "at"] []
  gSucc : mg "successors" = some (.ref g1)
  FIsWon : Fun K "is_won" "is_won" sIsWon g2 e2
  bIsWon : Binds K e2 ["standing"] []
  gIsWon : mg "is_won" = some (.ref g2)
  FHasWon : Fun K "has_won" "has_won" sHasWon g3 e3
  bHasWon : Binds K e3 ["level"] []
  gHasWon : mg "has_won" = some (.ref g3)
def eCt (C : Ct) : PyData := .tuple [.int C.M.b, .str C.M.z, .tuple (rowsD C.R), .tuple (C.M.C.map eS), .tuple (C.N.C.map eS), .int C.over, .int C.below]
theorem stV_of {K : PySem.W.Frag} {H : Hp} {v : V} {o : Option Int} (h : Rp K H v (stD o)) : v = stV o := by
  cases o with
  | none =>
    have h2 : Rp K H v .none := h
    cases h2
    rfl
  | some i => exact Rp.isInt (show Rp K H v (.int i) from h)
theorem ct_top {K : PySem.W.Frag} {H : Hp} {x : V} {C : Ct} (hx : Rp K H x (eCt C)) : ∃ a rt rs c1 us c2 ws, x = .ref a ∧ SqT K H a [.int C.M.b, .str C.M.z, .ref rt, .ref c1, .ref c2, .int C.over, .int C.below] ∧ SqT K H rt rs ∧ RpAll K H rs (rowsD C.R) ∧ SqT K H c1 us ∧ RpAll K H us (C.M.C.map eS) ∧ SqT K H c2 ws ∧ RpAll K H ws (C.N.C.map eS) := by
  obtain ⟨a, ys, rfl, hS, hA⟩ := Rp.isTup hx
  cases hA with
  | cons h0 hA => cases hA with
    | cons h1 hA => cases hA with
      | cons h2 hA => cases hA with
        | cons h3 hA => cases hA with
          | cons h4 hA => cases hA with
            | cons h5 hA => cases hA with
              | cons h6 hA =>
                cases hA
                obtain ⟨rt, rs, rfl, r1, r2⟩ := Rp.isTup h2
                obtain ⟨c1, us, rfl, r3, r4⟩ := Rp.isTup h3
                obtain ⟨c2, ws, rfl, r5, r6⟩ := Rp.isTup h4
                cases h0.isInt
                cases h5.isInt
                cases h6.isInt
                obtain ⟨_, rfl, e2, _⟩ := h1.isStr rfl
                cases e2
                exact ⟨a, rt, rs, c1, us, c2, ws, rfl, hS, r1, r2, r3, r4, r5, r6⟩
theorem sg_top {K : PySem.W.Frag} {H : Hp} {y : V} {t : Sg} (hy : Rp K H y (eSg t)) : ∃ a l vs, y = .ref a ∧ SqT K H a [.int t.p, .int t.s, .ref l] ∧ SqT K H l vs ∧ RpAll K H vs (t.L.map eP) := by
  obtain ⟨a, ys, rfl, hS, hA⟩ := Rp.isTup hy
  obtain ⟨u, w, v, p, s, q, rfl, e, h1, h2, h3⟩ := hA.three rfl
  cases e
  cases h1.isInt
  cases h2.isInt
  obtain ⟨l, vs, rfl, r1, r2⟩ := Rp.isTup h3
  exact ⟨a, l, vs, rfl, hS, r1, r2⟩
theorem row_at {K : PySem.W.Frag} {H : Hp} {rs : List V} {R : List (List (Option Int))} {n at_ : Nat} {p : Int} (hA : RpAll K H rs (rowsD R)) (hr : ∀ r ∈ R, r.length = n) (p0 : 0 ≤ p) (p1 : p ≤ (R.length : Int) - 1) (ha : at_ < n) :
    ∃ ra ys, atI rs p = some (.ref ra) ∧ SqT K H ra ys ∧ atI ys (at_ : Int) = some (stV (placeOn R at_ p)) := by
  have hp : p.toNat < R.length := by omega
  obtain ⟨u, hu, r1⟩ := rpAll_get (f := fun r : List (Option Int) => PyData.tuple (r.map stD)) hA (List.getElem?_eq_getElem hp)
  obtain ⟨ra, ys, rfl, hS, hA2⟩ := r1.isTup
  have ha2 : at_ < R[p.toNat].length := by rw [hr _ (List.getElem_mem hp)]; exact ha
  obtain ⟨u2, hu2, r2⟩ := rpAll_get hA2 (List.getElem?_eq_getElem ha2)
  have es : ((p.toNat : Nat) : Int) = p := by omega
  have e2 : placeOn R at_ p = R[p.toNat][at_] := by
    unfold placeOn
    rw [List.getD_eq_getElem?_getD (l := R), List.getElem?_eq_getElem hp, Option.getD_some, List.getD_eq_getElem?_getD, List.getElem?_eq_getElem ha2]
    rfl
  refine ⟨ra, ys, es ▸ atI_nat hu, hS, ?_⟩
  rw [e2, ← stV_of r2]
  exact atI_nat hu2
def neg1 (i : Int) : Int := -i
def spSucc (K : PySem.W.Frag) : Sp := fun vs H Q _ => ∃ (x y : V) (C : Ct) (t : Sg) (at_ : Nat), vs = [x, y, .int (at_ : Nat)] ∧ Rp K H x (eCt C) ∧ Cok C ∧ Rp K H y (eSg t) ∧ Sok C t ∧ at_ < C.M.z.length ∧
  ∀ H' l us, Same H H' → H l = none → H' l = some (.lst us) → RpAll K H' us ((succOf C at_ t).map eSg) → Q (.ref l) H'
theorem upd_id2 {H : Hp} {g : Addr} {o : HO} (h : H g = some o) : upd H g o = H := upd_id h
/-- if k not in d or u - v < d[k]: d[k] = u - v, what stands in d being negated -/
theorem lo_if {iT iD iA iB : Nat} {D : Ends} {σ : L2.St} {H : Hp} {g : Addr} {L : Dk} {k u v : Int} (e1 : σ[iT]? = some (some (.int k))) (e2 : σ[iD]? = some (some (.ref g))) (e3 : σ[iA]? = some (some (.int u))) (e4 : σ[iB]? = some (some (.int v))) (hg : H g = some (.dK (kd (mapD neg1 L)))) (hl : L.length < sizeLine)
    (h : D.nx σ (upd H g (.dK (kd (mapD neg1 (upMax L k (v - u))))))) :
    tIfS (tOr (tB (tDNotIn (tVar iT) (tVar iD))) (tTest (tOp (rI0 fun i j => V.bl (decide (i < j))) (tOp (rI0 fun i j => V.int (i - j)) (tVar iA) (tVar iB)) (tDGet (tVar iD) (tVar iT))))) (sDPut (tVar iD) (tVar iT) (tOp (rI0 fun i j => V.int (i - j)) (tVar iA) (tVar iB))) tNext D σ H := by
  have e5 : u - v = neg1 (v - u) := by unfold neg1; omega
  have put : upMax L k (v - u) = putI L k (v - u) → sDPut (tVar iD) (tVar iT) (tOp (rI0 fun i j => V.int (i - j)) (tVar iA) (tVar iB)) D σ H := fun e => by
    refine ⟨_, e3, _, e4, _, _, rfl, rfl, _, e2, _, e1, g, _, rfl, DPut.k (k := Sum.inl k) hg (by rw [kd_len, len_mapD]; exact hl), ?_⟩
    rw [kd_put, e5, putI_mapD, ← e]
    exact h
  refine ⟨_, e1, _, e2, g, _, rfl, kd_get (.inl hg), _, rfl, ?_⟩
  rw [getI_mapD]
  cases e : getI L k with
  | none => exact iteT (iteT (put (by unfold upMax; rw [e])))
  | some w =>
    refine iteF ⟨_, e3, _, e4, _, _, rfl, rfl, _, e2, _, e1, g, .int (neg1 w), rfl, ?_, _, _, rfl, rfl, _, rfl, ?_⟩
    · have := kd_get (d := mapD neg1 L) (k := k) (.inl hg)
      rw [getI_mapD, e] at this
      exact this
    · by_cases l : w < v - u
      · rw [decide_eq_true (show u - v < neg1 w by unfold neg1; omega)]
        exact iteT (put (by unfold upMax; rw [e]; exact if_pos l))
      · rw [decide_eq_false (show ¬ u - v < neg1 w by unfold neg1; omega)]
        have : upMax L k (v - u) = L := by unfold upMax; rw [e]; exact if_neg l
        rw [this, upd_id hg] at h
        exact iteF h
section
variable {P : Program} {w : World} {K : PySem.W.Frag} {mg : Str → Option Value} {base : Heap} {g1 g2 g3 : Addr} {e1 e2 e3 : FuncData}
theorem ok_succ (T : SuTxt K mg g1 g2 g3 e1 e2 e3) {k : Nat} : FnOk P w K mg base CX0 (k + 1) g1 e1 ["contest", "standing", "at"] (spSucc K) := by
  refine T.FSucc.ok scSucc (fun vs H Q E h => ?_) (fun cdv A outer s H vs Q E hr h => ?_)
  · obtain ⟨x, y, C, t, at_, rfl, _⟩ := h
    rfl
  · obtain ⟨x, y, C, t, at_, rfl, hx, hC, hy, ht, hat, q⟩ := h
    refine ⟨_, (Evl.pss_cut (ps_asg (pv 0) (pg_tup rfl (pgs_cons (pg_name (i := 3) scSucc.nd rfl (.inr rfl)) (pgs_cons (pg_name (i := 4) scSucc.nd rfl (.inl rfl)) (pgs_cons (pg_name (i := 5) scSucc.nd rfl (.inl rfl)) (pgs_cons (pg_name (i := 6) scSucc.nd rfl (.inl rfl)) (pgs_cons (pg_name (i := 7) scSucc.nd rfl (.inl rfl)) (pgs_cons (pg_name (i := 8) scSucc.nd rfl (.inr rfl)) (pgs_cons (pg_name (i := 9) scSucc.nd rfl (.inr rfl)) pgs_nil)))))))))
 (Evl.pss_cut (ps_asg (pv 1) (pg_tup rfl (pgs_cons (pg_name (i := 10) scSucc.nd rfl (.inl rfl)) (pgs_cons (pg_name (i := 11) scSucc.nd rfl (.inl rfl)) (pgs_cons (pg_name (i := 12) scSucc.nd rfl (.inl rfl)) pgs_nil)))))
 (Evl.pss_cut (ps_set (i := 13) scSucc.nd rfl (.inl rfl) (pe_ix ix_tup (pe_ix ix_tup (pv 5) (pv 10) (fun _ _ => rfl)) (pv 2) (fun _ _ => rfl)))
 (Evl.pss_cut (ps_if (pt_cmpR op_isN (pv 13) pe_non (nomark _)) (pss_one (ps_ret (pe_lst pa_nil))) pss_nil)
 (Evl.pss_cut (ps_set (i := 14) scSucc.nd rfl (.inr rfl) pe_dnewK)
 (Evl.pss_cut (ps_for PassesOwn.never rfl (pi_tup (pv 12)) (pg_tup rfl (pgs_cons (pg_name (i := 15) scSucc.nd rfl (.inl rfl)) (pgs_cons (pg_name (i := 16) scSucc.nd rfl (.inl rfl)) pgs_nil)))
 (pss_one (ps_for PassesOwn.never rfl (pi_tup (pe_ix ix_tup (pe_ix ix_tup (pv 7) (pv 15) (fun _ _ => rfl)) (pv 2) (fun _ _ => rfl))) (pg_tup rfl (pgs_cons (pg_name (i := 17) scSucc.nd rfl (.inl rfl)) (pgs_cons (pg_name (i := 18) scSucc.nd rfl (.inl rfl)) pgs_nil)))
 (pss_one (ps_if (PW.pt (pw_or (pt_cmp (pc_dnotin (hu_of hr) (pv 18) (pv 14))) (pw_or1 (pt_cmpR op_lt (pe_op op_sub (pv 16) (pv 17)) (pe_dget (hu_of hr) (pv 14) (pv 18) (fun _ _ => rfl)) (nomark _))))) (pss_one (ps_dput (hu_of hr) (pv 14) (pv 18) (pe_op op_sub (pv 16) (pv 17)) rfl)) pss_nil)))))
 (Evl.pss_cut (ps_set (i := 19) scSucc.nd rfl (.inl rfl) (pe_lst pa_nil))
 (Evl.pss_cut (ps_for PassesOwn.never rfl (pi_tup (pe_ix ix_tup (pe_ix ix_tup (pv 6) (pv 11) (fun _ _ => rfl)) (pv 2) (fun _ _ => rfl))) (pg_tup rfl (pgs_cons (pg_name (i := 20) scSucc.nd rfl (.inr rfl)) (pgs_cons (pg_name (i := 21) scSucc.nd rfl (.inl rfl)) pgs_nil)))
 (Evl.pss_cut (ps_setLc (i := 22) (own := [("end", 23)]) (g := gName 23) (tt := tYes) (by rfl) scSucc.nd rfl rfl (sw_true rfl rfl rfl (by decide +kernel)) (pi_list (pe_callB (call_sortedDI rfl) (by rfl) T.sorted (by decide +kernel) (pa_cons (pv 14) pa_nil))) (blkOk_by (N := ["contest", "standing", "at", "base", "_", "places", "ones", "others", "over", "below", "place", "state", "leads", "after", "nearest", "rival", "lead", "loss", "to", "found", "pay", "later", "ahead", "end", "pair"]) (sc := defScope sSucc) (by decide +kernel)) (fun _ _ _ _ _ => pg_name (i := 23) scSucc.nd rfl (Or.inl rfl)) (fun _ _ _ _ _ => pts_nil) (fun _ _ _ _ _ => (pe_tup (pa_cons (pv 23) (pa_cons (pe_op op_mulW (pv 3) (pe_op op_add (pe_dget (hu_of hr) (pv 14) (pv 23) (fun _ _ => rfl)) (pv 20))) pa_nil)))))
 (pss_one (ps_if (pt_not (pt_val (pe_callB (cr_any rfl) (by rfl) T.any (by decide +kernel) (pa_cons (pe_lc (own := [("pair", 24)]) (g := gName 24) (tt := tYes) (by rfl) scSucc.nd (pi_list (pv 22)) (blkOk_by (N := ["contest", "standing", "at", "base", "_", "places", "ones", "others", "over", "below", "place", "state", "leads", "after", "nearest", "rival", "lead", "loss", "to", "found", "pay", "later", "ahead", "end", "pair"]) (sc := defScope sSucc) (by decide +kernel)) (fun _ _ _ _ _ => pg_name (i := 24) scSucc.nd rfl (Or.inl rfl)) (fun _ _ _ _ _ => pts_nil) (fun _ _ _ _ _ => (pe_cmpR op_ge (pe_op op_mulW (pe_un un_neg (pe_ix (ixT (K := K) rfl) (pv 24) pe_int (fun _ _ => rfl))) (pe_op op_sub (pv 3) pe_int)) (pe_op op_mulW (pv 9) (pv 3)) (nomark _)))) pa_nil)))) (pss_one (ps_expr (pe_bm PySem.F.plainAttrs_list PySem.F.slot_list_append PySem.F.type_list_append mt_append (pv 19) (pa_cons (pe_tup (pa_cons (pv 13) (pa_cons (pv 21) (pa_cons (pe_callTy call_tuple_of (by rfl) T.tuple (by decide +kernel) (pa_cons (pe_lc (own := [("pair", 24)]) (g := gName 24) (by rfl) scSucc.nd (pi_list (pv 22)) (blkOk_by (N := ["contest", "standing", "at", "base", "_", "places", "ones", "others", "over", "below", "place", "state", "leads", "after", "nearest", "rival", "lead", "loss", "to", "found", "pay", "later", "ahead", "end", "pair"]) (sc := defScope sSucc) (by decide +kernel)) (fun _ _ _ _ _ => pg_name (i := 24) scSucc.nd rfl (Or.inl rfl)) (fun _ _ _ _ _ => (pts_one (pt_cmpR op_le (pe_op op_mulW (pe_ix (ixT (K := K) rfl) (pv 24) pe_int (fun _ _ => rfl)) (pe_op op_sub (pv 3) pe_int)) (pe_op op_mulW (pv 8) (pv 3)) (nomark _)))) (fun _ _ _ _ _ => (pv 24))) pa_nil)) pa_nil)))) pa_nil)))) pss_nil))))
 (pss_one (ps_ret (pv 19))))))))))), ?_⟩
    obtain ⟨a, rt, rs, c1, us, c2, ws, rfl, hS, hS1, hA1, hS2, hA2, hS3, hA3⟩ := ct_top hx
    obtain ⟨sa, la, vs, rfl, hS4, hS5, hA5⟩ := sg_top hy
    refine ⟨fun σ H1 => σ = [some (.ref a), some (.ref sa), some (.int (at_ : Nat)), some (.int C.M.b), some (.str C.M.z), some (.ref rt), some (.ref c1), some (.ref c2), some (.int C.over), some (.int C.below)] ++ List.replicate 15 none ∧ H1 = H, ?_, ?_⟩
    · exact ⟨_, rfl, a, _, rfl, hS, rfl, _, _, rfl, _, _, rfl, _, _, rfl, _, _, rfl, _, _, rfl, _, _, rfl, _, _, rfl, rfl, rfl, rfl⟩
    rintro σ H1 ⟨rfl, rfl⟩
    refine ⟨fun σ H2 => σ = [some (.ref a), some (.ref sa), some (.int (at_ : Nat)), some (.int C.M.b), some (.str C.M.z), some (.ref rt), some (.ref c1), some (.ref c2), some (.int C.over), some (.int C.below), some (.int t.p), some (.int t.s), some (.ref la)] ++ List.replicate 12 none ∧ H2 = H1, ?_, ?_⟩
    · exact ⟨_, rfl, sa, _, rfl, hS4, rfl, _, _, rfl, _, _, rfl, _, _, rfl, rfl, rfl, rfl⟩
    rintro σ H2 ⟨rfl, rfl⟩
    obtain ⟨ra, ys, hp1, hSr, hp2⟩ := row_at hA1 (fun r hr => (hC.row r hr).len) ht.p0 ht.p1 hat
    refine ⟨fun σ H3 => σ = [some (.ref a), some (.ref sa), some (.int (at_ : Nat)), some (.int C.M.b), some (.str C.M.z), some (.ref rt), some (.ref c1), some (.ref c2), some (.int C.over), some (.int C.below), some (.int t.p), some (.int t.s), some (.ref la), some (stV (placeOn C.R at_ t.p))] ++ List.replicate 11 none ∧ H3 = H2, ?_, ?_⟩
    · exact ⟨_, rfl, _, rfl, rt, _, _, _, rfl, rfl, hS1, hp1, _, rfl, ra, _, _, _, rfl, rfl, hSr, hp2, rfl, rfl⟩
    rintro σ H3 ⟨rfl, rfl⟩
    refine ⟨fun σ H4 => (∃ p', placeOn C.R at_ t.p = some p' ∧ σ = [some (.ref a), some (.ref sa), some (.int (at_ : Nat)), some (.int C.M.b), some (.str C.M.z), some (.ref rt), some (.ref c1), some (.ref c2), some (.int C.over), some (.int C.below), some (.int t.p), some (.int t.s), some (.ref la), some (.int p')] ++ List.replicate 11 none) ∧ H4 = H3, ?_, ?_⟩
    · cases hpl : placeOn C.R at_ t.p with
      | none =>
        refine ⟨_, rfl, rfl, _, rfl, iteT ⟨by show 0 ≤ sizeLine; decide, fun l hl => q _ l [] (same_upd hl) hl upd_same ?_⟩⟩
        unfold succOf
        rw [hpl]
        exact .nil
      | some p' => exact ⟨_, rfl, rfl, _, rfl, iteF ⟨⟨p', rfl, rfl⟩, rfl⟩⟩
    rintro σ H4 ⟨⟨p', hpl, rfl⟩, rfl⟩
    have pr := place_rg hC hpl
    refine ⟨fun σ H5 => ∃ g, σ = [some (.ref a), some (.ref sa), some (.int (at_ : Nat)), some (.int C.M.b), some (.str C.M.z), some (.ref rt), some (.ref c1), some (.ref c2), some (.int C.over), some (.int C.below), some (.int t.p), some (.int t.s), some (.ref la), some (.int p'), some (.ref g)] ++ List.replicate 10 none ∧ H4 g = none ∧ H5 = upd H4 g (.dK []), ?_, ?_⟩
    · exact fun g ng => ⟨g, rfl, ng, rfl⟩
    rintro σ H5 ⟨g, rfl, ng, rfl⟩
    have kg := near_kin hC (at_ := at_) (t := t)
    refine ⟨fun σ H6 => ∃ l15 l16 l17 l18, σ = [some (.ref a), some (.ref sa), some (.int (at_ : Nat)), some (.int C.M.b), some (.str C.M.z), some (.ref rt), some (.ref c1), some (.ref c2), some (.int C.over), some (.int C.below), some (.int t.p), some (.int t.s), some (.ref la), some (.int p'), some (.ref g), l15, l16, l17, l18] ++ List.replicate 6 none ∧ Same H4 H6 ∧ H6 g = some (.dK (kd (mapD neg1 (nearG C at_ t)))), ?_, ?_⟩
    · refine ⟨_, rfl, la, rfl, ⟨vs, same_tup (same_upd ng) hS5⟩, ?_⟩
      refine for_tup (xs := vs) (fun i σ H6 => ∃ l15 l16 l17 l18, σ = [some (.ref a), some (.ref sa), some (.int (at_ : Nat)), some (.int C.M.b), some (.str C.M.z), some (.ref rt), some (.ref c1), some (.ref c2), some (.int C.over), some (.int C.below), some (.int t.p), some (.int t.s), some (.ref la), some (.int p'), some (.ref g), l15, l16, l17, l18] ++ List.replicate 6 none ∧ Same H4 H6 ∧ H6 g = some (.dK (kd (mapD neg1 (bestOn (chP C.N at_) (fun v p => p - v) (t.L.take i) []))))) ⟨none, none, none, none, rfl, same_upd ng, upd_same⟩ (fun i σ H6 _ ⟨_, _, _, _, _, s6, _⟩ => same_tup s6 hS5) ?_ ?_
      · rintro i y σ H6 hy ⟨l15, l16, l17, l18, rfl, s6, hg6⟩
        obtain ⟨e, he, rp⟩ := rpAll_back hA5 hy
        obtain ⟨ea, rfl, hSe⟩ := rp.pair
        have memL : e ∈ t.L := List.mem_of_getElem? he
        have rgs := ht.kin.rg e.1 (List.mem_map_of_mem (f := (·.1)) memL)
        have hatN : at_ < C.N.z.length := by rw [hC.zz]; exact hat
        obtain ⟨ra2, ys2, ca, zs, hx1, hSx, hy1, hSy, hAz⟩ := ch_at hC.n hA3 rgs.1 rgs.2 hatN
        have tt := ts_same (K := K) s6
        refine ⟨ea, _, rfl, tt _ _ hSe, rfl, _, _, rfl, _, _, rfl, rfl, ?_⟩
        refine ⟨_, rfl, _, rfl, c2, ws, e.1, _, rfl, rfl, tt _ _ hS3, hx1, _, rfl, ra2, ys2, _, _, rfl, rfl, tt _ _ hSx, hy1, ca, rfl, ⟨zs, tt _ _ hSy⟩, ?_⟩
        refine for_tup (xs := zs) (fun m σ H7 => ∃ l17 l18, σ = [some (.ref a), some (.ref sa), some (.int (at_ : Nat)), some (.int C.M.b), some (.str C.M.z), some (.ref rt), some (.ref c1), some (.ref c2), some (.int C.over), some (.int C.below), some (.int t.p), some (.int t.s), some (.ref la), some (.int p'), some (.ref g), some (.int e.1), some (.int e.2), l17, l18] ++ List.replicate 6 none ∧ Same H4 H7 ∧ H7 g = some (.dK (kd (mapD neg1 (bestIn (fun v p => p - v) e.2 ((chP C.N at_ e.1).take m) (bestOn (chP C.N at_) (fun v p => p - v) (t.L.take i) [])))))) ⟨l17, l18, rfl, s6, hg6⟩ (fun m σ H7 _ ⟨_, _, _, s7, _⟩ => same_tup s7 hSy) ?_ ?_
        · rintro m y σ H7 hy ⟨l17, l18, rfl, s7, hg7⟩
          obtain ⟨q1, hq1, rp1⟩ := rpAll_back hAz hy
          obtain ⟨qa, rfl, hSq⟩ := rp1.pair
          refine ⟨qa, _, rfl, same_tup s7 hSq, rfl, _, _, rfl, _, _, rfl, rfl, ?_⟩
          have kin : Kin C.N.C.length (bestIn (fun v p => p - v) e.2 ((chP C.N at_ e.1).take m) (bestOn (chP C.N at_) (fun v p => p - v) (t.L.take i) [])) :=
            kin_in (kin_on (kin_nil _) fun kv _ q hq => ⟨(ch_rg hC.n hq).2.2.1, (ch_rg hC.n hq).2.2.2⟩) fun q hq => ⟨(ch_rg hC.n (List.mem_of_mem_take hq)).2.2.1, (ch_rg hC.n (List.mem_of_mem_take hq)).2.2.2⟩
          have kl := kin_size kin hC.n.c3
          rw [kd_len] at kl
          refine lo_if (iT := 18) (iD := 14) (iA := 16) (iB := 17) rfl rfl rfl rfl hg7 kl ?_
          refine ⟨_, _, rfl, same_put s7 ng, ?_⟩
          rw [upd_same, in_take hq1]
        · rintro σ H7 ⟨l17, l18, rfl, s7, hg7⟩
          refine ⟨_, _, _, _, rfl, s7, ?_⟩
          rw [hg7, show zs.length = (chP C.N at_ e.1).length from by rw [hAz.len, List.length_map], List.take_length, on_take he]
      · rintro σ H6 ⟨l15, l16, l17, l18, rfl, s6, hg6⟩
        refine ⟨l15, l16, l17, l18, rfl, s6, ?_⟩
        rw [hg6, show vs.length = t.L.length from by rw [hA5.len, List.length_map], List.take_length]
        rfl
    rintro σ H6 ⟨l15, l16, l17, l18, rfl, s6, hg6⟩
    have gfew := near_few hC (at_ := at_) ht.few
    refine ⟨fun σ H7 => ∃ r, σ = [some (.ref a), some (.ref sa), some (.int (at_ : Nat)), some (.int C.M.b), some (.str C.M.z), some (.ref rt), some (.ref c1), some (.ref c2), some (.int C.over), some (.int C.below), some (.int t.p), some (.int t.s), some (.ref la), some (.int p'), some (.ref g), l15, l16, l17, l18, some (.ref r)] ++ List.replicate 5 none ∧ H6 r = none ∧ H7 = upd H6 r (.lst []), ?_, ?_⟩
    · exact ⟨by show 0 ≤ sizeLine; decide, fun r nr => ⟨r, rfl, nr, rfl⟩⟩
    rintro σ H7 ⟨r, rfl, nr, rfl⟩
    have r0 : H4 r = none := s6.free nr
    obtain ⟨ra2, ys2, ca, zs, hx1, hSx, hy1, hSy, hAz⟩ := ch_at hC.m hA2 ht.s0 ht.s1 hat
    refine ⟨fun σ H8 => (∃ l20 l21 l22 l23 l24, σ = [some (.ref a), some (.ref sa), some (.int (at_ : Nat)), some (.int C.M.b), some (.str C.M.z), some (.ref rt), some (.ref c1), some (.ref c2), some (.int C.over), some (.int C.below), some (.int t.p), some (.int t.s), some (.ref la), some (.int p'), some (.ref g), l15, l16, l17, l18, some (.ref r), l20, l21, l22, l23, l24]) ∧ ∃ us', Same H6 H8 ∧ H8 r = some (.lst us') ∧ RpAll K H8 us' ((succOf C at_ t).map eSg), ?_, ?_⟩
    · refine ⟨_, rfl, _, rfl, c1, us, t.s, _, rfl, rfl, same_tup (s6.trans (same_upd nr)) hS2, hx1, _, rfl, ra2, ys2, _, _, rfl, rfl, same_tup (s6.trans (same_upd nr)) hSx, hy1, ca, rfl, ⟨zs, same_tup (s6.trans (same_upd nr)) hSy⟩, ?_⟩
      refine for_tup (xs := zs) (fun j σ H8 => (∃ l20 l21 l22 l23 l24, σ = [some (.ref a), some (.ref sa), some (.int (at_ : Nat)), some (.int C.M.b), some (.str C.M.z), some (.ref rt), some (.ref c1), some (.ref c2), some (.int C.over), some (.int C.below), some (.int t.p), some (.int t.s), some (.ref la), some (.int p'), some (.ref g), l15, l16, l17, l18, some (.ref r), l20, l21, l22, l23, l24]) ∧ ∃ us', Same H6 H8 ∧ H8 r = some (.lst us') ∧ RpAll K H8 us' ((((chP C.M at_ t.s).take j).filterMap (goOn C at_ t p')).map eSg)) ⟨⟨none, none, none, none, none, rfl⟩, [], same_upd nr, upd_same, .nil⟩ (fun j σ H8 _ ⟨_, _, s8, _⟩ => same_tup (s6.trans s8) hSy) ?_ ?_
      · rintro j y σ H8 hy ⟨⟨l20, l21, l22, l23, l24, rfl⟩, us', s8, hr8, hU⟩
        obtain ⟨q1, hq1, rp1⟩ := rpAll_back hAz hy
        obtain ⟨qa, rfl, hSq⟩ := rp1.pair
        have memq : q1 ∈ chP C.M at_ t.s := List.mem_of_getElem? hq1
        refine ⟨qa, _, rfl, same_tup (s6.trans s8) hSq, rfl, _, _, rfl, _, _, rfl, rfl, ?_⟩
        have hg8 := s8 _ _ hg6
        -- ahead
        refine ⟨fun σ H9 => (∃ d us2 l23, σ = [some (.ref a), some (.ref sa), some (.int (at_ : Nat)), some (.int C.M.b), some (.str C.M.z), some (.ref rt), some (.ref c1), some (.ref c2), some (.int C.over), some (.int C.below), some (.int t.p), some (.int t.s), some (.ref la), some (.int p'), some (.ref g), l15, l16, l17, l18, some (.ref r), some (.int q1.1), some (.int q1.2), some (.ref d), l23, l24] ∧ Same H8 H9 ∧ H9 d = some (.lst us2) ∧ RpAll K H9 us2 ((aheadOf C.M.b q1.1 (nearG C at_ t)).map eP)), ?_, ?_⟩
        · refine ⟨_, rfl, g, _, keysI (nearG C at_ t), rfl, .inl hg8, ?_, ?_, fun ys p perm srt np => ?_⟩
          · rw [kd_keys, keys_mapD]
          · unfold keysI
            rw [List.length_map]
            omega
          obtain rfl := sort_eq perm srt
          refine ⟨p, rfl, ⟨_, SqL.of upd_same⟩, fun D nD => ?_⟩
          have sp := same_upd (o := HO.lst ((sortI (keysI (nearG C at_ t))).map V.int)) np
          have sD := sp.trans (same_upd (o := HO.lst []) nD)
          have nD8 : H8 D = none := sp.free nD
          refine lc_lstO (xs := (sortI (keysI (nearG C at_ t))).map V.int) (fun i H' => Same H8 H' ∧ H' p = some (.lst ((sortI (keysI (nearG C at_ t))).map V.int)) ∧ ∃ us2, H' D = some (.lst us2) ∧ RpAll K H' us2 (((aheadOf C.M.b q1.1 (nearG C at_ t)).take i).map eP)) ⟨sD, same_upd nD _ _ upd_same, [], upd_same, .nil⟩ (fun i H' h => SqL.of h.2.1) ?_ ?_
          · rintro i u H' hu ⟨s9, hp9, us2, hD9, hU9⟩
            obtain ⟨to, hto, rfl⟩ : ∃ to, (sortI (keysI (nearG C at_ t)))[i]? = some to ∧ u = .int to := by
              rw [List.getElem?_map] at hu
              obtain ⟨to, h1, h2⟩ := Option.map_eq_some_iff.mp hu
              exact ⟨to, h1, h2.symm⟩
            have kto : to ∈ keysI (nearG C at_ t) := (sort_perm _).mem_iff.mp (List.mem_of_getElem? hto)
            obtain ⟨v, hv⟩ := Option.isSome_iff_exists.mp (getI_mem.mpr kto)
            have bv := gain_bd hC.n ht.bd hv
            have qr := ch_rg hC.m memq
            have b2 := hC.m.b2
            have b9 := hC.m.b9
            have w2 := wide_two
            have p3 : ((2 : Int) ^ 100).natAbs = 2 ^ 100 := by decide +kernel
            have p4 : (2 : Nat) ^ 201 + 2 ^ 100 < 2 ^ 202 := by decide +kernel
            have bd1 : (-v + q1.1).natAbs < 2 ^ 202 := by omega
            have bb : C.M.b.natAbs < 2 ^ 4 := by omega
            have hea : (aheadOf C.M.b q1.1 (nearG C at_ t))[i]? = some (to, C.M.b * (-v + q1.1)) := by
              unfold aheadOf
              rw [List.getElem?_map, hto, Option.map_some, hv, Option.getD_some, show q1.1 - v = -v + q1.1 by omega]
            refine ⟨rfl, ?_⟩
            refine ⟨_, rfl, _, rfl, _, rfl, _, rfl, g, .int (-v), rfl, ?_, _, rfl, _, _, rfl, rfl, _, _, rfl, rfl, ?_, (by show 2 ≤ sizeLine; decide), fun T2 nT => ?_⟩
            · have := kd_get (d := mapD neg1 (nearG C at_ t)) (k := to) (.inl (s9 _ _ hg8))
              rw [getI_mapD, hv] at this
              exact this
            · exact wide_mul (a := 4) (b := 202) bb bd1 (by decide) (by decide) (by decide)
            have sT := same_upd (o := HO.tup [V.int to, V.int (C.M.b * (-v + q1.1))]) nT
            have Dp : D ≠ p := fun z => by rw [z, upd_same] at nD; cases nD
            have hDT := sT _ _ hD9
            refine ⟨us2, hDT, ?_, same_new (s9.trans sT) nD8, by rw [upd_ne Dp.symm]; exact sT _ _ hp9, us2 ++ [.ref T2], upd_same, ?_⟩
            · have l1 := hU9.len
              rw [List.length_map] at l1
              have l2 := List.length_take_le' i (aheadOf C.M.b q1.1 (nearG C at_ t))
              rw [ahead_len] at l2
              exact Nat.lt_of_le_of_lt (show _ ≤ 60 by omega) (by decide)
            · have bt : TStay K (upd H' T2 (HO.tup [V.int to, V.int (C.M.b * (-v + q1.1))])) (upd (upd H' T2 (HO.tup [V.int to, V.int (C.M.b * (-v + q1.1))])) D (HO.lst (us2 ++ [V.ref T2]))) := ts_lst hDT
              rw [List.take_succ, hea]
              show RpAll K _ _ (List.map eP (_ ++ [_]))
              rw [map_snoc]
              exact rp_snoc (goP ((ts_same sT).trans bt) hU9) (.tup (bt _ _ (SqT.of upd_same)) (.cons (.int _) (.cons (.int _) .nil)))
          · rintro H' ⟨s9, hp9, us2, hD9, hU9⟩
            refine ⟨D, us2, _, rfl, s9, hD9, ?_⟩
            have : ((sortI (keysI (nearG C at_ t))).map V.int).length = (aheadOf C.M.b q1.1 (nearG C at_ t)).length := by
              unfold aheadOf
              rw [List.length_map, List.length_map]
            rw [this, List.take_length] at hU9
            exact hU9
        rintro σ H9 ⟨d, us2, l23, rfl, s9, hd9, hU9⟩
        have hC2 := over_rg hC
        have b2 := hC.m.b2
        have b9 := hC.m.b9
        have w2 := wide_two
        have p3 : ((2 : Int) ^ 100).natAbs = 2 ^ 100 := by decide +kernel
        have p6 : (2 : Nat) ^ 100 * 2 < 2 ^ 102 := by decide +kernel
        have bb : C.M.b.natAbs < 2 ^ 4 := by omega
        have bnd : ∀ e ∈ aheadOf C.M.b q1.1 (nearG C at_ t), e.2.natAbs < 2 ^ 206 := fun e he => by
          unfold aheadOf at he
          obtain ⟨to, hto, rfl⟩ := List.mem_map.mp he
          have kto : to ∈ keysI (nearG C at_ t) := (sort_perm _).mem_iff.mp hto
          obtain ⟨v, hv⟩ := Option.isSome_iff_exists.mp (getI_mem.mpr kto)
          have bv := gain_bd hC.n ht.bd hv
          have qr := ch_rg hC.m memq
          have p4 : (2 : Nat) ^ 201 + 2 ^ 100 < 2 ^ 202 := by decide +kernel
          rw [hv, Option.getD_some]
          exact wide_lt (a := 4) (b := 202) bb (show (q1.1 - v).natAbs < 2 ^ 202 by omega)
        have lah : (aheadOf C.M.b q1.1 (nearG C at_ t)).length ≤ 60 := by rw [ahead_len]; exact gfew
        refine ⟨_, rfl, d, rfl, ⟨us2, SqL.of hd9⟩, fun D nD => ?_⟩
        refine lc_lstO (xs := us2) (fun i H' => Same H9 H' ∧ H' D = some (.lst ((((aheadOf C.M.b q1.1 (nearG C at_ t)).take i).map fun e => vainB C.M.b C.below e.2).map V.bl))) ⟨same_upd nD, upd_same⟩ (fun i H' h => SqL.of (h.1 _ _ hd9)) ?_ ?_
        · rintro i u H' hu ⟨s10, hD⟩
          obtain ⟨e, he, rp2⟩ := rpAll_back hU9 hu
          obtain ⟨ea, rfl, hSe⟩ := rp2.pair
          have be := bnd e (List.mem_of_getElem? he)
          refine ⟨rfl, ?_⟩
          refine ⟨_, rfl, ea, _, 1, _, rfl, rfl, same_tup s10 hSe, rfl, _, rfl, _, rfl, _, _, rfl, rfl, _, _, rfl, rfl, ?_, _, rfl, _, rfl, _, _, rfl, rfl, ?_, _, _, rfl, rfl, _, hD, ?_, same_new s10 nD, ?_⟩
          · exact wide_mul (a := 206) (b := 4) (by omega) (by omega) (by decide) (by decide) (by decide)
          · exact wide_mul (a := 102) (b := 4) (by omega) bb (by decide) (by decide) (by decide)
          · rw [List.length_map, List.length_map]
            have := List.length_take_le' i (aheadOf C.M.b q1.1 (nearG C at_ t))
            exact Nat.lt_of_le_of_lt (show _ ≤ 60 by omega) (by decide)
          · rw [upd_same, List.take_succ, he]
            simp [vainB]
        · rintro H' ⟨s10, hD⟩
          have lu : us2.length = (aheadOf C.M.b q1.1 (nearG C at_ t)).length := by rw [hU9.len, List.length_map]
          rw [lu, List.take_length] at hD
          refine ⟨D, _, rfl, SqL.of hD, ?_⟩
          have hr9 := s10 _ _ (s9 _ _ hr8)
          have lus : us'.length ≤ 3 := by
            have l1 := hU.len
            rw [List.length_map] at l1
            have l2 := List.length_filterMap_le (goOn C at_ t p') ((chP C.M at_ t.s).take j)
            have l3 := List.length_take_le' j (chP C.M at_ t.s)
            obtain ⟨cs, hcs, ps, hps, _, e2⟩ := ch_mem hC.m memq
            have l4 := (hC.m.ch cs hcs ps hps).2
            rw [e2] at l1 l2 l3
            omega
          have r9 : ∀ {H2 : Hp}, Same H' H2 → RpAll K H2 us' ((((chP C.M at_ t.s).take j).filterMap (goOn C at_ t p')).map eSg) := fun {H2} s2 => rpAll_ts (ts_same ((s9.trans s10).trans s2)) hU (tOs_map enc_sg.tO _)
          have step : ((chP C.M at_ t.s).take (j + 1)).filterMap (goOn C at_ t p') = ((chP C.M at_ t.s).take j).filterMap (goOn C at_ t p') ++ (goOn C at_ t p' q1).toList := by
            rw [List.take_succ, hq1, List.filterMap_append]
            cases hh : goOn C at_ t p' q1 <;> simp [hh]
          have anyE : (((aheadOf C.M.b q1.1 (nearG C at_ t)).map fun e => vainB C.M.b C.below e.2).any id) = (aheadOf C.M.b q1.1 (nearG C at_ t)).any fun e => vainB C.M.b C.below e.2 := by
            rw [List.any_map]
            rfl
          refine ⟨_, rfl, ?_⟩
          rw [anyE]
          cases hva : (aheadOf C.M.b q1.1 (nearG C at_ t)).any fun e => vainB C.M.b C.below e.2 with
          | true =>
            refine iteF ⟨⟨_, _, _, _, _, rfl⟩, us', (s8.trans s9).trans s10, hr9, ?_⟩
            have gn : goOn C at_ t p' q1 = none := by
              unfold goOn
              rw [hva]
              rfl
            rw [step, gn, Option.toList_none, List.append_nil]
            exact r9 (Same.refl _)
          | false =>
            refine iteT ⟨_, rfl, .inl ⟨rfl, _, SqL.of hr9⟩, _, rfl, _, rfl, ?_⟩
            refine ⟨_, rfl, d, rfl, ⟨us2, SqL.of (s10 _ _ hd9)⟩, fun D2 nD2 => ?_⟩
            refine lc_lstO (xs := us2) (fun i H2 => Same H' H2 ∧ ∃ us3, H2 D2 = some (.lst us3) ∧ RpAll K H2 us3 ((((aheadOf C.M.b q1.1 (nearG C at_ t)).take i).filter fun e => keepB C.M.b C.over e.2).map eP)) ⟨same_upd nD2, [], upd_same, .nil⟩ (fun i H2 h => SqL.of (h.1 _ _ (s10 _ _ hd9))) ?_ ?_
            · rintro i u H2 hu ⟨s11, us3, hD2, hU3⟩
              obtain ⟨e, he, rp2⟩ := rpAll_back hU9 hu
              obtain ⟨ea, rfl, hSe⟩ := rp2.pair
              have be := bnd e (List.mem_of_getElem? he)
              have stepF : ((aheadOf C.M.b q1.1 (nearG C at_ t)).take (i + 1)).filter (fun e => keepB C.M.b C.over e.2) = ((aheadOf C.M.b q1.1 (nearG C at_ t)).take i).filter (fun e => keepB C.M.b C.over e.2) ++ (if keepB C.M.b C.over e.2 = true then [e] else []) := by
                rw [List.take_succ, he, List.filter_append]
                congr 1
                show List.filter (fun e => keepB C.M.b C.over e.2) [e] = _
                rw [List.filter_cons]
                rfl
              refine ⟨rfl, ?_⟩
              refine ⟨_, rfl, ea, _, 1, _, rfl, rfl, same_tup (s10.trans s11) hSe, rfl, _, rfl, _, _, rfl, rfl, _, _, rfl, rfl, ?_, _, rfl, _, rfl, _, _, rfl, rfl, ?_, _, _, rfl, rfl, _, rfl, ?_⟩
              · exact wide_mul (a := 206) (b := 4) (by omega) (by omega) (by decide) (by decide) (by decide)
              · exact wide_mul (a := 102) (b := 4) (by omega) bb (by decide) (by decide) (by decide)
              show if keepB C.M.b C.over e.2 = true then _ else _
              cases hk : keepB C.M.b C.over e.2 with
              | true =>
                refine iteT ⟨_, rfl, us3, hD2, ?_, same_new s11 nD2, us3 ++ [.ref ea], upd_same, ?_⟩
                · have l1 := hU3.len
                  rw [List.length_map] at l1
                  have l2 := List.length_filter_le (fun e : Int × Int => keepB C.M.b C.over e.2) ((aheadOf C.M.b q1.1 (nearG C at_ t)).take i)
                  have l3 := List.length_take_le' i (aheadOf C.M.b q1.1 (nearG C at_ t))
                  exact Nat.lt_of_le_of_lt (show _ ≤ 60 by omega) (by decide)
                · have bt : TStay K H2 (upd H2 D2 (HO.lst (us3 ++ [V.ref ea]))) := ts_lst hD2
                  rw [stepF, if_pos hk, map_snoc]
                  exact rp_snoc (goP bt hU3) (rp_ts ((ts_same (s10.trans s11)).trans bt) rp2 (tO_eP _))
              | false =>
                refine iteF ⟨s11, us3, hD2, ?_⟩
                rw [stepF, if_neg (by rw [hk]; decide), List.append_nil]
                exact hU3
            · rintro H2 ⟨s11, us3, hD2, hU3⟩
              rw [lu, List.take_length] at hU3
              refine ⟨D2, us3, rfl, .inl ⟨SqL.of hD2, fun t3 ht3 => ⟨(by show 3 ≤ sizeLine; decide), fun t4 ht4 => ?_⟩⟩⟩
              have x3 := same_upd (o := HO.tup us3) ht3
              have x4 := same_upd (o := HO.tup [V.int p', V.int q1.2, V.ref t3]) ht4
              have x34 := (s11.trans x3).trans x4
              have hr4 := x34 _ _ hr9
              refine ⟨r, _, _, rfl, rfl, hr4, Nat.lt_of_le_of_lt lus (by decide), ?_⟩
              refine ⟨⟨_, _, _, _, _, rfl⟩, us' ++ [.ref t4], ?_, upd_same, ?_⟩
              · exact same_new (((s8.trans s9).trans s10).trans x34) nr
              · have bt : TStay K (upd (upd H2 t3 (HO.tup us3)) t4 (HO.tup [V.int p', V.int q1.2, V.ref t3])) (upd (upd (upd H2 t3 (HO.tup us3)) t4 (HO.tup [V.int p', V.int q1.2, V.ref t3])) r (HO.lst (us' ++ [V.ref t4]))) := ts_lst hr4
                have gs : goOn C at_ t p' q1 = some ⟨p', q1.2, (aheadOf C.M.b q1.1 (nearG C at_ t)).filter fun e => keepB C.M.b C.over e.2⟩ := by
                  unfold goOn
                  rw [hva]
                  rfl
                rw [step, gs, Option.toList_some, map_snoc]
                refine rp_snoc (rpAll_ts bt (r9 x34) (tOs_map enc_sg.tO _)) (.tup (bt _ _ (SqT.of upd_same)) (.cons (.int _) (.cons (.int _) (.cons (.tup (bt _ _ (SqT.of (x4 _ _ upd_same))) (goP (((ts_same x3).trans (ts_same x4)).trans bt) hU3)) .nil))))
      · rintro σ H8 ⟨⟨l20, l21, l22, l23, l24, rfl⟩, us', s8, hr8, hU⟩
        refine ⟨⟨_, _, _, _, _, rfl⟩, us', s8, hr8, ?_⟩
        rw [show zs.length = (chP C.M at_ t.s).length from by rw [hAz.len, List.length_map], List.take_length] at hU
        unfold succOf
        rw [hpl]
        exact hU
    rintro σ H8 ⟨⟨l20, l21, l22, l23, l24, rfl⟩, us', s8, hr8, hU⟩
    exact ⟨_, rfl, q H8 r us' (s6.trans s8) r0 hr8 hU⟩
end
end My
/-! ### enumerate(z), z a text -/
namespace My
open PySem PySem.Spec PyProof.Rows L2
theorem draws_text {prog : Program} {w : World} {A : Around} (hh : A.handled = none) (it : Addr) (x : Str) (t : Tok) :
    Draws prog w A it [it] x.cps.size (fun i v => ∃ c u, x.cps[i]? = some c ∧ v = .str ⟨#[c]⟩ u) (fun i h => h.IsStrIter it (strIterType x) x t i) := by
  unfold strIterType
  cases x.cps.all (· < 128) with
  | true => exact Draws.strAscii hh it x t
  | false => exact Draws.strWide hh it x t
/-- a text, each sign in a new pair -/
def ItSe (z : Str) : It :=
  ⟨fun i _ => i < z.cps.size, fun i H v H' => ∃ T c, v = .ref T ∧ H T = none ∧ H' = upd H T (.tup [.int (i : Nat), .str ⟨#[c]⟩]) ∧ z.cps[i]? = some c, fun i _ => z.cps.size ≤ i⟩
theorem turn_enumS {P : Program} {w : World} {K : PySem.W.Frag} {elts : List Expr} {kk : Nat} {tpos : Pos} (z : Str) (t0 : Tok) (e it : Addr) :
    Turn P w K (.Tuple elts kk tpos) (ItSe z) [e, it] e (fun i h => (∃ old, IsEnum h e it ((i : Nat) : Int) old) ∧ (h.IsStrIter it (strIterType z) z t0 i ∧ i ≤ z.cps.size) ∧ e ≠ it) where
  mem := by simp
  obj := fun i h st b hb => by
    obtain ⟨⟨old, he⟩, ⟨⟨o, ho, hc, hd⟩, _⟩, _⟩ := st
    rcases (show b = e ∨ b = it by simpa using hb) with y | y <;> rw [y]
    · exact ⟨_, he, fun v q => nomatch q⟩
    · exact ⟨o, ho, fun v q => by rw [hd] at q; cases q⟩
  keep := fun i h h' st k => by
    obtain ⟨⟨old, he⟩, ⟨⟨o, ho, r⟩, l⟩, n⟩ := st
    exact ⟨⟨old, k e (by simp) _ he⟩, ⟨⟨o, k it (by simp) o ho, r⟩, l⟩, n⟩
  item := by
    intro X hP hw hK hc i pins s σ H E I hf st hg
    subst hP hw hK
    obtain ⟨⟨old, he⟩, ⟨hit, _⟩, ne⟩ := st
    have lt1 := Heap.lt_size he
    have lt2 : it < s.heap.objs.size := by
      obtain ⟨_, q, _⟩ := hit
      exact Heap.lt_size q
    have hg2 : i < z.cps.size := hg
    refine wpAny_pyNext_enum_itemD (draws_text (A := X.A.in1) (I.ok.hd hc) it z t0) he hit hg2 ne (by simp [ne]) fun y h' tk hy ho hst hT hsz hk => ?_
    obtain ⟨c, u, hcz, rfl⟩ := hy
    refine ⟨_, rfl, wpAny_letOwnedTupleGo_enum (s := { s with heap := h', toks := tk + 1 }) ho fun h'' he' sb => ?_⟩
    have hT2 : h''.get? s.heap.objs.size = some { cls := .type "tuple", data := .seq #[.int i tk, .str ⟨#[c]⟩ u] } := (sb.2 _ (Nat.ne_of_gt lt1)).trans hT
    have new : ObjOk X.prog X.w (upd H s.heap.objs.size (.tup [.int (i : Nat), .str ⟨#[c]⟩])) h'' s.heap.objs.size (.tup [.int (i : Nat), .str ⟨#[c]⟩]) :=
      ⟨(by show 2 ≤ sizeLine; decide), [.int i tk, .str ⟨#[c]⟩ u], .cons ⟨_, rfl⟩ (.cons ⟨_, rfl⟩ .nil), ⟨_, hT2, rfl, _, rfl⟩⟩
    have J : Inv X pins σ (upd H s.heap.objs.size (.tup [.int (i : Nat), .str ⟨#[c]⟩])) { s with heap := h'', toks := tk + 1 } :=
      I.turnedNew (t' := tk + 1) (ch := [e, it]) (fun b ob hb q => (sb.2 b (fun y => hb (by simp [y]))).trans (hk b ob (fun y => hb (by simp [y])) (fun y => hb (by simp [y])) q)) hf (Nat.le_refl _) new
    obtain ⟨o2, ho2, r2⟩ := hst
    refine ⟨.ref s.heap.objs.size, _, J, rfl, ⟨_, c, rfl, I.hok.fresh (Nat.le_refl _), rfl, hcz⟩, ⟨⟨.str ⟨#[c]⟩ u, ?_⟩, ⟨⟨o2, (sb.2 it ne.symm).trans ho2, r2⟩, hg2⟩, ne⟩, fun b hb => ?_⟩
    · rw [show ((i + 1 : Nat) : Int) = (i : Int) + 1 by omega]
      exact he'
    · have below : b < s.heap.objs.size := by
        rcases (show b = e ∨ b = it by simpa using hb) with y | y <;> rw [y]
        · exact lt1
        · exact lt2
      rw [upd_ne (Nat.ne_of_lt below)]
      exact (hf b hb).1
  done := by
    intro X hP hw hK hc i pins s σ H E I hf st hg
    subst hP hw hK
    obtain ⟨⟨old, he⟩, ⟨hit, l⟩, ne⟩ := st
    obtain ⟨f0, f1, f2, f3, f4, f5⟩ := hf it (by simp)
    have ei : i = z.cps.size := Nat.le_antisymm l hg
    subst ei
    exact wpAny_pyNext_enum_endD (draws_text (A := X.A.in1) (I.ok.hd hc) it z t0) he hit fun h' eb => ⟨rfl, I.turned (t' := s.toks) (fun b o hb q => eb b o hb q) f0 f1 f3 f4 f5⟩
  self := fun A i s Q E st h => by
    obtain ⟨⟨_, he⟩, _⟩ := st
    exact wpAny_pyIter_enum he h
def iEnumS (ta : TA) : TI := fun σ H R => ta σ H fun vs H1 => ∃ z, vs = [.str z] ∧ R (ItSe z) H1
theorem pi_enumS {X : Cx} {e : Expr} {ta : TA} {p pos tpos : Pos} {elts : List Expr} {kk : Nat} (hg : Gl X "enumerate") (hm : X.mg "enumerate" = none) (ha : PA X [e] ta) (hs : starEach [e] X.env = [(false, eval e X.env)] := by rfl) :
    PI X (.Tuple elts kk tpos) (.Call (.Name "enumerate" p) [e] [] pos) (iEnumS ta) := by
  refine ⟨fun pins s σ H R I h => ?_⟩
  refine Call_ (ld_blt I hg hm boot_enumerate (PyProof.Rows.callWith_type1 (thn (ha.run pos pins s σ H _ I h) fun us s1 y => ?_) hs rfl))
  obtain ⟨vs, H1, J, r1, z, ex, q⟩ := y
  subst ex
  cases r1 with
  | cons r rr =>
    cases rr
    obtain ⟨t, rfl⟩ := r
    refine call_enumerate_str fun h1 he hi hz hk => wpAny_pyIter_enum he ?_
    have J2 : Inv X pins σ H1 { s1 with heap := h1 } := J.kept (t' := s1.toks) hk
    refine ⟨s1.heap.objs.size + 1, [s1.heap.objs.size + 1, s1.heap.objs.size], _, _, H1, rfl, J2, turn_enumS z t (s1.heap.objs.size + 1) s1.heap.objs.size, ⟨⟨.none, he⟩, ⟨hi, Nat.zero_le _⟩, Nat.succ_ne_self _⟩, fun b hb => ?_, q⟩
    have above : s1.heap.objs.size ≤ b := by
      rcases (show b = s1.heap.objs.size + 1 ∨ b = s1.heap.objs.size by simpa using hb) with y | y <;> rw [y]
      · exact Nat.le_add_right _ _
      · exact Nat.le_refl _
    exact J.fpOk above (J.hok.fresh above)
theorem walk_enumS {z : Str} : Walk (ItSe z) z.cps.size (fun _ => True) (fun i H v H' => ∃ T c, v = .ref T ∧ H T = none ∧ H' = upd H T (.tup [.int (i : Nat), .str ⟨#[c]⟩]) ∧ z.cps[i]? = some c) :=
  ⟨fun _ _ hi _ => hi, fun _ _ => Nat.le_refl _, fun _ _ _ _ _ _ y => y⟩
end My
/-! ### words for standings, level by level -/
namespace My
open PySem PySem.Spec PyProof.Rows L2 PySem.Builtin.Str
def wlt (a b : Str) : Bool := decide (a.cps.toList < b.cps.toList)
theorem wlt_irrefl (a : Str) : wlt a a = false := decide_eq_false (List.lt_irrefl _)
theorem wlt_trans {a b c : Str} (h1 : wlt a b = true) (h2 : wlt b c = true) : wlt a c = true := decide_eq_true (List.lt_trans (of_decide_eq_true h1) (of_decide_eq_true h2))
theorem wlt_tri {a b : Str} (h1 : wlt a b = false) (h2 : wlt b a = false) : a = b := by
  have e1 := of_decide_eq_false h1
  have e2 := of_decide_eq_false h2
  have : a.cps.toList = b.cps.toList := List.le_antisymm (List.not_lt.mp e2) (List.not_lt.mp e1)
  obtain ⟨⟨x⟩⟩ := a
  obtain ⟨⟨y⟩⟩ := b
  simp only at this
  rw [this]
theorem wlt_le {a b c : Str} (h1 : wlt b a = false) (h2 : wlt c b = false) : wlt c a = false := by
  rcases SrtO.bcase (wlt c a) with q | q
  · rcases SrtO.bcase (wlt a b) with p | p
    · rw [wlt_trans q p] at h2
      cases h2
    · rw [wlt_tri h1 p] at h2
      rw [h2] at q
      cases q
  · exact q
abbrev Lv := List (Sg × Str)
/-- a word for a standing: the lesser one is kept -/
def upWd (D : Lv) (t : Sg) (w : Str) : Lv := match getA D t with
  | none => putA D t w
  | some v => if wlt w v = true then putA D t w else D
def stepW (ok : Sg → Bool) (D : Lv) (p : Sg × Str) : Lv := if ok p.1 = true then upWd D p.1 p.2 else D
def foldW (ok : Sg → Bool) (ps D : Lv) : Lv := ps.foldl (stepW ok) D
theorem upWd_get (D : Lv) (t u : Sg) (w : Str) : getA (upWd D t w) u = if u = t then some (match getA D t with | none => w | some v => if wlt w v = true then w else v) else getA D u := by
  unfold upWd
  cases h : getA D t with
  | none => exact getA_put D t u w
  | some v =>
    show getA (if wlt w v = true then putA D t w else D) u = if u = t then some (if wlt w v = true then w else v) else getA D u
    split
    · exact getA_put D t u w
    · by_cases e : u = t
      · rw [e, h, if_pos rfl]
      · rw [if_neg e]
theorem upWd_nodup {D : Lv} {t : Sg} {w : Str} (nd : (keysA D).Nodup) : (keysA (upWd D t w)).Nodup := by
  unfold upWd
  split
  · exact putA_nodup nd
  · split
    · exact putA_nodup nd
    · exact nd
theorem upWd_len (D : Lv) (t : Sg) (w : Str) : (upWd D t w).length ≤ D.length + 1 := by
  unfold upWd
  split
  · exact putA_len D t w
  · split
    · exact putA_len D t w
    · exact Nat.le_succ _
theorem stepW_nodup {ok : Sg → Bool} {D : Lv} {p : Sg × Str} (nd : (keysA D).Nodup) : (keysA (stepW ok D p)).Nodup := by
  unfold stepW
  split
  · exact upWd_nodup nd
  · exact nd
theorem foldW_nodup {ok : Sg → Bool} : ∀ {ps D : Lv}, (keysA D).Nodup → (keysA (foldW ok ps D)).Nodup
  | [], _, h => h
  | p :: ps, D, h => foldW_nodup (ps := ps) (D := stepW ok D p) (stepW_nodup h)
theorem foldW_len {ok : Sg → Bool} : ∀ {ps D : Lv}, (foldW ok ps D).length ≤ D.length + ps.length
  | [], _ => Nat.le_refl _
  | p :: ps, D => by
    have h1 := foldW_len (ok := ok) (ps := ps) (D := stepW ok D p)
    have h2 : (stepW ok D p).length ≤ D.length + 1 := by
      unfold stepW
      split
      · exact upWd_len ..
      · exact Nat.le_succ _
    show (foldW ok ps (stepW ok D p)).length ≤ _
    rw [List.length_cons]
    omega
/-- what is offered to a standing -/
def Off (ok : Sg → Bool) (ps D : Lv) (t : Sg) (w : Str) : Prop := getA D t = some w ∨ (ok t = true ∧ (t, w) ∈ ps)
theorem off_step {ok : Sg → Bool} {p : Sg × Str} {ps D : Lv} {t : Sg} {w : Str} (h : Off ok ps (stepW ok D p) t w) : Off ok (p :: ps) D t w := by
  rcases h with h | ⟨h1, h2⟩
  · unfold stepW at h
    split at h
    · rename_i o
      rw [upWd_get] at h
      split at h
      · rename_i e
        subst e
        cases g : getA D p.1 with
        | none =>
          rw [g] at h
          cases h
          exact .inr ⟨o, .head _⟩
        | some v =>
          rw [g] at h
          have h3 : (if wlt p.2 v = true then p.2 else v) = w := Option.some.inj h
          split at h3
          · subst h3
            exact .inr ⟨o, .head _⟩
          · rw [h3] at g
            exact .inl g
      · exact .inl h
    · exact .inl h
  · exact .inr ⟨h1, .tail _ h2⟩
theorem off_least {ok : Sg → Bool} {p : Sg × Str} {ps D : Lv} {t : Sg} {w : Str} (h : Off ok (p :: ps) D t w) : ∃ w', Off ok ps (stepW ok D p) t w' ∧ wlt w w' = false := by
  rcases h with h | ⟨h1, h2⟩
  · by_cases c : t = p.1 ∧ ok p.1 = true ∧ wlt p.2 w = true
    · obtain ⟨rfl, o, l⟩ := c
      refine ⟨p.2, .inl ?_, ?_⟩
      · unfold stepW
        rw [if_pos o, upWd_get, if_pos rfl, h]
        show some (if wlt p.2 w = true then p.2 else w) = _
        rw [if_pos l]
      · rcases SrtO.bcase (wlt w p.2) with q | q
        · have := wlt_trans l q
          rw [wlt_irrefl] at this
          cases this
        · exact q
    · refine ⟨w, .inl ?_, wlt_irrefl w⟩
      unfold stepW
      split
      · rename_i o
        rw [upWd_get]
        by_cases e : t = p.1
        · subst e
          rw [if_pos rfl, h]
          show some (if wlt p.2 w = true then p.2 else w) = _
          rw [if_neg (fun l => c ⟨rfl, o, l⟩)]
        · rw [if_neg e, h]
      · exact h
  · rcases List.mem_cons.mp h2 with e | h2
    · refine ⟨match getA D t with | none => w | some v => if wlt w v = true then w else v, .inl ?_, ?_⟩
      · have e1 : p.1 = t := by rw [← e]
        have e2 : p.2 = w := by rw [← e]
        unfold stepW
        rw [e1, if_pos h1, upWd_get, if_pos rfl, e2]
      · cases g : getA D t with
        | none => exact wlt_irrefl w
        | some v =>
          simp only
          split
          · exact wlt_irrefl w
          · rename_i c
            exact eq_false_of_ne_true c
    · exact ⟨w, .inr ⟨h1, h2⟩, wlt_irrefl w⟩
theorem foldW_off {ok : Sg → Bool} : ∀ {ps D : Lv} {t : Sg} {v : Str}, getA (foldW ok ps D) t = some v → Off ok ps D t v ∧ ∀ w, Off ok ps D t w → wlt w v = false
  | [], D, t, v, h => by
    refine ⟨.inl h, fun w hw => ?_⟩
    rcases hw with hw | ⟨_, hw⟩
    · rw [show getA D t = some v from h] at hw
      cases hw
      exact wlt_irrefl v
    · cases hw
  | p :: ps, D, t, v, h => by
    obtain ⟨h1, h2⟩ := foldW_off (ps := ps) (D := stepW ok D p) h
    refine ⟨off_step h1, fun w hw => ?_⟩
    obtain ⟨w', o, l⟩ := off_least hw
    exact wlt_le (h2 w' o) l
theorem foldW_some {ok : Sg → Bool} : ∀ {ps D : Lv} {t : Sg} {w : Str}, Off ok ps D t w → ∃ v, getA (foldW ok ps D) t = some v
  | [], _, _, w, h => by
    rcases h with h | ⟨_, h⟩
    · exact ⟨w, h⟩
    · cases h
  | p :: ps, D, t, w, h => by
    obtain ⟨w', o, _⟩ := off_least h
    exact foldW_some (ps := ps) (D := stepW ok D p) o
/-- only what is offered matters -/
theorem foldW_ext {ok ok' : Sg → Bool} {ps ps' : Lv} {t : Sg} (h : ∀ w, (ok t = true ∧ (t, w) ∈ ps) ↔ (ok' t = true ∧ (t, w) ∈ ps')) : getA (foldW ok ps []) t = getA (foldW ok' ps' []) t := by
  have o : ∀ w, Off ok ps [] t w ↔ Off ok' ps' [] t w := fun w => by
    unfold Off
    rw [h w]
  cases e : getA (foldW ok ps []) t with
  | none =>
    cases e2 : getA (foldW ok' ps' []) t with
    | none => rfl
    | some v =>
      obtain ⟨h1, _⟩ := foldW_off e2
      obtain ⟨u, hu⟩ := foldW_some ((o v).mpr h1)
      rw [e] at hu
      cases hu
  | some v =>
    obtain ⟨h1, h2⟩ := foldW_off e
    obtain ⟨u, hu⟩ := foldW_some ((o v).mp h1)
    obtain ⟨h3, h4⟩ := foldW_off hu
    rw [hu, wlt_tri (h2 u ((o u).mpr h3)) (h4 v ((o v).mp h1))]
/-! the moves -/
def ltrS (z : Str) (i : Nat) : Str := ⟨#[z.cps.getD i 0]⟩
def stepsOf (C : Ct) (q : Sg × Str) (at_ : Nat) : Lv := (succOf C at_ q.1).map fun t => (t, q.2 ++ ltrS C.M.z at_)
def movesFrom (C : Ct) (q : Sg × Str) : Lv := (List.range C.M.z.length).flatMap (stepsOf C q)
def movesOf (C : Ct) (lv : Lv) : Lv := lv.flatMap (movesFrom C)
def levelOn (C : Ct) (ok : Sg → Bool) (lv : Lv) : Lv := foldW ok (movesOf C lv) []
theorem foldW_app {ok : Sg → Bool} {a b D : Lv} : foldW ok (a ++ b) D = foldW ok b (foldW ok a D) := List.foldl_append
theorem mem_moves {C : Ct} {lv : Lv} {t : Sg} {w : Str} : (t, w) ∈ movesOf C lv ↔ ∃ q ∈ lv, ∃ i, i < C.M.z.length ∧ t ∈ succOf C i q.1 ∧ w = q.2 ++ ltrS C.M.z i := by
  constructor
  · intro h
    obtain ⟨q, hq, h⟩ := List.mem_flatMap.mp h
    obtain ⟨i, hi, h⟩ := List.mem_flatMap.mp h
    obtain ⟨u, hu, e⟩ := List.mem_map.mp h
    cases e
    exact ⟨q, hq, i, List.mem_range.mp hi, hu, rfl⟩
  · rintro ⟨q, hq, i, hi, hu, rfl⟩
    exact List.mem_flatMap.mpr ⟨q, hq, List.mem_flatMap.mpr ⟨i, List.mem_range.mpr hi, List.mem_map.mpr ⟨t, hu, rfl⟩⟩⟩
theorem succ_len {C : Ct} (h : Cok C) {at_ : Nat} {t : Sg} : (succOf C at_ t).length ≤ 3 := by
  unfold succOf
  split
  · exact Nat.zero_le _
  · refine Nat.le_trans (List.length_filterMap_le _ _) ?_
    cases e : chP C.M at_ t.s with
    | nil => exact Nat.zero_le _
    | cons p r =>
      obtain ⟨cs, hcs, ps, hps, _, e2⟩ := ch_mem h.m (at_ := at_) (s := t.s) (p := p) (by rw [e]; exact .head _)
      rw [← e, e2]
      exact (h.m.ch cs hcs ps hps).2
theorem moves_len {C : Ct} (h : Cok C) (lv : Lv) : (movesOf C lv).length ≤ 9 * lv.length := by
  refine flat_len lv fun q _ => ?_
  have h3 := (ltr_pos h.m.ltr).2
  have := flat_len (g := stepsOf C q) (n := 3) (List.range C.M.z.length) fun i _ => by
    unfold stepsOf
    rw [List.length_map]
    exact succ_len h
  rw [List.length_range] at this
  show (List.flatMap _ _).length ≤ 9
  omega
theorem level_len {C : Ct} (h : Cok C) {ok : Sg → Bool} (lv : Lv) : (levelOn C ok lv).length ≤ 9 * lv.length := by
  have h1 := foldW_len (ok := ok) (ps := movesOf C lv) (D := [])
  have h2 := moves_len h lv
  rw [List.length_nil] at h1
  unfold levelOn
  omega
theorem level_mem {C : Ct} {ok : Sg → Bool} {lv : Lv} {p : Sg × Str} (h : p ∈ levelOn C ok lv) : ok p.1 = true ∧ p ∈ movesOf C lv := by
  have := mem_getA (foldW_nodup (ok := ok) (ps := movesOf C lv) (D := []) (by simp [keysA])) (t := p.1) (v := p.2) h
  rcases (foldW_off this).1 with e | e
  · cases e
  · exact e
theorem level_has {C : Ct} {ok : Sg → Bool} {lv : Lv} {t : Sg} : t ∈ keysA (levelOn C ok lv) ↔ ok t = true ∧ ∃ w, (t, w) ∈ movesOf C lv := by
  constructor
  · intro h
    obtain ⟨p, hp, rfl⟩ := List.mem_map.mp h
    obtain ⟨h1, h2⟩ := level_mem hp
    exact ⟨h1, p.2, h2⟩
  · rintro ⟨h1, w, h2⟩
    obtain ⟨v, hv⟩ := foldW_some (ok := ok) (ps := movesOf C lv) (D := []) (.inr ⟨h1, h2⟩)
    exact getA_isSome.mp (by unfold levelOn; rw [hv]; rfl)
theorem app_len (a b : Str) : (a ++ b).length = a.length + b.length := by
  show (a.cps ++ b.cps).size = _
  rw [Array.size_append]
  rfl
theorem level_ok {C : Ct} (h : Cok C) {ok : Sg → Bool} {lv : Lv} {n : Nat} (hl : ∀ q ∈ lv, Sok C q.1 ∧ q.2.length = n) : ∀ q ∈ levelOn C ok lv, Sok C q.1 ∧ q.2.length = n + 1 := fun q hq => by
  obtain ⟨_, h2⟩ := level_mem hq
  obtain ⟨q', hq', i, hi, hu, e⟩ := mem_moves.mp (show (q.1, q.2) ∈ movesOf C lv from h2)
  obtain ⟨k1, k2⟩ := hl q' hq'
  refine ⟨succ_sok h k1.few hu, ?_⟩
  rw [e, app_len, k2]
  rfl
end My
/-! ### is_won, has_won, level_after -/
namespace My
open PySem PySem.Spec PyProof.Rows L2 PySem.Builtin.Str
abbrev sLevelAfter : Stmt := topS 53
theorem scLevelAfter : FnScope ["contest", "level", "seen", "later", "standing", "at", "letter", "word", "successor"] ["contest", "level", "seen"] (defScope sLevelAfter) := ⟨rfl, rfl, rfl, by decide +kernel, rfl, by decide +kernel, by decide +kernel⟩

structure LvTxt (K : PySem.W.Frag) (mg : Str → Option Value) (g1 g2 g3 g4 : Addr) (e1 e2 e3 e4 : FuncData) : Prop where
  su : SuTxt K mg g1 g2 g3 e1 e2 e3
  enumerate : mg "enumerate" = none
  FLevelAfter : Fun K "level_after" "level_after" sLevelAfter g4 e4
  bLevelAfter : Binds K e4 ["contest", "level", "seen"] []
  gLevelAfter : mg "level_after" = some (.ref g4)
theorem tO_stD (o : Option Int) : tO (stD o) = true := by
  cases o <;> rfl
theorem tOs_rowsD (R : List (List (Option Int))) : tOs (rowsD R) = true := by
  unfold rowsD
  refine tOs_map (fun r => ?_) R
  rw [tO]
  exact tOs_map tO_stD r
theorem tO_eCt (C : Ct) : tO (eCt C) = true := by
  simp only [eCt, tO, tOs, Bool.true_and, Bool.and_true]
  rw [tOs_map tO_eS, tOs_map tO_eS, tOs_rowsD]
  rfl
def wonG (t : Sg) : Bool := decide (t.L = [])
def spIsWon (K : PySem.W.Frag) : Sp := fun vs H Q _ => ∃ (y : V) (t : Sg), vs = [y] ∧ Rp K H y (eSg t) ∧ ∀ H', Same H H' → Q (.bl (wonG t)) H'
/-- a dict from standings to words -/
def vW (lv : Lv) : List (Sg × V) := lv.map fun q => (q.1, V.str q.2)
def vT (ts : List Sg) : List (Sg × V) := ts.map fun t => (t, V.bl true)
def spHasWon (P : Program) (w : World) (K : PySem.W.Frag) : Sp := fun vs H Q _ => ∃ (d : Addr) (l : List (Sg × V)), vs = [.ref d] ∧ ED P w K eSg H d l ∧ l.length < sizeLine ∧ ∀ H', Same H H' → Q (.bl ((keysA l).any wonG)) H'
theorem shaped_L (L : List (Int × Int)) : SeqAt.shaped (.tuple (L.map eP)) = true := by
  have l := lay_eP L
  have l2 := l.2.1
  simp [SeqAt.shaped, PyData.canLay0, PyData.depth, l.1]
  omega
theorem eqv_nil (L : List (Int × Int)) : PyData.eqv (.tuple (L.map eP)) (.tuple []) = decide (L = []) := by
  cases L with
  | nil => rfl
  | cons a l => simp [PyData.eqv, PyData.eqvAll]
section
variable {P : Program} {w : World} {K : PySem.W.Frag} {mg : Str → Option Value} {base : Heap} {g1 g2 g3 g4 : Addr} {e1 e2 e3 e4 : FuncData}
theorem ok_isWon (T : SuTxt K mg g1 g2 g3 e1 e2 e3) {k : Nat} : FnOk P w K mg base CX0 (k + 1) g2 e2 ["standing"] (spIsWon K) := by
  refine T.FIsWon.ok scIsWon (fun vs H Q E h => ?_) (fun cdv A outer s H vs Q E hr h => ?_)
  · obtain ⟨y, t, rfl, _⟩ := h
    rfl
  · obtain ⟨y, t, rfl, hy, q⟩ := h
    have hu : (A.deeper (envOfC "is_won" (defScope sIsWon) s.heap.objs.size g2 cdv)).units + 64 < cLine := by have := hr.un; omega
    refine ⟨_, (pss_one (ps_ret (pe_cmpR (op_eqD hu) (pe_ix ix_tup (pv 0) pe_int (fun _ _ => rfl)) (pe_tup pa_nil) (nomark _)))), ?_⟩
    obtain ⟨sa, la, vs, rfl, hS4, hS5, hA5⟩ := sg_top hy
    refine ⟨_, rfl, sa, _, 2, _, rfl, rfl, hS4, rfl, by show 0 ≤ sizeLine; decide, fun n hn => ?_⟩
    have sn := same_upd (o := HO.tup []) hn
    refine ⟨_, _, (Rp.tup (same_tup sn hS5) (rpAll_ts (ts_same sn) hA5 (tOs_map tO_eP _))).dp ?_, (Rp.tup (SqT.of upd_same) .nil).dp (by simp [PyData.hasDict, PyData.hasDictAll]), shaped_L t.L, rfl, ?_⟩
    · rw [PyData.hasDict]
      exact (lay_eP t.L).2.2
    · rw [eqv_nil]
      exact q _ sn
theorem ok_hasWon (T : SuTxt K mg g1 g2 g3 e1 e2 e3) {k : Nat} : FnOk P w K mg base CX0 (k + 2) g3 e3 ["level"] (spHasWon P w K) := by
  have GI : FnOk P w K mg base CX0 (k + 1) g2 e2 ["standing"] (spIsWon K) := ok_isWon T
  refine T.FHasWon.ok scHasWon (fun vs H Q E h => ?_) (fun cdv A outer s H vs Q E hr h => ?_)
  · obtain ⟨d, l, rfl, _⟩ := h
    rfl
  · obtain ⟨d, l, rfl, hd, hz, q⟩ := h
    refine ⟨_, (pss_one (ps_ret (pe_callB (cr_any rfl) (by rfl) T.any (by decide +kernel) (pa_cons (pe_lock (pe_lc (own := [("standing", 1)]) (g := gName 1) (tt := tYes) (by rfl) scHasWon.nd (pi_nkeys (pv 0)) (blkOk_by (N := ["level", "standing"]) (sc := defScope sHasWon) (by decide +kernel)) (fun _ _ _ _ _ => pg_name (i := 1) scHasWon.nd rfl (Or.inl rfl)) (fun _ _ _ _ _ => pts_nil) (fun _ _ _ _ _ => (pe_call GI hr (by rfl) T.gIsWon T.FIsWon.kp T.bIsWon .nil pass0 (pa_cons (pv 1) pa_nil))))) pa_nil)))), ?_⟩
    obtain ⟨xs, hx, kx⟩ := hd
    have lx : xs.length = l.length := Paired.length kx
    refine ⟨d, _, hx, trivial, fun od => ?_⟩
    refine ⟨_, rfl, d, od, xs, rfl, upd_same, fun D nD => ?_⟩
    have nd : d ≠ D := ne_of_none (o := .frz od (NdO P w d xs)) upd_same nD
    have nD0 : H D = none := by rw [upd_ne nd.symm] at nD; exact nD
    have tb : TStay K H (upd H d (.frz od (NdO P w d xs))) := ts_upd hx (fun _ z => nomatch z) (fun _ _ z => nomatch z)
    refine lc_it walk_nkeys (fun i H' => Same (upd H d (.frz od (NdO P w d xs))) H' ∧ H' D = some (.lst ((((keysA l).take i).map wonG).map V.bl))) ⟨same_upd nD, upd_same⟩ (fun i H' _ h => h.1 _ _ upd_same) ?_ ?_
    · rintro i u H' H2 hi ⟨s1, hD⟩ ⟨rfl, e, he, rfl⟩
      obtain ⟨p, hp, rp⟩ := kx.at he
      have hk : (keysA l)[i]? = some p.1 := by
        unfold keysA
        rw [List.getElem?_map, hp]
        rfl
      refine ⟨rfl, ?_⟩
      refine ⟨_, rfl, _, p.1, rfl, rp_ts (tb.trans (ts_same s1)) rp (enc_sg.tO _), fun H3 s3 => ⟨_, s3 _ _ hD, ?_, same_new (s1.trans s3) nD, ?_⟩⟩
      · rw [List.length_map, List.length_map]
        have := List.length_take_le' i (keysA l)
        have l2 : (keysA l).length = l.length := List.length_map _
        omega
      · rw [upd_same, List.take_succ, hk]
        simp
    · rintro H' ⟨s1, hD⟩
      have l2 : xs.length = (keysA l).length := by rw [lx]; exact (List.length_map _).symm
      rw [l2, List.take_length] at hD
      have back : Same H (upd H' d (NdO P w d xs)) := fun b o e => by
        by_cases z : b = d
        · rw [z, upd_same, ← hx, ← z, e]
        · rw [upd_ne z]
          exact s1 b o (by rw [upd_ne z]; exact e)
      refine ⟨s1 _ _ upd_same, D, _, rfl, SqL.of (by rw [upd_ne nd.symm]; exact hD), ?_⟩
      rw [List.any_map]
      exact q _ back
end
end My
/-! ### level_after -/
namespace My
open PySem PySem.Spec PyProof.Rows L2 PySem.Builtin.Str
def okS (seen : List Sg) (t : Sg) : Bool := decide (t ∉ seen)
def spLevelAfter (P : Program) (w : World) (K : PySem.W.Frag) : Sp := fun vs H Q _ => ∃ (x : V) (C : Ct) (d sd : Addr) (lv : Lv) (seen : List Sg) (n : Nat), vs = [x, .ref d, .ref sd] ∧ Rp K H x (eCt C) ∧ Cok C ∧ ED P w K eSg H d (vW lv) ∧ ED P w K eSg H sd (vT seen) ∧ d ≠ sd ∧ (keysA lv).Nodup ∧ (∀ q ∈ lv, Sok C q.1 ∧ q.2.length = n) ∧ n ≤ 100000 ∧ lv.length ≤ 100000 ∧
  ∀ H' r, Same H H' → H r = none → ED P w K eSg H' r (vW (levelOn C (okS seen) lv)) → Q (.ref r) H'
theorem vW_get (lv : Lv) (t : Sg) : getA (vW lv) t = (getA lv t).map V.str := getA_mapv V.str lv t
theorem vW_put (lv : Lv) (t : Sg) (w : Str) : putA (vW lv) t (.str w) = vW (putA lv t w) := (putA_map V.str lv t w).symm
theorem vW_len (lv : Lv) : (vW lv).length = lv.length := List.length_map _
theorem vW_keys (lv : Lv) : keysA (vW lv) = keysA lv := by
  unfold keysA vW
  rw [List.map_map]
  rfl
theorem vT_get (ts : List Sg) (t : Sg) : (getA (vT ts) t).isSome = decide (t ∈ ts) := by
  rw [Bool.eq_iff_iff, getA_isSome, decide_eq_true_eq]
  unfold keysA vT
  rw [List.map_map]
  simp
/-- if t not in seen and (t not in later or word < later[t]): later[t] = word -/
theorem step_if {P : Program} {w : World} {K : PySem.W.Frag} {iT iS iL iW : Nat} {D : Ends} {σ : L2.St} {H : Hp} {b sd g : Addr} {t : Sg} {wd : Str} {lv : Lv} {seen : List Sg}
    (e1 : σ[iT]? = some (some (.ref b))) (e2 : σ[iS]? = some (some (.ref sd))) (e3 : σ[iL]? = some (some (.ref g))) (e4 : σ[iW]? = some (some (.str wd)))
    (hb : Rp K H (.ref b) (eSg t)) (hs : EDr P w K eSg H sd (vT seen)) (hg : ED P w K eSg H g (vW lv)) (hl : lv.length < sizeLine)
    (h : ∀ H', (H' = H ∨ ∃ φ, H' = upd H g (.ext φ)) → ED P w K eSg H' g (vW (stepW (okS seen) lv (t, wd))) → D.nx σ H') :
    tIfS (tAnd (tB (tENotIn P w K (tVar iT) (tVar iS))) (tOr (tB (tENotIn P w K (tVar iT) (tVar iL))) (tTest (tOp (fun x y H Q => ∃ i j, x = V.str i ∧ y = V.str j ∧ Q (.bl (decide (i.cps.toList < j.cps.toList))) H) (tVar iW) (tEGet P w K (tVar iL) (tVar iT)))))) (sEPut P w K (tVar iL) (tVar iT) (tVar iW)) tNext D σ H := by
  have put : upWd lv t wd = putA lv t wd → okS seen t = true → sEPut P w K (tVar iL) (tVar iT) (tVar iW) D σ H := fun e o => by
    obtain ⟨φ, h1, h2⟩ := hg.put enc_sg hb (by rw [vW_len]; exact hl) (.str wd)
    refine ⟨_, e4, _, e3, _, e1, _, h1, h _ (.inr ⟨φ, rfl⟩) ?_⟩
    rw [vW_put] at h2
    unfold stepW
    rw [if_pos o, e]
    exact h2
  have stay : stepW (okS seen) lv (t, wd) = lv → D.nx σ H := fun e => h H (.inl rfl) (by rw [e]; exact hg)
  have i1 := hs.in_ enc_sg hb
  rw [vT_get] at i1
  refine ⟨_, e1, _, e2, _, i1, _, rfl, ?_⟩
  by_cases o : t ∈ seen
  · rw [decide_eq_true o]
    exact iteF (iteF (stay (by unfold stepW okS; rw [decide_eq_false (fun z => z o)]; rfl)))
  rw [decide_eq_false o]
  have ok : okS seen t = true := decide_eq_true o
  have i2 := hg.r.in_ enc_sg hb
  rw [vW_get, Option.isSome_map] at i2
  refine iteT ⟨_, e1, _, e3, _, i2, _, rfl, ?_⟩
  cases hv : getA lv t with
  | none => exact iteT (iteT (put (by unfold upWd; rw [hv]) ok))
  | some v =>
    refine iteF ⟨_, e4, _, e3, _, e1, .str v, hg.r.get enc_sg hb (by rw [vW_get, hv]; rfl), _, _, rfl, rfl, _, rfl, ?_⟩
    show if wlt wd v = true then _ else _
    cases l : wlt wd v with
    | true => exact iteT (put (by unfold upWd; rw [hv]; exact if_pos l) ok)
    | false =>
      refine iteF (stay ?_)
      unfold stepW
      rw [if_pos ok]
      unfold upWd
      rw [hv]
      exact if_neg (by rw [l]; decide)
theorem moves_take {C : Ct} {lv : Lv} {i : Nat} {q : Sg × Str} (h : lv[i]? = some q) : movesOf C (lv.take (i + 1)) = movesOf C (lv.take i) ++ movesFrom C q := by
  unfold movesOf
  rw [List.take_succ, h, List.flatMap_append]
  simp
theorem from_take {C : Ct} {q : Sg × Str} {j : Nat} (h : j < C.M.z.length) : ((List.range C.M.z.length).take (j + 1)).flatMap (stepsOf C q) = ((List.range C.M.z.length).take j).flatMap (stepsOf C q) ++ stepsOf C q j := by
  rw [List.take_succ, List.getElem?_range h, List.flatMap_append]
  simp
section
variable {P : Program} {w : World} {K : PySem.W.Frag} {mg : Str → Option Value} {base : Heap} {g1 g2 g3 g4 : Addr} {e1 e2 e3 e4 : FuncData}
theorem ok_levelAfter (T : LvTxt K mg g1 g2 g3 g4 e1 e2 e3 e4) {k : Nat} : FnOk P w K mg base CX0 (k + 2) g4 e4 ["contest", "level", "seen"] (spLevelAfter P w K) := by
  have GS : FnOk P w K mg base CX0 (k + 1) g1 e1 ["contest", "standing", "at"] (spSucc K) := ok_succ T.su
  refine T.FLevelAfter.ok scLevelAfter (fun vs H Q E h => ?_) (fun cdv A outer s H vs Q E hr h => ?_)
  · obtain ⟨x, C, d, sd, lv, seen, n, rfl, _⟩ := h
    rfl
  · obtain ⟨x, C, d, sd, lv, seen, n, rfl, hx, hC, hd, hsd, dne, nd, hl, hn, hlv, q⟩ := h
    have hu9 : (A.deeper (envOfC "level_after" (defScope sLevelAfter) s.heap.objs.size g4 cdv)).units + 9 < cLine := by have := hr.un; omega
    refine ⟨_, (Evl.pss_cut (ps_set (i := 3) scLevelAfter.nd rfl (.inl rfl) pe_enew)
 (Evl.pss_cut (ps_lock (ps_for PassesOwn.never rfl (pi_nkeys (pv 1)) (pg_name (i := 4) scLevelAfter.nd rfl (.inl rfl))
 (pss_one (ps_for PassesOwn.never rfl (pi_enumS (by rfl) T.enumerate (pa_cons (pe_ix ix_tup (pv 0) pe_int (fun _ _ => rfl)) pa_nil)) (pg_tup rfl (pgs_cons (pg_name (i := 5) scLevelAfter.nd rfl (.inl rfl)) (pgs_cons (pg_name (i := 6) scLevelAfter.nd rfl (.inl rfl)) pgs_nil)))
 (Evl.pss_cut (ps_set (i := 7) scLevelAfter.nd rfl (.inl rfl) (pe_op op_add_str (pe_eget hu9 (pv 1) (pv 4) (fun _ _ => rfl)) (pv 6)))
 (pss_one (ps_for PassesOwn.never rfl (pi_list (pe_call GS hr (by rfl) T.su.gSucc T.su.FSucc.kp T.su.bSucc .nil pass0 (pa_cons (pv 0) (pa_cons (pv 4) (pa_cons (pv 5) pa_nil))))) (pg_name (i := 8) scLevelAfter.nd rfl (.inl rfl))
 (pss_one (ps_if (PW.pt (pw_and (pt_cmp (pc_enotin hu9 (pv 8) (pv 2))) (pw_and1 (PW.pt (pw_or (pt_cmp (pc_enotin hu9 (pv 8) (pv 3))) (pw_or1 (pt_cmpR op_lt_str (pv 7) (pe_eget hu9 (pv 3) (pv 8) (fun _ _ => rfl)) (nomark _)))))))) (pss_one (ps_eput hu9 (pv 3) (pv 8) (pv 7) rfl)) pss_nil)))))))))
 (pss_one (ps_ret (pv 3))))), ?_⟩
    obtain ⟨a, rt, rs, c1, us, c2, ws, rfl, hS, hS1, hA1, hS2, hA2, hS3, hA3⟩ := ct_top hx
    obtain ⟨xd, hxd, kx⟩ := hd
    obtain ⟨xs2, hxs, kx2⟩ := id hsd
    refine ⟨fun σ H1 => ∃ g, σ = [some (.ref a), some (.ref d), some (.ref sd), some (.ref g)] ++ List.replicate 5 none ∧ H g = none ∧ H1 = upd H g (NdO P w g []), ?_, ?_⟩
    · exact fun g ng => ⟨g, rfl, ng, rfl⟩
    rintro σ H1 ⟨g, rfl, ng, rfl⟩
    have dg : d ≠ g := ne_of_none hxd ng
    have sg : sd ≠ g := ne_of_none hxs ng
    refine ⟨fun σ H5 => (∃ l4 l5 l6 l7 l8, σ = [some (.ref a), some (.ref d), some (.ref sd), some (.ref g), l4, l5, l6, l7, l8]) ∧ Same H H5 ∧ ED P w K eSg H5 g (vW (foldW (okS seen) (movesOf C lv) [])), ?_, ?_⟩
    · refine ⟨d, NdO P w d xd, (by rw [upd_ne dg]; exact hxd), trivial, fun od => ?_⟩
      refine ⟨_, rfl, d, od, xd, rfl, upd_same, ?_⟩
      have sb : Same (upd H d (.frz od (NdO P w d xd))) (upd (upd H g (NdO P w g [])) d (.frz od (NdO P w d xd))) := fun b o e => by
        by_cases z : b = d
        · rw [z, upd_same] at e ⊢
          exact e
        · rw [upd_ne z] at e ⊢
          rw [upd_ne (fun y => by rw [y, ng] at e; cases e)]
          exact e
      generalize hHb : upd H d (.frz od (NdO P w d xd)) = Hb at sb
      have nb : Hb g = none := by rw [← hHb, upd_ne (Ne.symm dg)]; exact ng
      have hbr : Hb d = some (.frz od (NdO P w d xd)) := by rw [← hHb]; exact upd_same
      have tb : TStay K H Hb := by
        rw [← hHb]
        exact ts_upd hxd (fun _ z => nomatch z) (fun _ _ z => nomatch z)
      have back : ∀ H5, Same Hb H5 → Same H (upd H5 d (NdO P w d xd)) := fun H5 s5 b o e => by
        by_cases z : b = d
        · rw [z, upd_same, ← hxd, ← z, e]
        · rw [upd_ne z]
          refine s5 b o ?_
          rw [← hHb, upd_ne z]
          exact e
      have hsb : EDr P w K eSg Hb sd (vT seen) := hsd.r.ts enc_sg tb fun o e => by
        rw [← hHb, upd_ne dne.symm]
        exact e
      have hdb : EDr P w K eSg Hb d (vW lv) := ⟨xd, .inr ⟨od, hbr⟩, kx.ts enc_sg tb⟩
      have lx : xd.length = lv.length := by
        have := Paired.length kx
        rw [vW_len] at this
        exact this
      have flen : ∀ ps : Lv, ps.length ≤ 9 * lv.length + 20 → (foldW (okS seen) ps []).length < sizeLine := fun ps hp => by
        have := foldW_len (ok := okS seen) (ps := ps) (D := [])
        rw [List.length_nil] at this
        exact Nat.lt_of_le_of_lt (show _ ≤ 1000000 by omega) (by decide)
      refine for_it walk_nkeys (fun i σ H5 => (∃ l4 l5 l6 l7 l8, σ = [some (.ref a), some (.ref d), some (.ref sd), some (.ref g), l4, l5, l6, l7, l8]) ∧ Same Hb H5 ∧ ED P w K eSg H5 g (vW (foldW (okS seen) (movesOf C (lv.take i)) []))) ⟨⟨_, _, _, _, _, rfl⟩, sb, .nil (by rw [upd_ne (Ne.symm dg)]; exact upd_same)⟩ (fun i σ H5 _ h => h.2.1 _ _ hbr) ?_ ?_
      · rintro i x σ H5 H5' hi ⟨⟨l4, l5, l6, l7, l8, rfl⟩, s5, hg5⟩ ⟨rfl, e, he, rfl⟩
        obtain ⟨p, hp, rp⟩ := kx.at he
        obtain ⟨qq, hq, rfl⟩ : ∃ qq : Sg × Str, lv[i]? = some qq ∧ p = (qq.1, V.str qq.2) := by
          unfold vW at hp
          rw [List.getElem?_map] at hp
          obtain ⟨qq, h1, h2⟩ := Option.map_eq_some_iff.mp hp
          exact ⟨qq, h1, h2.symm⟩
        have memq : qq ∈ lv := List.mem_of_getElem? hq
        obtain ⟨sk, wl⟩ := hl qq memq
        have rpb : Rp K Hb (.ref e.2.1) (eSg qq.1) := rp_ts tb rp (enc_sg.tO _)
        have gq : getA (vW lv) qq.1 = some (.str qq.2) := by
          rw [vW_get, mem_getA nd (show (qq.1, qq.2) ∈ lv from memq)]
          rfl
        refine ⟨_, rfl, a, _, 1, _, rfl, rfl, (tb.trans (ts_same s5)) _ _ hS, rfl, C.M.z, rfl, ?_⟩
        refine for_it walk_enumS (fun j σ H6 => (∃ l5 l6 l7 l8, σ = [some (.ref a), some (.ref d), some (.ref sd), some (.ref g), some (.ref e.2.1), l5, l6, l7, l8]) ∧ Same Hb H6 ∧ ED P w K eSg H6 g (vW (foldW (okS seen) (movesOf C (lv.take i) ++ ((List.range C.M.z.length).take j).flatMap (stepsOf C qq)) []))) ⟨⟨_, _, _, _, rfl⟩, s5, by rw [List.take_zero, List.flatMap_nil, List.append_nil]; exact hg5⟩ (fun _ _ _ _ _ => trivial) ?_ ?_
        · rintro j u σ H6 H7 hj ⟨⟨l5, l6, l7, l8, rfl⟩, s6, hg6⟩ ⟨T2, cc, rfl, nT, rfl, hcc⟩
          have sT := same_upd (o := HO.tup [.int (j : Nat), .str ⟨#[cc]⟩]) nT
          have s7 := s6.trans sT
          have hg7 := hg6.same enc_sg sT
          have hj2 : j < C.M.z.length := hj
          have el : ltrS C.M.z j = ⟨#[cc]⟩ := by
            unfold ltrS
            rw [Array.getD_eq_getD_getElem?, hcc]
            rfl
          refine ⟨T2, _, rfl, SqT.of upd_same, rfl, _, _, rfl, _, _, rfl, rfl, ?_⟩
          refine ⟨fun σ H8 => σ = [some (.ref a), some (.ref d), some (.ref sd), some (.ref g), some (.ref e.2.1), some (.int (j : Nat)), some (.str ⟨#[cc]⟩), some (.str (qq.2 ++ ⟨#[cc]⟩)), l8] ∧ H8 = upd H6 T2 (HO.tup [.int (j : Nat), .str ⟨#[cc]⟩]), ?_, ?_⟩
          · refine ⟨_, rfl, _, rfl, .str qq.2, (hdb.same enc_sg s7).get enc_sg (rp_ts (ts_same s7) rpb (enc_sg.tO _)) gq, _, rfl, _, _, rfl, rfl, ?_, rfl, rfl⟩
            rw [wl]
            exact Nat.le_trans (show n + 1 ≤ 100001 by omega) (by decide)
          rintro σ H8 ⟨rfl, rfl⟩
          generalize upd H6 T2 (HO.tup [.int (j : Nat), .str ⟨#[cc]⟩]) = H8 at s7 hg7 ⊢
          refine ⟨_, rfl, _, rfl, _, rfl, .ref a, .ref e.2.1, C, qq.1, j, rfl, rp_ts (tb.trans (ts_same s7)) hx (tO_eCt C), hC, rp_ts (ts_same s7) rpb (enc_sg.tO _), sk, hj2, fun H9 l us2 s9 nl hl9 hU => ?_⟩
          refine ⟨l, rfl, ⟨_, SqL.of hl9⟩, ?_⟩
          have s9' := s7.trans s9
          have hg9 := hg7.same enc_sg s9
          have gl : g ≠ l := by
            obtain ⟨φ, hφ⟩ := hg7.mut
            exact ne_of_none hφ nl
          refine for_list (K := K) (a := l) (xs := us2) (fun m σ H10 => (∃ l8, σ = [some (.ref a), some (.ref d), some (.ref sd), some (.ref g), some (.ref e.2.1), some (.int (j : Nat)), some (.str ⟨#[cc]⟩), some (.str (qq.2 ++ ⟨#[cc]⟩)), l8]) ∧ Same Hb H10 ∧ H10 l = some (.lst us2) ∧ RpAll K H10 us2 ((succOf C j qq.1).map eSg) ∧ ED P w K eSg H10 g (vW (foldW (okS seen) ((movesOf C (lv.take i) ++ ((List.range C.M.z.length).take j).flatMap (stepsOf C qq)) ++ (stepsOf C qq j).take m) []))) ⟨⟨_, rfl⟩, s9', hl9, hU, by rw [List.take_zero, List.append_nil]; exact hg9⟩ (fun m σ H10 _ h => SqL.of h.2.2.1) ?_ ?_
          · rintro m y σ H10 hy ⟨⟨l8, rfl⟩, s10, hl10, hU10, hg10⟩
            obtain ⟨t, ht, rt2⟩ := rpAll_back hU10 hy
            obtain ⟨tb2, _, _, rfl, _⟩ := sg_top rt2
            have tk : (stepsOf C qq j)[m]? = some (t, qq.2 ++ ⟨#[cc]⟩) := by
              unfold stepsOf
              rw [List.getElem?_map, ht, ← el]
              rfl
            refine step_if (iT := 8) (iS := 2) (iL := 3) (iW := 7) rfl rfl rfl rfl rt2 (hsb.same enc_sg s10) hg10 (flen _ ?_) fun H11 how hg11 => ?_
            · have h1 := moves_len hC (lv.take i)
              have h2 := List.length_take_le' i lv
              have h3 := flat_len (g := stepsOf C qq) (n := 3) ((List.range C.M.z.length).take j) fun i _ => by
                unfold stepsOf
                rw [List.length_map]
                exact succ_len hC
              have h4 := List.length_take_le' j (List.range C.M.z.length)
              rw [List.length_range] at h4
              have h5 := (ltr_pos hC.m.ltr).2
              have h6 := List.length_take_le' m (stepsOf C qq j)
              have h7 : (stepsOf C qq j).length ≤ 3 := by
                unfold stepsOf
                rw [List.length_map]
                exact succ_len hC
              rw [List.length_append, List.length_append]
              omega
            · have st : foldW (okS seen) ((movesOf C (lv.take i) ++ ((List.range C.M.z.length).take j).flatMap (stepsOf C qq)) ++ (stepsOf C qq j).take (m + 1)) [] = stepW (okS seen) (foldW (okS seen) ((movesOf C (lv.take i) ++ ((List.range C.M.z.length).take j).flatMap (stepsOf C qq)) ++ (stepsOf C qq j).take m) []) (t, qq.2 ++ ⟨#[cc]⟩) := by
                rw [List.take_succ, tk, ← List.append_assoc, foldW_app]
                rfl
              rw [← st] at hg11
              rcases how with rfl | ⟨φ, rfl⟩
              · exact ⟨⟨_, rfl⟩, s10, hl10, hU10, hg11⟩
              · obtain ⟨φ2, hφ⟩ := hg10.mut
                exact ⟨⟨_, rfl⟩, same_put s10 nb, by rw [upd_ne gl.symm]; exact hl10, rpAll_ts (ts_upd hφ (fun _ z => nomatch z) (fun _ _ z => nomatch z)) hU10 (tOs_map enc_sg.tO _), hg11⟩
          · rintro σ H10 ⟨⟨l8, rfl⟩, s10, hl10, hU10, hg10⟩
            refine ⟨⟨_, _, _, _, rfl⟩, s10, ?_⟩
            have : us2.length = (stepsOf C qq j).length := by
              unfold stepsOf
              rw [hU10.len, List.length_map, List.length_map]
            rw [this, List.take_length] at hg10
            rw [from_take hj2, ← List.append_assoc]
            exact hg10
        · rintro σ H6 ⟨⟨l5, l6, l7, l8, rfl⟩, s6, hg6⟩
          refine ⟨⟨_, _, _, _, _, rfl⟩, s6, ?_⟩
          rw [moves_take hq]
          have : (List.range C.M.z.length).take C.M.z.cps.size = List.range C.M.z.length := List.take_of_length_le (by rw [List.length_range]; exact Nat.le_refl _)
          rw [this] at hg6
          exact hg6
      · rintro σ H5 ⟨⟨l4, l5, l6, l7, l8, rfl⟩, s5, hg5⟩
        refine ⟨s5 _ _ hbr, ⟨_, _, _, _, _, rfl⟩, back H5 s5, ?_⟩
        rw [lx, List.take_length] at hg5
        exact hg5.ts enc_sg (ts_upd (s5 _ _ hbr) (fun _ z => nomatch z) (fun _ _ z => by cases z)) fun o e => by rw [upd_ne (Ne.symm dg)]; exact e
    rintro σ H5 ⟨⟨l4, l5, l6, l7, l8, rfl⟩, s5, hg5⟩
    exact ⟨_, rfl, q H5 g s5 ng hg5⟩
end
end My
/-! ### the levels up to the end -/
namespace My
open PySem PySem.Spec PyProof.Rows L2 PySem.Builtin.Str
abbrev sLevelsUntil : Stmt := topS 52
theorem scLevelsUntil : FnScope ["contest", "limit", "level", "seen", "levels", "standing"] ["contest", "limit"] (defScope sLevelsUntil) := ⟨rfl, rfl, rfl, by decide +kernel, rfl, by decide +kernel, by decide +kernel⟩
def lvN (C : Ct) : Nat → Lv × List Sg
  | 0 => ([(FIRSTg, ("" : Str))], [FIRSTg])
  | n + 1 => (levelOn C (okS (lvN C n).2) (lvN C n).1, (lvN C n).2 ++ keysA (levelOn C (okS (lvN C n).2) (lvN C n).1))
def lvl (C : Ct) (n : Nat) : Lv := (lvN C n).1
def seenN (C : Ct) (n : Nat) : List Sg := (lvN C n).2
def tot (C : Ct) (n : Nat) : Nat := (seenN C n).length
theorem lvl_succ (C : Ct) (n : Nat) : lvl C (n + 1) = levelOn C (okS (seenN C n)) (lvl C n) := rfl
theorem seen_succ (C : Ct) (n : Nat) : seenN C (n + 1) = seenN C n ++ keysA (lvl C (n + 1)) := rfl
theorem tot_succ (C : Ct) (n : Nat) : tot C (n + 1) = tot C n + (lvl C (n + 1)).length := by
  unfold tot
  rw [seen_succ, List.length_append]
  unfold keysA
  rw [List.length_map]
def wonN (C : Ct) (n : Nat) : Bool := (keysA (lvl C n)).any wonG
theorem lvl_nodup (C : Ct) : ∀ n, (keysA (lvl C n)).Nodup
  | 0 => by simp [lvl, lvN, keysA]
  | n + 1 => foldW_nodup (by simp [keysA])
theorem lvl_new (C : Ct) (n : Nat) : ∀ t ∈ keysA (lvl C (n + 1)), t ∉ seenN C n := fun t ht => by
  rw [lvl_succ, level_has] at ht
  exact of_decide_eq_true ht.1
theorem seen_nodup (C : Ct) : ∀ n, (seenN C n).Nodup
  | 0 => by simp [seenN, lvN]
  | n + 1 => by
    rw [seen_succ, List.nodup_append]
    exact ⟨seen_nodup C n, lvl_nodup C (n + 1), fun a ha b hb => by
      rintro rfl
      exact lvl_new C n a hb ha⟩
theorem lvl_ok {C : Ct} (h : Cok C) : ∀ n, ∀ q ∈ lvl C n, Sok C q.1 ∧ q.2.length = n
  | 0 => fun q hq => by
    obtain rfl : q = (FIRSTg, ("" : Str)) := List.mem_singleton.mp hq
    exact ⟨sok_first h, rfl⟩
  | n + 1 => level_ok h (lvl_ok h n)
/-- nothing is won, nothing is empty up to n -/
def Pre (C : Ct) (n : Nat) : Prop := ∀ m, m < n → wonN C m = false ∧ lvl C (m + 1) ≠ []
def EndsN (C : Ct) (n : Nat) : Prop := Pre C n ∧ (wonN C n = true ∨ lvl C (n + 1) = [])
theorem lvl_len_le (C : Ct) (n : Nat) : (lvl C n).length ≤ tot C n := by
  cases n with
  | zero => exact Nat.le_refl _
  | succ n =>
    rw [tot_succ]
    exact Nat.le_add_left _ _
theorem pre_tot {C : Ct} : ∀ {n : Nat}, Pre C n → n + 1 ≤ tot C n
  | 0, _ => Nat.le_refl _
  | n + 1, h => by
    have ih := pre_tot (n := n) fun m hm => h m (by omega)
    have := List.length_pos_iff.mpr (h n (by omega)).2
    rw [tot_succ]
    omega
theorem tot_mono {C : Ct} {m n : Nat} (h : m ≤ n) : tot C m ≤ tot C n := by
  induction n with
  | zero =>
    obtain rfl : m = 0 := by omega
    exact Nat.le_refl _
  | succ n ih =>
    rw [tot_succ]
    rcases Nat.lt_or_ge n m with l | l
    · obtain rfl : m = n + 1 := by omega
      rw [tot_succ]
      exact Nat.le_refl _
    · exact Nat.le_trans (ih l) (Nat.le_add_right _ _)
theorem pre_ends {C : Ct} {m n : Nat} (h : EndsN C n) (p : Pre C m) : m ≤ n := by
  rcases Nat.lt_or_ge n m with l | l
  · obtain ⟨a, b⟩ := p n l
    rcases h.2 with e | e
    · rw [a] at e
      cases e
    · exact absurd e b
  · exact l
theorem ends_uniq {C : Ct} {m n : Nat} (h : EndsN C n) (g : EndsN C m) : m = n := Nat.le_antisymm (pre_ends h g.1) (pre_ends g h.1)
/-- a list of such levels -/
def LvL (P : Program) (w : World) (K : PySem.W.Frag) (H : Hp) (a : Addr) (rs : List Addr) (lvs : List Lv) : Prop := H a = some (.lst (rs.map V.ref)) ∧ Paired (fun (r : Addr) (lv : Lv) => ED P w K eSg H r (vW lv)) rs lvs
theorem LvL.same {P : Program} {w : World} {K : PySem.W.Frag} {H H' : Hp} {a : Addr} {rs : List Addr} {lvs : List Lv} (h : LvL P w K H a rs lvs) (s : Same H H') : LvL P w K H' a rs lvs := ⟨s _ _ h.1, Paired.mapP h.2 fun _ _ e => e.same enc_sg s⟩
def lenU (H : Hp) (a : Addr) : Nat := match H a with
  | some (.lst xs) => xs.length
  | _ => 0
/-- the loop's state: at d the level n, at sd what is seen so far, at ll the levels ahead of m -/
structure Lw (P : Program) (w : World) (K : PySem.W.Frag) (C : Ct) (H H' : Hp) (d sd ll : Addr) (rs : List Addr) (n m : Nat) : Prop where
  sm : Same H H'
  nd : H d = none
  nsd : H sd = none
  nll : H ll = none
  nrs : ∀ r ∈ rs, H r = none
  ed : ED P w K eSg H' d (vW (lvl C n))
  es : ED P w K eSg H' sd (vT (seenN C n))
  el : LvL P w K H' ll rs ((List.range m).map (lvl C))
  ne : d ≠ sd
  nes : sd ∉ rs
theorem Lw.same {P : Program} {w : World} {K : PySem.W.Frag} {C : Ct} {H H' H2 : Hp} {d sd ll : Addr} {rs : List Addr} {n m : Nat} (h : Lw P w K C H H' d sd ll rs n m) (s : Same H' H2) : Lw P w K C H H2 d sd ll rs n m :=
  ⟨h.sm.trans s, h.nd, h.nsd, h.nll, h.nrs, h.ed.same enc_sg s, h.es.same enc_sg s, h.el.same s, h.ne, h.nes⟩
theorem range_snoc {α : Type} (f : Nat → α) (n : Nat) : (List.range (n + 1)).map f = (List.range n).map f ++ [f n] := by
  rw [List.range_succ, List.map_append]
  rfl
theorem ed_upd {P : Program} {w : World} {K : PySem.W.Frag} {H : Hp} {a g : Addr} {o o' : HO} {l : List (Sg × V)} (h : ED P w K eSg H a l) (hg : H g = some o) (n1 : ∀ xs, o ≠ .tup xs) (n2 : ∀ u xs, o ≠ .frz u (.tup xs)) (ne : a ≠ g) : ED P w K eSg (upd H g o') a l :=
  h.ts enc_sg (ts_upd hg n1 n2) fun o e => by rw [upd_ne ne]; exact e
/-- all but what stands at g is as it was -/
def Keep (g : Addr) (H H' : Hp) : Prop := ∀ b o, b ≠ g → H b = some o → H' b = some o
theorem ts_keep {K : PySem.W.Frag} {g : Addr} {H H' : Hp} {φ : Heap → Prop} (h : H g = some (.ext φ)) (k : Keep g H H') : TStay K H H' := fun b xs e => by
  rcases e with (e | ⟨u, e⟩) | e
  · exact .inl (.inl (k _ _ (fun z => by rw [z, h] at e; cases e) e))
  · exact .inl (.inr ⟨u, k _ _ (fun z => by rw [z, h] at e; cases e) e⟩)
  · exact .inr e
theorem vT_put {ts : List Sg} {t : Sg} (h : t ∉ ts) : putA (vT ts) t (.bl true) = vT (ts ++ [t]) := by
  unfold putA
  have : (getA (vT ts) t).isSome = false := by rw [vT_get]; exact decide_eq_false h
  rw [this]
  unfold vT
  rw [List.map_append]
  rfl
structure LuTxt (K : PySem.W.Frag) (mg : Str → Option Value) (g1 g2 g3 g4 g5 : Addr) (e1 e2 e3 e4 e5 : FuncData) (CG fF : Addr) : Prop where
  lv : LvTxt K mg g1 g2 g3 g4 e1 e2 e3 e4
  len : mg "len" = none
  great : ExcF K mg "TooGreat" CG
  gFirst : mg "FIRST" = some (.ref fF)
  first : ∀ H : Hp, Rp K H (.ref fF) (eSg FIRSTg)
  FLevelsUntil : Fun K "levels_until_won" "levels_until_won" sLevelsUntil g5 e5
  bLevelsUntil : Binds K e5 ["contest", "limit"] []
  gLevelsUntil : mg "levels_until_won" = some (.ref g5)
def spLevelsUntil (P : Program) (w : World) (K : PySem.W.Frag) (CG : Addr) : Sp := fun vs H Q E => ∃ (x : V) (C : Ct) (L : Int), vs = [x, .int L] ∧ Rp K H x (eCt C) ∧ Cok C ∧ 1 ≤ L ∧ L ≤ 2000 ∧
  (∀ n H', Pre C n → L < (tot C n : Int) → Same H H' → E (.ref CG) none H') ∧
  (∀ n H' ll rs, EndsN C n → (tot C n : Int) ≤ L → Same H H' → H ll = none → (∀ r ∈ rs, H r = none) → LvL P w K H' ll rs ((List.range (n + 1)).map (lvl C)) → Q (.ref ll) H')
section
variable {P : Program} {w : World} {K : PySem.W.Frag} {mg : Str → Option Value} {base : Heap} {g1 g2 g3 g4 g5 : Addr} {e1 e2 e3 e4 e5 : FuncData} {CG fF : Addr}
theorem ok_levelsUntil (T : LuTxt K mg g1 g2 g3 g4 g5 e1 e2 e3 e4 e5 CG fF) {k : Nat} : FnOk P w K mg base (L2.CX P w) (k + 3) g5 e5 ["contest", "limit"] (spLevelsUntil P w K CG) := by
  have GA : FnOk P w K mg base CX0 (k + 2) g4 e4 ["contest", "level", "seen"] (spLevelAfter P w K) := ok_levelAfter T.lv
  have GW : FnOk P w K mg base CX0 (k + 2) g3 e3 ["level"] (spHasWon P w K) := ok_hasWon T.lv.su
  refine T.FLevelsUntil.okX scLevelsUntil (fun vs H Q E h => ?_) (fun cdv A outer s H vs Q E hr h => ?_)
  · obtain ⟨x, C, L, rfl, _⟩ := h
    rfl
  · obtain ⟨x, C, L, rfl, hx, hC, L1, L2, qE, q⟩ := h
    have hu9 : (A.deeper (envOfC "levels_until_won" (defScope sLevelsUntil) s.heap.objs.size g5 cdv)).units + 9 < cLine := by have := hr.un; omega
    refine ⟨_, (Evl.pss_cut (ps_par (i := 2) (j := 3) (by rfl) scLevelsUntil.nd rfl rfl (by decide) rfl rfl (pa_cons (pe_ndisp hu9 (pe_glob (v := .ref fF) (by rfl) T.gFirst rfl) pe_str) (pa_cons (pe_ndisp hu9 (pe_glob (v := .ref fF) (by rfl) T.gFirst rfl) pe_bl) pa_nil)) (by rfl))
 (Evl.pss_cut (ps_set (i := 4) scLevelsUntil.nd rfl (.inl rfl) (pe_lst pa_nil))
 (Evl.pss_cut (ps_while (passes_of rfl) (pt_truthR (pv 2) tru_dictN (fun _ => rfl))
 (Evl.pss_cut (ps_expr (pe_bm PySem.F.plainAttrs_list PySem.F.slot_list_append PySem.F.type_list_append mt_append (pv 4) (pa_cons (pv 2) pa_nil)))
 (Evl.pss_cut (ps_if (pt_val (pe_call GW hr (by rfl) T.lv.su.gHasWon T.lv.su.FHasWon.kp T.lv.su.bHasWon .nil pass0 (pa_cons (pv 2) pa_nil))) (pss_one (ps_ret (pv 4))) pss_nil)
 (Evl.pss_cut (ps_set (i := 2) scLevelsUntil.nd rfl (.inl rfl) (pe_call GA hr (by rfl) T.lv.gLevelAfter T.lv.FLevelAfter.kp T.lv.bLevelAfter .nil pass0 (pa_cons (pv 0) (pa_cons (pv 2) (pa_cons (pv 3) pa_nil)))))
 (Evl.pss_cut (ps_if (pt_cmpR op_gt (pe_op op_add (pe_callB cr_lenN (by rfl) T.len PySem.boot_len (pa_cons (pv 3) pa_nil)) (pe_callB cr_lenN (by rfl) T.len PySem.boot_len (pa_cons (pv 2) pa_nil))) (pv 1) (nomark _)) (pss_one (ps_raise rfl (takes_of rfl rfl rfl rfl) (SkE.pmk_own1 PySem.F.excBase_ValueError T.great.q T.great.g T.great.k (raises_own T.great.b T.great.t) (by exact rfl) pe_str))) pss_nil)
 (pss_one (ps_lock (ps_for (passes_of rfl) rfl (pi_nkeys (pv 2)) (pg_name (i := 5) scLevelsUntil.nd rfl (.inl rfl))
 (pss_one (ps_eput hu9 (pv 3) (pv 5) pe_bl rfl))))))))))
 (pss_one (ps_ret (pv 4)))))), ?_⟩
    refine ⟨fun σ H1 => ∃ d sd, σ = [some x, some (.int L), some (.ref d), some (.ref sd), none, none] ∧ Same H H1 ∧ H d = none ∧ H sd = none ∧ d ≠ sd ∧ ED P w K eSg H1 d (vW (lvl C 0)) ∧ ED P w K eSg H1 sd (vT (seenN C 0)), ?_, ?_⟩
    · refine fun d nd => ⟨fF, eSg FIRSTg, rfl, T.first _, enc_sg.tO _, enc_sg.kd _, upd_same, fun sd nsd => ⟨fF, eSg FIRSTg, rfl, T.first _, enc_sg.tO _, enc_sg.kd _, upd_same, _, _, rfl, d, sd, rfl, ?_⟩⟩
      have s1 := same_new (o := NdO P w d [(keyN (eSg FIRSTg), fF, .str "")]) (same_upd (o := NdO P w d []) nd) nd
      have s2 := same_new (o := NdO P w sd [(keyN (eSg FIRSTg), fF, .bl true)]) (same_upd (o := NdO P w sd []) nsd) nsd
      have dn : d ≠ sd := ne_of_none upd_same nsd
      exact ⟨s1.trans s2, nd, s1.free nsd, dn, ⟨_, s2 _ _ upd_same, .cons ⟨rfl, T.first _, rfl⟩ .nil⟩, ⟨_, upd_same, .cons ⟨rfl, T.first _, rfl⟩ .nil⟩⟩
    rintro σ H1 ⟨d, sd, rfl, s1, nd, nsd, dn, hd, hsd⟩
    refine ⟨fun σ H2 => ∃ ll, σ = [some x, some (.int L), some (.ref d), some (.ref sd), some (.ref ll), none] ∧ Lw P w K C H H2 d sd ll [] 0 0, ?_, ?_⟩
    · refine ⟨by show 0 ≤ sizeLine; decide, fun ll nl => ⟨ll, rfl, ?_⟩⟩
      have s2 := same_upd (o := HO.lst []) nl
      exact ⟨s1.trans s2, nd, nsd, s1.free nl, (fun _ h => nomatch h), hd.same enc_sg s2, hsd.same enc_sg s2, ⟨upd_same, .nil⟩, dn, (fun h => nomatch h)⟩
    rintro σ H2 ⟨ll, rfl, k2⟩
    have room : ∀ {m : Nat}, m ≤ 100000 → m ≤ sizeLine := fun h => Nat.le_trans h (by decide)
    have roomL : ∀ {m : Nat}, m ≤ 100000 → m < sizeLine := fun h => Nat.lt_of_le_of_lt h (by decide)
    refine ⟨fun σ H3 => ∃ n d sd rs l5, σ = [some x, some (.int L), some (.ref d), some (.ref sd), some (.ref ll), l5] ∧ Lw P w K C H H3 d sd ll rs (n + 1) (n + 1) ∧ EndsN C n ∧ (tot C n : Int) ≤ L, ?_, ?_⟩
    · refine while_by (fun σ H' => ∃ n d sd rs l5, σ = [some x, some (.int L), some (.ref d), some (.ref sd), some (.ref ll), l5] ∧ Lw P w K C H H' d sd ll rs n n ∧ (∀ m, m < n → wonN C m = false ∧ (m + 1 < n → lvl C (m + 1) ≠ [])) ∧ (tot C n : Int) ≤ L ∧ (n : Int) ≤ L) (fun _ H' => 3000 - lenU H' ll)
        ⟨0, d, sd, [], none, rfl, k2, fun m h => absurd h (Nat.not_lt_zero m), (by show ((1 : Nat) : Int) ≤ L; omega), by omega⟩ ?_ ?_
      · rintro σ H5 ⟨n, d, sd, rs, l5, rfl, k5, pre, tl, nL⟩
        have lle := lvl_len_le C n
        refine ⟨_, rfl, d, Sg, eSg, _, rfl, k5.ed.r, enc_sg, room (by rw [vW_len]; omega), ?_⟩
        by_cases e0 : lvl C n = []
        · rw [e0]
          refine iteF ?_
          cases n with
          | zero => cases e0
          | succ n =>
            refine ⟨n, d, sd, rs, l5, rfl, k5, ⟨fun m hm => ⟨(pre m (by omega)).1, (pre m (by omega)).2 (by omega)⟩, .inr e0⟩, ?_⟩
            rw [tot_succ, e0] at tl
            exact tl
        have ne0 : (!(vW (lvl C n)).isEmpty) = true := by
          cases e : lvl C n with
          | nil => exact absurd e e0
          | cons _ _ => rfl
        rw [ne0]
        have pren : Pre C n := fun m hm => ⟨(pre m hm).1, by
          by_cases z : m + 1 < n
          · exact (pre m hm).2 z
          · obtain rfl : n = m + 1 := by omega
            exact e0⟩
        have lrs : rs.length = n := by
          have := Paired.length k5.el.2
          rw [List.length_map, List.length_range] at this
          exact this
        refine iteT ?_
        refine ⟨fun σ H6 => σ = [some x, some (.int L), some (.ref d), some (.ref sd), some (.ref ll), l5] ∧ Lw P w K C H H6 d sd ll (rs ++ [d]) n (n + 1) ∧ lenU H6 ll = n + 1, ?_, ?_⟩
        · refine ⟨_, rfl, .inl ⟨rfl, _, SqL.of k5.el.1⟩, _, rfl, ll, _, _, rfl, rfl, k5.el.1, roomL (by rw [List.length_map, lrs]; omega), rfl, ?_, ?_⟩
          · have ext : ∀ {a l}, ED P w K eSg H5 a l → ED P w K eSg (upd H5 ll (.lst (rs.map V.ref ++ [V.ref d]))) a l := fun {a l} h => ed_upd h k5.el.1 (fun _ z => nomatch z) (fun _ _ z => nomatch z) (fun z => by
              obtain ⟨φ, hφ⟩ := h.mut
              rw [z, k5.el.1] at hφ
              cases hφ)
            refine ⟨same_new k5.sm k5.nll, k5.nd, k5.nsd, k5.nll, fun r hr => ?_, ext k5.ed, ext k5.es, ⟨?_, ?_⟩, k5.ne, fun hm => ?_⟩
            · rcases List.mem_append.mp hr with h | h
              · exact k5.nrs r h
              · rw [List.mem_singleton.mp h]
                exact k5.nd
            · rw [upd_same, List.map_append]
              rfl
            · rw [range_snoc]
              exact Paired.snoc (Paired.mapP k5.el.2 fun _ _ e => ext e) (ext k5.ed)
            · rcases List.mem_append.mp hm with h | h
              · exact k5.nes h
              · exact k5.ne (List.mem_singleton.mp h).symm
          · unfold lenU
            rw [upd_same]
            show (rs.map V.ref ++ [V.ref d]).length = n + 1
            rw [List.length_append, List.length_map, lrs]
            rfl
        rintro σ H6 ⟨rfl, k6, m6⟩
        refine ⟨fun σ H7 => σ = [some x, some (.int L), some (.ref d), some (.ref sd), some (.ref ll), l5] ∧ Lw P w K C H H7 d sd ll (rs ++ [d]) n (n + 1) ∧ lenU H7 ll = n + 1 ∧ wonN C n = false, ?_, ?_⟩
        · refine ⟨_, rfl, d, _, rfl, k6.ed, roomL (by rw [vW_len]; omega), fun H7 s7 => ⟨_, rfl, ?_⟩⟩
          have k7 := k6.same s7
          rw [vW_keys]
          show if wonN C n = true then _ else _
          cases hw : wonN C n with
          | true =>
            refine iteT ⟨_, rfl, q n H7 ll (rs ++ [d]) ⟨pren, .inl hw⟩ tl k7.sm k7.nll k7.nrs k7.el⟩
          | false =>
            refine iteF ⟨rfl, k7, ?_, rfl⟩
            unfold lenU at m6 ⊢
            rw [k7.el.1]
            rw [k6.el.1] at m6
            exact m6
        rintro σ H7 ⟨rfl, k7, m7, hw⟩
        refine ⟨fun σ H8 => ∃ r, σ = [some x, some (.int L), some (.ref r), some (.ref sd), some (.ref ll), l5] ∧ Lw P w K C H H8 d sd ll (rs ++ [d]) n (n + 1) ∧ lenU H8 ll = n + 1 ∧ ED P w K eSg H8 r (vW (lvl C (n + 1))) ∧ H r = none ∧ r ≠ sd, ?_, ?_⟩
        · refine ⟨_, rfl, _, rfl, _, rfl, x, C, d, sd, lvl C n, seenN C n, n, rfl, hx.go k7.sm, hC, k7.ed, k7.es, k7.ne, lvl_nodup C n, lvl_ok hC n, by omega, by omega, fun H8 r s8 nr hr => ⟨r, rfl, k7.same s8, ?_, hr, k7.sm.free nr, ?_⟩⟩
          · unfold lenU at m7 ⊢
            rw [(k7.same s8).el.1]
            rw [k7.el.1] at m7
            exact m7
          · intro z
            obtain ⟨φ, hφ⟩ := k7.es.mut
            rw [z, hφ] at nr
            cases nr
        rintro σ H8 ⟨r, rfl, k8, m8, hr8, nr, rsd⟩
        have lns := level_len hC (ok := okS (seenN C n)) (lvl C n)
        rw [← lvl_succ] at lns
        have tls : (seenN C n).length = tot C n := rfl
        refine ⟨fun σ H9 => σ = [some x, some (.int L), some (.ref r), some (.ref sd), some (.ref ll), l5] ∧ H9 = H8 ∧ (tot C (n + 1) : Int) ≤ L, ?_, ?_⟩
        · refine ⟨_, rfl, sd, Sg, eSg, _, rfl, k8.es.r, enc_sg, room (by unfold vT; rw [List.length_map]; omega), _, rfl, r, Sg, eSg, _, rfl, hr8.r, enc_sg, room (by rw [vW_len]; omega), _, _, rfl, rfl, _, rfl, _, _, rfl, rfl, _, rfl, ?_⟩
          have lt : ((vT (seenN C n)).length : Int) + ((vW (lvl C (n + 1))).length : Int) = (tot C (n + 1) : Int) := by
            rw [vW_len, tot_succ]
            unfold vT tot
            rw [List.length_map]
            omega
          rw [lt]
          by_cases z : L < (tot C (n + 1) : Int)
          · rw [decide_eq_true z]
            refine iteT (qE (n + 1) _ (fun m hm => ?_) z k8.sm)
            by_cases y : m < n
            · exact pren m y
            · obtain rfl : m = n := by omega
              refine ⟨hw, fun e => ?_⟩
              rw [tot_succ, e] at z
              have : (([] : Lv).length : Int) = 0 := rfl
              omega
          · rw [decide_eq_false z]
            exact iteF ⟨rfl, rfl, by omega⟩
        rintro σ H9 ⟨rfl, rfl, tl1⟩
        obtain ⟨xr, hxr, kr⟩ := id hr8
        refine ⟨r, _, hxr, trivial, fun od => ?_⟩
        refine ⟨_, rfl, r, od, xr, rfl, upd_same, ?_⟩
        have lx : xr.length = (lvl C (n + 1)).length := by
          have := Paired.length kr
          rw [vW_len] at this
          exact this
        have tb : TStay K H9 (upd H9 r (.frz od (NdO P w r xr))) := ts_upd hxr (fun _ z => nomatch z) (fun _ _ z => nomatch z)
        refine for_it walk_nkeys (fun i σ H10 => (∃ l5, σ = [some x, some (.int L), some (.ref r), some (.ref sd), some (.ref ll), l5]) ∧ Keep sd (upd H9 r (.frz od (NdO P w r xr))) H10 ∧ ED P w K eSg H10 sd (vT (seenN C n ++ (keysA (lvl C (n + 1))).take i))) ⟨⟨_, rfl⟩, (fun _ _ _ e => e), by rw [List.take_zero, List.append_nil]; exact ed_upd k8.es hxr (fun _ z => nomatch z) (fun _ _ z => nomatch z) rsd.symm⟩ (fun i σ H10 _ h => h.2.1 _ _ rsd upd_same) ?_ ?_
        · rintro i y σ H10 H10' hi ⟨⟨l5, rfl⟩, kp, es⟩ ⟨rfl, e, he, rfl⟩
          obtain ⟨p, hp, rp⟩ := kr.at he
          obtain ⟨qq, hq, rfl⟩ : ∃ qq : Sg × Str, (lvl C (n + 1))[i]? = some qq ∧ p = (qq.1, V.str qq.2) := by
            unfold vW at hp
            rw [List.getElem?_map] at hp
            obtain ⟨qq, h1, h2⟩ := Option.map_eq_some_iff.mp hp
            exact ⟨qq, h1, h2.symm⟩
          have hk : (keysA (lvl C (n + 1)))[i]? = some qq.1 := by
            unfold keysA
            rw [List.getElem?_map, hq]
            rfl
          have notin : qq.1 ∉ seenN C n ++ (keysA (lvl C (n + 1))).take i := fun hm => by
            rcases List.mem_append.mp hm with h | h
            · exact lvl_new C n qq.1 (List.mem_of_getElem? hk) h
            · obtain ⟨j, hj, e2⟩ := List.getElem_of_mem h
              rw [List.length_take] at hj
              rw [List.getElem_take] at e2
              have e3 : (keysA (lvl C (n + 1)))[j]? = some qq.1 := by rw [List.getElem?_eq_getElem (by omega), e2]
              have nd := lvl_nodup C (n + 1)
              have := (List.getElem?_inj (by omega) nd).mp (e3.trans hk.symm)
              omega
          obtain ⟨φ, hφ⟩ := k8.es.mut
          have tk := ts_keep (K := K) (φ := φ) (by rw [upd_ne rsd.symm]; exact hφ) kp
          obtain ⟨φ2, p1, p2⟩ := es.put enc_sg (rp_ts (tb.trans tk) rp (enc_sg.tO _)) (by
            unfold vT
            rw [List.length_map, List.length_append]
            have l2 := List.length_take_le' i (keysA (lvl C (n + 1)))
            have l3 : (keysA (lvl C (n + 1))).length = (lvl C (n + 1)).length := List.length_map _
            exact roomL (by omega)) (.bl true)
          refine ⟨_, rfl, _, rfl, _, p1, ⟨_, rfl⟩, fun b o nb eb => ?_, ?_⟩
          · rw [upd_ne nb]
            exact kp b o nb eb
          · rw [vT_put notin] at p2
            rw [List.take_succ, hk, ← List.append_assoc]
            exact p2
        · rintro σ H10 ⟨⟨l5, rfl⟩, kp, es⟩
          have hr10 := kp _ _ rsd upd_same
          have l3 : xr.length = (keysA (lvl C (n + 1))).length := by rw [lx]; exact (List.length_map _).symm
          rw [l3, List.take_length, ← seen_succ] at es
          refine ⟨hr10, ?_⟩
          have keep : Keep sd H9 (upd H10 r (NdO P w r xr)) := fun b o nb eb => by
            by_cases z : b = r
            · rw [z, upd_same, ← hxr, ← z, eb]
            · rw [upd_ne z]
              exact kp b o nb (by rw [upd_ne z]; exact eb)
          obtain ⟨φ, hφ⟩ := k8.es.mut
          have tk := ts_keep (K := K) hφ keep
          have edk : ∀ {a l}, a ≠ sd → ED P w K eSg H9 a l → ED P w K eSg (upd H10 r (NdO P w r xr)) a l := fun {a l} na h => h.ts enc_sg tk fun o eb => keep _ _ na eb
          have nll : ll ≠ sd := fun z => by
            have e1 := k8.el.1
            rw [z, hφ] at e1
            cases e1
          refine ⟨⟨n + 1, r, sd, rs ++ [d], l5, rfl, ⟨fun b o eb => ?_, nr, k8.nsd, k8.nll, k8.nrs, edk rsd hr8, ?_, ⟨keep _ _ nll k8.el.1, ?_⟩, rsd, k8.nes⟩, fun m hm => ⟨?_, fun hm2 => ?_⟩, tl1, ?_⟩, ?_⟩
          · exact keep b o (fun z => by rw [z, k8.nsd] at eb; cases eb) (k8.sm b o eb)
          · exact ed_upd es hr10 (fun _ z => nomatch z) (fun _ _ z => by cases z) rsd.symm
          · have : ∀ {rs : List Addr} {lvs : List Lv}, sd ∉ rs → Paired (fun (r : Addr) (lv : Lv) => ED P w K eSg H9 r (vW lv)) rs lvs → Paired (fun (r2 : Addr) (lv : Lv) => ED P w K eSg (upd H10 r (NdO P w r xr)) r2 (vW lv)) rs lvs := fun {rs lvs} nm h => by
              induction h with
              | nil => exact .nil
              | cons h1 _ ih => exact .cons (edk (fun z => nm (by rw [z]; exact .head _)) h1) (ih fun z => nm (.tail _ z))
            exact this k8.nes k8.el.2
          · by_cases z : m < n
            · exact (pren m z).1
            · obtain rfl : m = n := by omega
              exact hw
          · exact (pren m (by omega)).2
          · have := pre_tot pren
            omega
          · have e5 : lenU H5 ll = n := by
              unfold lenU
              rw [k5.el.1]
              show (rs.map V.ref).length = n
              rw [List.length_map, lrs]
            have e6 : lenU (upd H10 r (NdO P w r xr)) ll = n + 1 := by
              unfold lenU at m8 ⊢
              rw [keep _ _ nll k8.el.1]
              rw [k8.el.1] at m8
              exact m8
            rw [e5, e6]
            omega
      · rintro σ H Q Q' h ⟨x, h1, a, α, enc, l, h2, h3, h4, h5, h6⟩
        exact ⟨x, h1, a, α, enc, l, h2, h3, h4, h5, h _ _ h6⟩
    rintro σ H3 ⟨n, d, sd, rs, l5, rfl, k3, he, tl⟩
    exact ⟨_, rfl, q n H3 ll rs he tl k3.sm k3.nll k3.nrs k3.el⟩
end
end My
/-! ### min and sorted of texts -/
namespace My
open PySem PySem.Spec PyProof.Rows L2 PySem.Builtin.Str
theorem argBest_wlt (num : Nat → Str) : ∀ k, argBest (fun i j => wlt (num i) (num j)) k ≤ k ∧ ∀ j, j ≤ k → wlt (num j) (num (argBest (fun i j => wlt (num i) (num j)) k)) = false
  | 0 => ⟨Nat.le_refl _, fun j hj => by
    obtain rfl : j = 0 := by omega
    exact wlt_irrefl _⟩
  | k + 1 => by
    obtain ⟨h1, h2⟩ := argBest_wlt num k
    simp only [argBest]
    by_cases hc : wlt (num (k + 1)) (num (argBest (fun i j => wlt (num i) (num j)) k)) = true
    · rw [if_pos hc]
      refine ⟨Nat.le_refl _, fun j hj => ?_⟩
      by_cases e : j = k + 1
      · rw [e]
        exact wlt_irrefl _
      · rcases SrtO.bcase (wlt (num j) (num (k + 1))) with q | q
        · have := wlt_trans q hc
          rw [h2 j (by omega)] at this
          cases this
        · exact q
    · rw [if_neg hc]
      refine ⟨by omega, fun j hj => ?_⟩
      by_cases e : j = k + 1
      · rw [e]
        exact eq_false_of_ne_true hc
      · exact h2 j (by omega)
def rMinS (K : PySem.W.Frag) : List V → Hp → VK → Prop := fun vs H Q => ∃ (a : Addr) (ws : List Str), vs = [V.ref a] ∧ SqL K H a (ws.map V.str) ∧ 0 < ws.length ∧ ∀ m, m ∈ ws → (∀ y ∈ ws, wlt y m = false) → Q (.str m) H
def rSortS (K : PySem.W.Frag) : List V → Hp → VK → Prop := fun vs H Q => ∃ (a : Addr) (ws : List Str), vs = [V.ref a] ∧ SqL K H a (ws.map V.str) ∧ ∀ (ys : List Str) (p : Addr), ys.Perm ws → ys.Pairwise (fun a b => wlt b a = false) → H p = none → Q (.ref p) (upd H p (.lst (ys.map V.str)))
theorem vals_txts : ∀ {ws : List Str} {us : List Value}, Vals (ws.map V.str) us → us.length = ws.length ∧ ∀ (i : Nat) (v : Value), us[i]? = some v → ∃ (x : Str) (t : Tok), ws[i]? = some x ∧ v = Value.str x t
  | [], _, h => by
    cases h
    exact ⟨rfl, fun i v e => by simp at e⟩
  | w :: ws, _, h => by
    cases h with
    | cons h1 h2 =>
      obtain ⟨t, rfl⟩ := h1
      obtain ⟨l, e⟩ := vals_txts h2
      refine ⟨by rw [List.length_cons, List.length_cons, l], fun i v ev => ?_⟩
      cases i with
      | zero => cases ev; exact ⟨w, t, rfl, rfl⟩
      | succ i => exact e i v (by simpa using ev)
section
variable {X : Cx}
theorem cr_minS (hc : X.calm = true) : CallR X (.builtin "min") (rMinS X.K) := by
  intro pins s σ H vs us Q I r h
  obtain ⟨a, ws, rfl, hs, hne, q⟩ := h
  obtain ⟨its, rv, hl, hz⟩ := I.list hs
  rw [Vals.ref1 r]
  obtain ⟨lv, ev⟩ := vals_txts rv
  have there : ∃ o, s.heap.get? a = some o := by
    obtain ⟨o, ho, _⟩ := hl.isList
    exact ⟨o, ho⟩
  obtain ⟨o, ho⟩ := there
  have lt := Heap.lt_size ho
  refine call_min_walk (wpAny_pyIter_list hl.isList ?_)
  refine ⟨_, _, _, _, _, _, fun i j => wlt (ws.getD i "") (ws.getD j ""), rfl, Walks.list (A := X.A.in1) (I.ok.hd hc) s.heap.objs.size a (Nat.ne_of_lt lt) its.toArray, ⟨⟨_, Heap.get?_push_size _ rfl, rfl, rfl⟩, ?_⟩, fun b hb => ?_, ?_, ?_, ?_⟩
  · exact hl.isList.at fun o e => Heap.get?_push_of_some _ e
  · show b < (s.heap.push _).objs.size
    rw [Heap.size_push]
    rcases List.mem_cons.mp hb with e | e
    · rw [e]; exact Nat.lt_succ_self _
    · rw [List.mem_singleton.mp e]
      exact Nat.lt_succ_of_lt lt
  · rw [List.size_toArray, lv]
    exact hne
  · intro i j vi vj s' Q' E' hi hj hq
    rw [List.getElem?_toArray] at hi hj
    obtain ⟨x, t, e1, rfl⟩ := ev i vi hi
    obtain ⟨y, u, e2, rfl⟩ := ev j vj hj
    have hq2 : Q' (.bool (wlt (ws.getD i "") (ws.getD j ""))) s' := hq
    rw [List.getD_eq_getElem?_getD, e1, List.getD_eq_getElem?_getD, e2, Option.getD_some, Option.getD_some] at hq2
    exact PyProof.Rows.lt_str hq2
  · intro v h' tk hP hk
    rw [List.getElem?_toArray, List.size_toArray] at hP
    obtain ⟨x, t, e1, rfl⟩ := ev _ v hP
    obtain ⟨b1, b2⟩ := argBest_wlt (fun i => ws.getD i "") (its.length - 1)
    have ex : ws.getD (argBest (fun i j => wlt (ws.getD i "") (ws.getD j "")) (its.length - 1)) "" = x := by
      rw [List.getD_eq_getElem?_getD, e1]
      rfl
    refine ⟨.str x, H, I.kept (t' := tk) fun b o e => hk b o (fun m => ?_) (Heap.get?_push_of_some _ e), ⟨t, rfl⟩, q x (List.mem_of_getElem? e1) fun y hy => ?_⟩
    · rw [List.mem_singleton.mp m] at e
      exact absurd (Heap.lt_size e) (Nat.lt_irrefl _)
    · obtain ⟨j, hj, rfl⟩ := List.getElem_of_mem hy
      have := b2 j (by omega)
      rw [ex, List.getD_eq_getElem?_getD, List.getElem?_eq_getElem hj] at this
      exact this
theorem cr_sortS (hu : X.A.units + 16 < cLine) : CallR X (.builtin "sorted") (rSortS X.K) := by
  intro pins s σ H vs us Q I r h
  obtain ⟨a, ws, rfl, hs, q⟩ := h
  obtain ⟨its, rv, hl, hz⟩ := I.list hs
  rw [Vals.ref1 r]
  have hE := each_vals rv
  rw [List.length_map] at hz
  obtain ⟨lv, _⟩ := vals_txts rv
  refine PySem.W.sorted_data (R := fun u (z : Str) => RelV (V.str z) u) (enc := fun z : Str => PyData.str z) hl.isList hE (hE.mono fun u z q => ?_) (PySem.W.AllAlike.of fun z z' => rfl) (PySem.W.Sortable.others fun z => ⟨(fun h => nomatch h), (fun _ h => nomatch h)⟩) hz (fun z _ => ?_) fun out hlen ho => ?_
  · obtain ⟨t, rfl⟩ := q
    exact ⟨_, .str _ _⟩
  · show X.A.units + 2 + 0 < cLine
    omega
  · obtain ⟨e, he⟩ := PyProof.Rows.sortedAll_at s.heap its out.toArray
    have ov := vals_each ho
    have perm : (ws.mergeSort (PySem.W.dataLe false fun z : Str => PyData.str z)).Perm ws := List.mergeSort_perm _ _
    have srt := PySem.W.sort_pairwise (le_total (enc := fun z : Str => PyData.str z)) ws
    refine ⟨.ref (s.heap.objs.size + 1), upd H (s.heap.objs.size + 1) (.lst ((ws.mergeSort (PySem.W.dataLe false fun z : Str => PyData.str z)).map V.str)), I.laid (t' := s.toks) (fun b o e => PyProof.Rows.sortedAll_old e) (Nat.le_succ _) ⟨?_, out, e, ov, he⟩, rfl, q _ _ perm (srt.imp fun {x y} h => ?_) (I.hok.fresh (Nat.le_succ _))⟩
    · rw [List.length_map, perm.length_eq]
      exact hz
    · rw [PySem.W.dataLe_str (fun z : Str => z)] at h
      exact decide_eq_false (List.not_lt.mpr (of_decide_eq_true h))
end
end My
/-! ### slices and sums of tuples -/
namespace My
open PySem PySem.Spec PyProof.Rows L2
theorem cut_whole (xs : List V) {lo hi : Option Int} (h : HT.sIx xs.length 0 lo = 0 ∧ HT.sIx xs.length xs.length hi = xs.length) : cutV xs lo hi = xs := by
  unfold cutV
  rw [h.1, h.2, List.drop_zero]
  exact List.take_of_length_le (by omega)
theorem sl_any {K : PySem.W.Frag} {a : Addr} {xs : List V} {lo hi : Option Int} {H : Hp} {Q : VK} (hS : SqT K H a xs) (q : ∀ r H', Same H H' → SqT K H' r (cutV xs lo hi) → Q (.ref r) H') : rSlA K (.ref a) lo hi H Q :=
  ⟨a, xs, rfl, hS, fun w => q a H (Same.refl H) (by rw [cut_whole xs w]; exact hS), fun _ p hp => q p _ (same_upd hp) (SqT.of upd_same)⟩
theorem cat_any {K : PySem.W.Frag} {a b : Addr} {xs ys : List V} {H : Hp} {Q : VK} (ha : SqT K H a xs) (hb : SqT K H b ys) (hz : xs.length + ys.length ≤ sizeLine) (q : ∀ r H', Same H H' → SqT K H' r (xs ++ ys) → Q (.ref r) H') : rCatA K (.ref a) (.ref b) H Q :=
  ⟨a, b, xs, ys, rfl, rfl, ha, hb, hz, fun e => q b H (Same.refl H) (by rw [e]; exact hb), fun _ e => q a H (Same.refl H) (by rw [e, List.append_nil]; exact ha), fun _ _ p hp => q p _ (same_upd hp) (SqT.of upd_same)⟩
theorem sl_anyN {K : PySem.W.Frag} {a : Addr} {xs : List V} {lo : Option Int} {σ : L2.St} {H : Hp} {Q : VK} (hS : SqT K H a xs) (q : ∀ r H', Same H H' → SqT K H' r (cutV xs lo none) → Q (.ref r) H') : tNoPart σ H (fun u H3 => rSlA K (.ref a) lo u H3 Q) := sl_any (lo := lo) (hi := none) hS q
end My
/-! ### the contest, its arguments -/
namespace My
open PySem PySem.Spec PyProof.Rows L2 PySem.Builtin.Str
abbrev sNeedMatch : Stmt := topS 38
abbrev sNeedRule : Stmt := topS 40
abbrev sNeedContest : Stmt := topS 39
abbrev sContestOf : Stmt := topS 51
abbrev sNeedLimit : Stmt := topS 41
theorem scNeedMatch : FnScope ["one", "other"] ["one", "other"] (defScope sNeedMatch) := ⟨rfl, rfl, rfl, by decide +kernel, rfl, by decide +kernel, by decide +kernel⟩
theorem scNeedRule : FnScope ["thing", "letters"] ["thing", "letters"] (defScope sNeedRule) := ⟨rfl, rfl, rfl, by decide +kernel, rfl, by decide +kernel, by decide +kernel⟩
theorem scNeedContest : FnScope ["one", "other", "rule", "first", "second"] ["one", "other", "rule"] (defScope sNeedContest) := ⟨rfl, rfl, rfl, by decide +kernel, rfl, by decide +kernel, by decide +kernel⟩
theorem scContestOf : FnScope ["one", "other", "rule", "first", "second", "gains", "losses", "over", "below"] ["one", "other", "rule"] (defScope sContestOf) := ⟨rfl, rfl, rfl, by decide +kernel, rfl, by decide +kernel, by decide +kernel⟩
theorem scNeedLimit : FnScope ["thing", "most"] ["thing", "most"] (defScope sNeedLimit) := ⟨rfl, rfl, rfl, by decide +kernel, rfl, by decide +kernel, by decide +kernel⟩
structure CoTxt (K : PySem.W.Frag) (mg : Str → Option Value) (m1 m2 m3 m4 m5 m6 m7 m8 m9 m10 m11 m12 : Addr) (n1 n2 n3 n4 n5 n6 n7 n8 n9 n10 n11 n12 : FuncData) (t1 t2 t3 t4 t5 : Tok) (CM a1 a3 : Addr) (b1 b3 : FuncData) (r1 r2 r3 r4 r5 p1 : Addr) (v1 v2 v3 v4 v5 q1 : FuncData) (CX CR CI : Addr) : Prop where
  frm : FrmTxt K mg m1 m2 m3 m4 m5 m6 m7 m8 m9 m10 m11 m12 n1 n2 n3 n4 n5 n6 n7 n8 n9 n10 n11 n12 t1 t2 t3 t4 t5 CM a1 a3 b1 b3
  pays : SprTxt K mg p1 p1 q1 q1
  noMatch : ExcF K mg "NoMatch" CX
  noRule : ExcF K mg "NoRule" CR
  noLimit : ExcF K mg "NoLimit" CI
  FNeedMatch : Fun K "need_match" "need_match" sNeedMatch r1 v1
  bNeedMatch : Binds K v1 ["one", "other"] []
  gNeedMatch : mg "need_match" = some (.ref r1)
  FNeedRule : Fun K "need_rule" "need_rule" sNeedRule r2 v2
  bNeedRule : Binds K v2 ["thing", "letters"] []
  gNeedRule : mg "need_rule" = some (.ref r2)
  FNeedContest : Fun K "need_contest" "need_contest" sNeedContest r3 v3
  bNeedContest : Binds K v3 ["one", "other", "rule"] []
  gNeedContest : mg "need_contest" = some (.ref r3)
  FContestOf : Fun K "contest_of" "contest_of" sContestOf r4 v4
  bContestOf : Binds K v4 ["one", "other", "rule"] []
  gContestOf : mg "contest_of" = some (.ref r4)
  FNeedLimit : Fun K "need_limit" "need_limit" sNeedLimit r5 v5
  bNeedLimit : Binds K v5 ["thing", "most"] []
  gNeedLimit : mg "need_limit" = some (.ref r5)
theorem strOk_of {z : Str} (h : lettersL z.cps.toList = true) : PyData.strOk z = true := by
  have h2 := letters_small h
  unfold PyData.strOk
  rw [Array.all_eq_true]
  intro i hi
  have := h2 z.cps[i] (by rw [Array.mem_toList_iff]; exact Array.getElem_mem hi)
  exact decide_eq_true (Nat.lt_of_le_of_lt this (by decide))
theorem rul_form {d : PyData} (h : rulD d = true) : ∃ z rows, d = .tuple [.str z, .tuple (rowsD rows)] ∧ lettersL z.cps.toList = true ∧ 1 ≤ rows.length ∧ rows.length ≤ 4 ∧ ∀ r ∈ rows, RowOk z.length rows.length r := by
  unfold rulD at h
  split at h
  · rename_i l ss
    rw [Bool.and_eq_true, Bool.and_eq_true, List.all_eq_true] at h
    obtain ⟨h1, h2, h3⟩ := h
    cases l with
    | str z =>
      have h4 := tabD_tup h2
      have row : ∀ d ∈ ss, ∃ r : List (Option Int), d = .tuple (r.map stD) ∧ RowOk z.length ss.length r := fun d hd => by
        have a1 : tupD (z.length : Int) (z.length : Int) d = true := h4.2 d hd
        have a2 := h3 d hd
        cases d with
        | tuple es =>
          unfold tupD at a1
          rw [Bool.and_eq_true, decide_eq_true_eq, decide_eq_true_eq] at a1
          unfold wayD at a2
          rw [Bool.and_eq_true, List.all_eq_true, decide_eq_true_eq] at a2
          have lift : ∃ r : List (Option Int), es = r.map stD := by
            obtain ⟨r, e, _⟩ := lift_map (f := stD) (P := fun _ => True) es fun e he => by
              by_cases z : someD e = true
              · have := a2.2 e (List.mem_filter.mpr ⟨he, z⟩)
                obtain ⟨i, rfl⟩ := betD_int this
                exact ⟨some i, rfl, trivial⟩
              · cases e with
                | none => exact ⟨none, rfl, trivial⟩
                | _ => exact absurd rfl z
            exact ⟨r, e⟩
          obtain ⟨r, rfl⟩ := lift
          refine ⟨r, rfl, ?_, ?_, fun i hi => ?_⟩
          · rw [List.length_map] at a1
            omega
          · obtain ⟨e, he⟩ := List.exists_mem_of_length_pos (show 0 < ((r.map stD).filter someD).length by omega)
            obtain ⟨h5, h6⟩ := List.mem_filter.mp he
            obtain ⟨x, hx, rfl⟩ := List.mem_map.mp h5
            exact ⟨x, hx, fun z => by rw [z] at h6; cases h6⟩
          · have := a2.2 (.int i) (List.mem_filter.mpr ⟨List.mem_map.mpr ⟨some i, hi, rfl⟩, rfl⟩)
            unfold betD at this
            rw [Bool.and_eq_true, decide_eq_true_eq, decide_eq_true_eq] at this
            omega
        | _ => exact absurd a1 (by simp [tupD])
      obtain ⟨rows, e, hr⟩ := lift_map (f := fun r : List (Option Int) => PyData.tuple (r.map stD)) ss row
      have e2 : ss = rowsD rows := e
      have ls : ss.length = rows.length := by rw [e2]; exact List.length_map _
      have h5 := h4.1
      unfold tupD at h5
      rw [Bool.and_eq_true, decide_eq_true_eq, decide_eq_true_eq] at h5
      refine ⟨z, rows, by rw [e2], h1, by omega, by omega, fun r hr2 => ?_⟩
      rw [← ls]
      exact hr r hr2
    | _ => exact absurd h1 (by simp [ltrD])
  · cases h
def ruleIs (d : PyData) (z : Str) : Bool := rulD d && (match d with | .tuple (.str z' :: _) => decide (z' = z) | _ => false)
/-- what becomes of three arguments: an error's class, or a contest -/
def ConR (CM CX CR : Addr) (d1 d2 d3 : PyData) (er : Addr → Prop) (ok : Ct → Prop) : Prop :=
  (mchD d1 = false ∧ plnD d1 = false ∧ er CM) ∨ ∃ M, Frame d1 M ∧ ((mchD d2 = false ∧ plnD d2 = false ∧ er CM) ∨ ∃ N, Frame d2 N ∧
    ((¬ (M.b = N.b ∧ M.z = N.z) ∧ er CX) ∨ (M.b = N.b ∧ M.z = N.z ∧ ((ruleIs d3 M.z = false ∧ er CR) ∨ ∃ R, d3 = .tuple [.str M.z, .tuple (rowsD R)] ∧ rulD d3 = true ∧ Cok ⟨M, N, R⟩ ∧ ok ⟨M, N, R⟩))))
theorem ConR.mono {CM CX CR : Addr} {d1 d2 d3 : PyData} {er er' : Addr → Prop} {ok ok' : Ct → Prop} (h : ConR CM CX CR d1 d2 d3 er ok) (e : ∀ c, er c → er' c) (o : ∀ C, Cok C → ok C → ok' C) : ConR CM CX CR d1 d2 d3 er' ok' := by
  rcases h with ⟨a, b, c⟩ | ⟨M, hM, h⟩
  · exact .inl ⟨a, b, e _ c⟩
  · refine .inr ⟨M, hM, ?_⟩
    rcases h with ⟨a, b, c⟩ | ⟨N, hN, h⟩
    · exact .inl ⟨a, b, e _ c⟩
    · refine .inr ⟨N, hN, ?_⟩
      rcases h with ⟨a, c⟩ | ⟨a, b, h⟩
      · exact .inl ⟨a, e _ c⟩
      · refine .inr ⟨a, b, ?_⟩
        rcases h with ⟨a, c⟩ | ⟨R, r1, r2, r3, r4⟩
        · exact .inl ⟨a, e _ c⟩
        · exact .inr ⟨R, r1, r2, r3, o _ r3 r4⟩
def spNeedMatch (K : PySem.W.Frag) (CX : Addr) : Sp := fun vs H Q E => ∃ (x y : V) (M N : Mc), vs = [x, y] ∧ Rp K H x (eM M) ∧ Rp K H y (eM N) ∧ Mok M ∧ Mok N ∧ ((¬ (M.b = N.b ∧ M.z = N.z) ∧ ∀ H', Same H H' → E (.ref CX) none H') ∨ (M.b = N.b ∧ M.z = N.z ∧ ∀ H', Same H H' → Q .non H'))
def spNeedRule (K : PySem.W.Frag) (CR : Addr) : Sp := fun vs H Q E => ∃ (x : V) (d : PyData) (z : Str), vs = [x, .str z] ∧ Rp K H x d ∧ ((ruleIs d z = false ∧ ∀ H', Same H H' → E (.ref CR) none H') ∨ (ruleIs d z = true ∧ ∀ H', Same H H' → Q .non H'))
def spNeedContest (K : PySem.W.Frag) (CM CX CR : Addr) : Sp := fun vs H Q E => ∃ (x y r : V) (d1 d2 d3 : PyData), vs = [x, y, r] ∧ Rp K H x d1 ∧ Rp K H y d2 ∧ Rp K H r d3 ∧
  ConR CM CX CR d1 d2 d3 (fun C => ∀ H', Same H H' → E (.ref C) none H') fun C => ∀ H' t u w, Same H H' → H' t = some (.tup [u, w]) → H t = none → Rp K H' u (eM C.M) → Rp K H' w (eM C.N) → Q (.ref t) H'
def spContestOf (K : PySem.W.Frag) (CM CX CR : Addr) : Sp := fun vs H Q E => ∃ (x y r : V) (d1 d2 d3 : PyData), vs = [x, y, r] ∧ Rp K H x d1 ∧ Rp K H y d2 ∧ Rp K H r d3 ∧
  ConR CM CX CR d1 d2 d3 (fun C => ∀ H', Same H H' → E (.ref C) none H') fun C => ∀ H' t, Same H H' → H t = none → Rp K H' (.ref t) (eCt C) → Q (.ref t) H'
def spNeedLimit (K : PySem.W.Frag) (CI : Addr) : Sp := fun vs H Q E => ∃ x d, vs = [x, .int 2000] ∧ Rp K H x d ∧ ((betD 1 2000 d = true ∧ Q .non H) ∨ (betD 1 2000 d = false ∧ E (.ref CI) none H))
section
variable {P : Program} {w : World} {K : PySem.W.Frag} {mg : Str → Option Value} {base : Heap} {m1 m2 m3 m4 m5 m6 m7 m8 m9 m10 m11 m12 : Addr} {n1 n2 n3 n4 n5 n6 n7 n8 n9 n10 n11 n12 : FuncData} {t1 t2 t3 t4 t5 : Tok} {CM a1 a3 : Addr} {b1 b3 : FuncData} {r1 r2 r3 r4 r5 p1 : Addr} {v1 v2 v3 v4 v5 q1 : FuncData} {CX CR CI : Addr}
theorem ok_needLimit (T : CoTxt K mg m1 m2 m3 m4 m5 m6 m7 m8 m9 m10 m11 m12 n1 n2 n3 n4 n5 n6 n7 n8 n9 n10 n11 n12 t1 t2 t3 t4 t5 CM a1 a3 b1 b3 r1 r2 r3 r4 r5 p1 v1 v2 v3 v4 v5 q1 CX CR CI) {k : Nat} : FnOk P w K mg base (L2.CX P w) (k + 3) r5 v5 ["thing", "most"] (spNeedLimit K CI) := by
  have GB : FnOk P w K mg base CX0 (k + 2) m2 n2 ["thing", "low", "high"] (spBetween K) := ok_between T.frm.mach.look
  refine T.FNeedLimit.okX scNeedLimit (fun vs H Q E h => ?_) (fun cdv A outer s H vs Q E hr h => ?_)
  · obtain ⟨x, d, rfl, _⟩ := h
    rfl
  · obtain ⟨x, d, rfl, hd, h⟩ := h
    refine ⟨_, (pss_one (ps_if (pt_not (pt_val (pe_call GB hr (by rfl) T.frm.mach.look.gBetween T.frm.mach.look.FBetween.kp T.frm.mach.look.bBetween .nil pass0 (pa_cons (pv 0) (pa_cons pe_int (pa_cons (pv 1) pa_nil)))))) (pss_one (ps_raise rfl (takes_of rfl rfl rfl rfl) (SkE.pmk_own1 PySem.F.excBase_ValueError T.noLimit.q T.noLimit.g T.noLimit.k (raises_own T.noLimit.b T.noLimit.t) (by exact rfl) (pe_joined (.cons pe_str (.cons (pe_fmt (pv 1)) .nil)))))) pss_nil)), ?_⟩
    refine ⟨_, rfl, _, rfl, x, d, 1, 2000, rfl, hd, _, rfl, ?_⟩
    rcases h with ⟨hb, q⟩ | ⟨hb, q⟩
    · rw [hb]
      exact iteF q
    · rw [hb]
      refine iteT ⟨_, rfl, (by show (Str.empty ++ Str.ofString "limit is not an integer from 1 to ").length ≤ sizeLine; decide +kernel), _, rfl, .inr ⟨2000, rfl, by decide +kernel, _, rfl, (by decide +kernel), q⟩⟩
theorem ok_needMatch (T : CoTxt K mg m1 m2 m3 m4 m5 m6 m7 m8 m9 m10 m11 m12 n1 n2 n3 n4 n5 n6 n7 n8 n9 n10 n11 n12 t1 t2 t3 t4 t5 CM a1 a3 b1 b3 r1 r2 r3 r4 r5 p1 v1 v2 v3 v4 v5 q1 CX CR CI) {k : Nat} : FnOk P w K mg base (L2.CX P w) (k + 1) r1 v1 ["one", "other"] (spNeedMatch K CX) := by
  refine T.FNeedMatch.okX scNeedMatch (fun vs H Q E h => ?_) (fun cdv A outer s H vs Q E hr h => ?_)
  · obtain ⟨x, y, M, N, rfl, _⟩ := h
    rfl
  · obtain ⟨x, y, M, N, rfl, hx, hy, hM, hN, h⟩ := h
    have hu : (A.deeper (envOfC "need_match" (defScope sNeedMatch) s.heap.objs.size r1 cdv)).units + 64 < cLine := by have := hr.un; omega
    refine ⟨_, (pss_one (ps_if (pt_cmpR (op_neD hu) (pe_slice sl_tupA (pv 0) po_none (po_some pe_int)) (pe_slice sl_tupA (pv 1) po_none (po_some pe_int)) (nomark _)) (pss_one (ps_raise rfl (takes_of rfl rfl rfl rfl) (SkE.pmk_own1 PySem.F.excBase_ValueError T.noMatch.q T.noMatch.g T.noMatch.k (raises_own T.noMatch.b T.noMatch.t) (by exact rfl) pe_str))) pss_nil)), ?_⟩
    obtain ⟨a, w3, rfl, hS, hC⟩ := hx.three
    obtain ⟨b, w4, rfl, hS2, hC2⟩ := hy.three
    have z1 : M.z.length ≤ sizeLine := Nat.le_trans (ltr_pos hM.ltr).2 (by decide)
    have z2 : N.z.length ≤ sizeLine := Nat.le_trans (ltr_pos hN.ltr).2 (by decide)
    refine ⟨_, rfl, 2, rfl, sl_any (K := K) hS fun t1 H1 s1 ht1 => ⟨_, rfl, 2, rfl, sl_any (K := K) (same_tup s1 hS2) fun t2 H2 s2 ht2 => ?_⟩⟩
    refine ⟨.tuple [.int M.b, .str M.z], .tuple [.int N.b, .str N.z], .tup (same_tup s2 ht1) (.cons (.int _) (.cons (.str _) .nil)), .tup ht2 (.cons (.int _) (.cons (.str _) .nil)), by simp [SeqAt.shaped, PyData.canLay0, PyData.canLayAll0, PyData.depth, PyData.depthAll]; exact strOk_of hM.ltr, by simp [SeqAt.shaped, PyData.canLay0, PyData.canLayAll0, PyData.depth, PyData.depthAll]; exact strOk_of hN.ltr, _, rfl, ?_⟩
    have s12 := s1.trans s2
    have e : PyData.eqv (.tuple [.int M.b, .str M.z]) (.tuple [.int N.b, .str N.z]) = (decide (M.b = N.b) && decide (M.z = N.z)) := by
      rw [Bool.eq_iff_iff]
      simp [PyData.eqv, PyData.eqvAll]
    rw [e]
    rcases h with ⟨z, q⟩ | ⟨z3, z4, q⟩
    · have : (decide (M.b = N.b) && decide (M.z = N.z)) = false := by
        rw [← Bool.decide_and]
        exact decide_eq_false z
      rw [this]
      exact iteT (q H2 s12)
    · rw [decide_eq_true z3, decide_eq_true z4]
      exact iteF (q H2 s12)
theorem ok_needRule (T : CoTxt K mg m1 m2 m3 m4 m5 m6 m7 m8 m9 m10 m11 m12 n1 n2 n3 n4 n5 n6 n7 n8 n9 n10 n11 n12 t1 t2 t3 t4 t5 CM a1 a3 b1 b3 r1 r2 r3 r4 r5 p1 v1 v2 v3 v4 v5 q1 CX CR CI) {mR mW : Addr} {nR nW : FuncData} (T2 : LookTxt K mg m1 m2 m3 m4 mW m7 mR n1 n2 n3 n4 nW n7 nR t1 t2) {k : Nat} : FnOk P w K mg base (L2.CX P w) (k + 5) r2 v2 ["thing", "letters"] (spNeedRule K CR) := by
  have GR : FnOk P w K mg base CX0 (k + 4) mR nR ["thing"] (spRule K) := ok_rule T2
  refine T.FNeedRule.okX scNeedRule (fun vs H Q E h => ?_) (fun cdv A outer s H vs Q E hr h => ?_)
  · obtain ⟨x, d, z, rfl, _⟩ := h
    rfl
  · obtain ⟨x, d, z, rfl, hx, h⟩ := h
    refine ⟨_, (pss_one (ps_if (PW.pt (pw_or (pt_not (pt_val (pe_call GR hr (by rfl) T2.gRule T2.FRule.kp T2.bRule .nil pass0 (pa_cons (pv 0) pa_nil)))) (pw_or1 (pt_cmpR op_ne (pe_ix ix_tup (pv 0) pe_int (fun _ _ => rfl)) (pv 1) (nomark _))))) (pss_one (ps_raise rfl (takes_of rfl rfl rfl rfl) (SkE.pmk_own1 PySem.F.excBase_ValueError T.noRule.q T.noRule.g T.noRule.k (raises_own T.noRule.b T.noRule.t) (by exact rfl) pe_str))) pss_nil)), ?_⟩
    refine ⟨_, rfl, x, d, rfl, hx, fun H1 s1 => ⟨_, rfl, ?_⟩⟩
    cases hr2 : rulD d with
    | false =>
      refine iteT (iteT ?_)
      rcases h with ⟨_, q⟩ | ⟨z, _⟩
      · exact q H1 s1
      · unfold ruleIs at z
        rw [hr2] at z
        cases z
    | true =>
      refine iteF ?_
      obtain ⟨z', rows, rfl, hl, _⟩ := rul_form hr2
      obtain ⟨a, ys, rfl, hS, hA⟩ := Rp.isTup hx
      obtain ⟨u, v, p, t, rfl, e, h1, h2⟩ := hA.two rfl
      cases e
      obtain ⟨_, rfl, e2, _⟩ := h1.isStr rfl
      cases e2
      have ri : ruleIs (.tuple [.str z', .tuple (rowsD rows)]) z = decide (z' = z) := by
        unfold ruleIs
        rw [hr2]
        rfl
      rw [ri] at h
      refine ⟨_, rfl, a, _, 0, _, rfl, rfl, same_tup s1 hS, rfl, _, rfl, rfl, _, rfl, ?_⟩
      rcases h with ⟨zz, q⟩ | ⟨zz, q⟩
      · have := of_decide_eq_false zz
        rw [decide_eq_false (fun e => this (V.str.inj e))]
        exact iteT (q H1 s1)
      · have := of_decide_eq_true zz
        rw [decide_eq_true (congrArg V.str this)]
        exact iteF (q H1 s1)
theorem ok_needContest (T : CoTxt K mg m1 m2 m3 m4 m5 m6 m7 m8 m9 m10 m11 m12 n1 n2 n3 n4 n5 n6 n7 n8 n9 n10 n11 n12 t1 t2 t3 t4 t5 CM a1 a3 b1 b3 r1 r2 r3 r4 r5 p1 v1 v2 v3 v4 v5 q1 CX CR CI) {mR mW : Addr} {nR nW : FuncData} (T2 : LookTxt K mg m1 m2 m3 m4 mW m7 mR n1 n2 n3 n4 nW n7 nR t1 t2) {k : Nat} : FnOk P w K mg base (L2.CX P w) (k + 7) r3 v3 ["one", "other", "rule"] (spNeedContest K CM CX CR) := by
  have GM : FnOk P w K mg base (L2.CX P w) (k + 6) a1 b1 ["thing", "name"] (spNeedMachine K CM) := ok_needMachine T.frm
  have GX : FnOk P w K mg base (L2.CX P w) (k + 6) r1 v1 ["one", "other"] (spNeedMatch K CX) := ok_needMatch T (k := k + 5)
  have GR : FnOk P w K mg base (L2.CX P w) (k + 6) r2 v2 ["thing", "letters"] (spNeedRule K CR) := ok_needRule T T2 (k := k + 1)
  refine T.FNeedContest.okX scNeedContest (fun vs H Q E h => ?_) (fun cdv A outer s H vs Q E hr h => ?_)
  · obtain ⟨x, y, r, d1, d2, d3, rfl, _⟩ := h
    rfl
  · obtain ⟨x, y, r, d1, d2, d3, rfl, hx, hy, hr3, h⟩ := h
    refine ⟨_, (Evl.pss_cut (ps_set (i := 3) scNeedContest.nd rfl (.inl rfl) (pe_call GM hr (by rfl) T.frm.gNeedMachine T.frm.FNeedMachine.kp T.frm.bNeedMachine .nil (passes_call (takes_of rfl rfl rfl rfl) (fun _ _ _ _ h => h)) (pa_cons (pv 0) (pa_cons pe_str pa_nil))))
 (Evl.pss_cut (ps_set (i := 4) scNeedContest.nd rfl (.inl rfl) (pe_call GM hr (by rfl) T.frm.gNeedMachine T.frm.FNeedMachine.kp T.frm.bNeedMachine .nil (passes_call (takes_of rfl rfl rfl rfl) (fun _ _ _ _ h => h)) (pa_cons (pv 1) (pa_cons pe_str pa_nil))))
 (Evl.pss_cut (ps_expr (pe_call GX hr (by rfl) T.gNeedMatch T.FNeedMatch.kp T.bNeedMatch .nil (passes_call (takes_of rfl rfl rfl rfl) (fun _ _ _ _ h => h)) (pa_cons (pv 3) (pa_cons (pv 4) pa_nil))))
 (Evl.pss_cut (ps_expr (pe_call GR hr (by rfl) T.gNeedRule T.FNeedRule.kp T.bNeedRule .nil (passes_call (takes_of rfl rfl rfl rfl) (fun _ _ _ _ h => h)) (pa_cons (pv 2) (pa_cons (pe_ix ix_tup (pv 3) pe_int (fun _ _ => rfl)) pa_nil))))
 (pss_one (ps_ret (pe_tup (pa_cons (pv 3) (pa_cons (pv 4) pa_nil))))))))), ?_⟩
    have nm1 : ("one" : Str).length ≤ 100 := by decide +kernel
    have nm2 : ("other" : Str).length ≤ 100 := by decide +kernel
    rcases h with ⟨z1, z2, q⟩ | ⟨M, hF, h⟩
    · refine ⟨fun _ _ => False, ?_, fun _ _ z => z.elim⟩
      exact ⟨_, rfl, x, d1, _, rfl, hx, nm1, .inr (.inr ⟨z1, z2, fun H' s' => q H' s'⟩)⟩
    have hM := hF.1
    refine ⟨fun σ H1 => ∃ v, σ = [some x, some y, some r, some v, none] ∧ Same H H1 ∧ Rp K H1 v (eM M), ?_, ?_⟩
    · exact ⟨_, rfl, frame_need hF hx nm1 fun H1 v s1 r1 => ⟨v, rfl, s1, r1⟩⟩
    rintro σ H1 ⟨v, rfl, s1, r1⟩
    rcases h with ⟨z1, z2, q⟩ | ⟨N, hF2, h⟩
    · refine ⟨fun _ _ => False, ?_, fun _ _ z => z.elim⟩
      exact ⟨_, rfl, y, d2, _, rfl, hy.go s1, nm2, .inr (.inr ⟨z1, z2, fun H' s' => q H' (s1.trans s')⟩)⟩
    have hN := hF2.1
    refine ⟨fun σ H2 => ∃ u, σ = [some x, some y, some r, some v, some u] ∧ Same H1 H2 ∧ Rp K H2 u (eM N), ?_, ?_⟩
    · exact ⟨_, rfl, frame_need hF2 (hy.go s1) nm2 fun H2 u s2 r2 => ⟨u, rfl, s2, r2⟩⟩
    rintro σ H2 ⟨u, rfl, s2, r2⟩
    have s12 := s1.trans s2
    rcases h with ⟨z1, q⟩ | ⟨z1, z2, h⟩
    · refine ⟨fun _ _ => False, ?_, fun _ _ z => z.elim⟩
      exact ⟨_, rfl, _, rfl, v, u, M, N, rfl, r1.go s2, r2, hM, hN, .inl ⟨z1, fun H' s' => q H' (s12.trans s')⟩⟩
    refine ⟨fun σ H3 => σ = [some x, some y, some r, some v, some u] ∧ Same H2 H3, ?_, ?_⟩
    · exact ⟨_, rfl, _, rfl, v, u, M, N, rfl, r1.go s2, r2, hM, hN, .inr ⟨z1, z2, fun H' s' => ⟨rfl, s'⟩⟩⟩
    rintro σ H3 ⟨rfl, s3⟩
    have s13 := s12.trans s3
    obtain ⟨a, w3, rfl, hS, hC⟩ := r1.three
    rcases h with ⟨zr, q⟩ | ⟨R, rfl, hrl, hok, q⟩
    · refine ⟨fun _ _ => False, ?_, fun _ _ z => z.elim⟩
      exact ⟨_, rfl, _, rfl, a, _, 1, _, rfl, rfl, same_tup (s2.trans s3) hS, rfl, r, d3, M.z, rfl, hr3.go s13, .inl ⟨zr, fun H' s' => q H' (s13.trans s')⟩⟩
    refine ⟨fun σ H4 => σ = [some x, some y, some r, some (.ref a), some u] ∧ Same H3 H4, ?_, ?_⟩
    · refine ⟨_, rfl, _, rfl, a, _, 1, _, rfl, rfl, same_tup (s2.trans s3) hS, rfl, r, _, M.z, rfl, hr3.go s13, .inr ⟨?_, fun H' s' => ⟨rfl, s'⟩⟩⟩
      unfold ruleIs
      rw [hrl]
      show decide (M.z = M.z) = true
      exact decide_eq_true rfl
    rintro σ H4 ⟨rfl, s4⟩
    refine ⟨_, rfl, _, rfl, (by show 2 ≤ sizeLine; decide), fun t nt => ?_⟩
    have xt := same_upd (o := HO.tup [V.ref a, u]) nt
    exact q _ t (.ref a) u ((s13.trans s4).trans xt) upd_same ((s13.trans s4).free nt) (r1.go (((s2.trans s3).trans s4).trans xt)) (r2.go ((s3.trans s4).trans xt))
theorem ok_contestOf (T : CoTxt K mg m1 m2 m3 m4 m5 m6 m7 m8 m9 m10 m11 m12 n1 n2 n3 n4 n5 n6 n7 n8 n9 n10 n11 n12 t1 t2 t3 t4 t5 CM a1 a3 b1 b3 r1 r2 r3 r4 r5 p1 v1 v2 v3 v4 v5 q1 CX CR CI) {mR mW : Addr} {nR nW : FuncData} (T2 : LookTxt K mg m1 m2 m3 m4 mW m7 mR n1 n2 n3 n4 nW n7 nR t1 t2) {k : Nat} : FnOk P w K mg base (L2.CX P w) (k + 8) r4 v4 ["one", "other", "rule"] (spContestOf K CM CX CR) := by
  have GN : FnOk P w K mg base (L2.CX P w) (k + 7) r3 v3 ["one", "other", "rule"] (spNeedContest K CM CX CR) := ok_needContest T T2
  have GP : FnOk P w K mg base CX0 (k + 7) p1 q1 ["machine"] (spPaysOf K) := ok_paysOf T.pays
  refine T.FContestOf.okX scContestOf (fun vs H Q E h => ?_) (fun cdv A outer s H vs Q E hr h => ?_)
  · obtain ⟨x, y, r, d1, d2, d3, rfl, _⟩ := h
    rfl
  · obtain ⟨x, y, r, d1, d2, d3, rfl, hx, hy, hr3, h⟩ := h
    refine ⟨_, (Evl.pss_cut (ps_asg (pe_call GN hr (by rfl) T.gNeedContest T.FNeedContest.kp T.bNeedContest .nil (passes_call (takes_of rfl rfl rfl rfl) (fun _ _ _ _ h => h)) (pa_cons (pv 0) (pa_cons (pv 1) (pa_cons (pv 2) pa_nil)))) (pg_tup rfl (pgs_cons (pg_name (i := 3) scContestOf.nd rfl (.inl rfl)) (pgs_cons (pg_name (i := 4) scContestOf.nd rfl (.inl rfl)) pgs_nil))))
 (Evl.pss_cut (ps_par (i := 5) (j := 6) (by rfl) scContestOf.nd rfl rfl (by decide) rfl rfl (pa_cons (pe_call GP hr (by rfl) T.pays.gPaysOf T.pays.FPaysOf.kp T.pays.bPaysOf .nil pass0 (pa_cons (pv 3) pa_nil)) (pa_cons (pe_call GP hr (by rfl) T.pays.gPaysOf T.pays.FPaysOf.kp T.pays.bPaysOf .nil pass0 (pa_cons (pv 4) pa_nil)) pa_nil)) (by rfl))
 (Evl.pss_cut (ps_set (i := 7) scContestOf.nd rfl (.inl rfl) (pe_callB (call_max2 rfl) (by rfl) T.pays.max (by decide +kernel) (pa_cons pe_int (pa_cons (pe_op op_sub (pe_callB (cr_max rfl) (by rfl) T.pays.max (by decide +kernel) (pa_cons (pv 6) pa_nil)) (pe_callB (cr_min rfl) (by rfl) T.pays.min (by decide +kernel) (pa_cons (pv 5) pa_nil))) pa_nil))))
 (Evl.pss_cut (ps_set (i := 8) scContestOf.nd rfl (.inl rfl) (pe_callB (call_max2 rfl) (by rfl) T.pays.max (by decide +kernel) (pa_cons pe_int (pa_cons (pe_op op_sub (pe_callB (cr_max rfl) (by rfl) T.pays.max (by decide +kernel) (pa_cons (pv 5) pa_nil)) (pe_callB (cr_min rfl) (by rfl) T.pays.min (by decide +kernel) (pa_cons (pv 6) pa_nil))) pa_nil))))
 (pss_one (ps_ret (pe_tup (pa_cons (pe_ix ix_tup (pv 3) pe_int (fun _ _ => rfl)) (pa_cons (pe_ix ix_tup (pv 3) pe_int (fun _ _ => rfl)) (pa_cons (pe_ix ix_tup (pv 2) pe_int (fun _ _ => rfl)) (pa_cons (pe_ix ix_tup (pv 3) pe_int (fun _ _ => rfl)) (pa_cons (pe_ix ix_tup (pv 4) pe_int (fun _ _ => rfl)) (pa_cons (pv 7) (pa_cons (pv 8) pa_nil)))))))))))))), ?_⟩
    rcases (show (∃ c : Addr, ∀ H', Same H H' → E (.ref c) none H') ∧ ConR CM CX CR d1 d2 d3 (fun C => ∀ H', Same H H' → E (.ref C) none H') (fun _ => False) ∨ ∃ C, Cok C ∧ (∀ (er : Addr → Prop) (ok : Ct → Prop), ok C → ConR CM CX CR d1 d2 d3 er ok) ∧ (∃ z, d3 = .tuple [.str z, .tuple (rowsD C.R)]) ∧ ∀ (H' : Hp) (t : Addr), Same H H' → H t = none → Rp K H' (.ref t) (eCt C) → Q (.ref t) H' from by
      rcases h with ⟨a, b, c⟩ | ⟨M, hM, h⟩
      · exact .inl ⟨⟨_, c⟩, .inl ⟨a, b, c⟩⟩
      · rcases h with ⟨a, b, c⟩ | ⟨N, hN, h⟩
        · exact .inl ⟨⟨_, c⟩, .inr ⟨M, hM, .inl ⟨a, b, c⟩⟩⟩
        · rcases h with ⟨a, c⟩ | ⟨a, b, h⟩
          · exact .inl ⟨⟨_, c⟩, .inr ⟨M, hM, .inr ⟨N, hN, .inl ⟨a, c⟩⟩⟩⟩
          · rcases h with ⟨e, c⟩ | ⟨R, r1, r2, r3, r4⟩
            · exact .inl ⟨⟨_, c⟩, .inr ⟨M, hM, .inr ⟨N, hN, .inr ⟨a, b, .inl ⟨e, c⟩⟩⟩⟩⟩
            · exact .inr ⟨_, r3, fun er ok o => .inr ⟨M, hM, .inr ⟨N, hN, .inr ⟨a, b, .inr ⟨R, r1, r2, r3, o⟩⟩⟩⟩, ⟨_, r1⟩, r4⟩) with ⟨_, hbad⟩ | ⟨C, hC, mk, ⟨z, rfl⟩, q⟩
    · refine ⟨fun _ _ => False, ?_, fun _ _ z => z.elim⟩
      exact ⟨_, rfl, _, rfl, _, rfl, x, y, r, d1, d2, d3, rfl, hx, hy, hr3, hbad.mono (fun _ e => e) (fun _ _ z => z.elim)⟩
    refine ⟨fun σ H1 => ∃ u w, σ = [some x, some y, some r, some u, some w, none, none, none, none] ∧ Same H H1 ∧ Rp K H1 u (eM C.M) ∧ Rp K H1 w (eM C.N), ?_, ?_⟩
    · exact ⟨_, rfl, _, rfl, _, rfl, x, y, r, d1, d2, _, rfl, hx, hy, hr3, mk _ _ fun H1 t u w s1 ht nt hu hw => ⟨t, _, rfl, SqT.of ht, rfl, _, _, rfl, _, _, rfl, rfl, u, w, rfl, s1, hu, hw⟩⟩
    rintro σ H1 ⟨u, w, rfl, s1, hu, hw⟩
    refine ⟨fun σ H2 => ∃ l1 l2, σ = [some x, some y, some r, some u, some w, some (.ref l1), some (.ref l2), none, none] ∧ Same H1 H2 ∧ H2 l1 = some (.lst ((paysL C.M).map V.int)) ∧ H2 l2 = some (.lst ((paysL C.N).map V.int)), ?_, ?_⟩
    · exact ⟨_, rfl, u, C.M, rfl, hu, hC.m, fun H2 l1 s2 n1 h1 => ⟨_, rfl, w, C.N, rfl, hw.go s2, hC.n, fun H3 l2 s3 n2 h2 => ⟨_, _, rfl, l1, l2, rfl, s2.trans s3, s3 _ _ h1, h2⟩⟩⟩
    rintro σ H2 ⟨l1, l2, rfl, s2, h1, h2⟩
    have pos1 : 0 < (paysL C.M).length := List.length_pos_iff.mpr (pays_ne hC.m)
    have pos2 : 0 < (paysL C.N).length := List.length_pos_iff.mpr (pays_ne hC.n)
    have mx : ∀ i : Int, (if i > 0 then i else 0) = max 0 i := fun i => by split <;> omega
    refine ⟨fun σ H3 => σ = [some x, some y, some r, some u, some w, some (.ref l1), some (.ref l2), some (.int C.over), none] ∧ H3 = H2, ?_, ?_⟩
    · refine ⟨_, rfl, l2, _, rfl, SqL.of h2, pos2, fun m hm ge => ⟨_, rfl, l1, _, rfl, SqL.of h1, pos1, fun n hn le => ⟨_, _, rfl, rfl, _, _, rfl, ?_⟩⟩⟩
      rw [mx, maxL_eq hm ge, minL_eq hn le]
      exact ⟨rfl, rfl⟩
    rintro σ H3 ⟨rfl, rfl⟩
    refine ⟨fun σ H4 => σ = [some x, some y, some r, some u, some w, some (.ref l1), some (.ref l2), some (.int C.over), some (.int C.below)] ∧ H4 = H3, ?_, ?_⟩
    · refine ⟨_, rfl, l1, _, rfl, SqL.of h1, pos1, fun m hm ge => ⟨_, rfl, l2, _, rfl, SqL.of h2, pos2, fun n hn le => ⟨_, _, rfl, rfl, _, _, rfl, ?_⟩⟩⟩
      rw [mx, maxL_eq hm ge, minL_eq hn le]
      exact ⟨rfl, rfl⟩
    rintro σ H4 ⟨rfl, rfl⟩
    have hu4 := hu.go s2
    have hw4 := hw.go s2
    have hr4 := hr3.go (s1.trans s2)
    obtain ⟨ua, u3, rfl, hS1, hA1⟩ := hu4.three
    obtain ⟨wa, w3, rfl, hS2, hA2⟩ := hw4.three
    obtain ⟨ra, ys, rfl, hS3, hA3⟩ := Rp.isTup hr4
    obtain ⟨e0, e1, p0, p1, rfl, ee, g1, g2⟩ := hA3.two rfl
    cases ee
    have zs : C.M.z.length ≤ sizeLine := Nat.le_trans (ltr_pos hC.m.ltr).2 (by decide)
    refine ⟨_, rfl, ua, _, 0, _, rfl, rfl, hS1, rfl, _, rfl, ua, _, 1, _, rfl, rfl, hS1, rfl, _, rfl, ra, _, 1, _, rfl, rfl, hS3, rfl, _, rfl, ua, _, 2, _, rfl, rfl, hS1, rfl, _, rfl, wa, _, 2, _, rfl, rfl, hS2, rfl, _, rfl, _, rfl, (by show 7 ≤ sizeLine; decide), fun t nt => ?_⟩
    have xt := same_upd (o := HO.tup [V.int C.M.b, V.str C.M.z, e1, u3, w3, V.int C.over, V.int C.below]) nt
    exact q _ t ((s1.trans s2).trans xt) ((s1.trans s2).free nt) (.tup (SqT.of upd_same) (.cons (.int _) (.cons (.str _ zs) (.cons (g2.go xt) (.cons (hA1.go xt) (.cons (hA2.go xt) (.cons (.int _) (.cons (.int _) .nil))))))))
end
end My
/-! ### parted, levels_of -/
namespace My
open PySem PySem.Spec PyProof.Rows L2 PySem.Builtin.Str
abbrev sParted : Stmt := topS 47
abbrev sLevelsOf : Stmt := topS 48
theorem scParted : FnScope ["one", "other", "rule", "limit", "contest", "last", "won", "standing"] ["one", "other", "rule", "limit"] (defScope sParted) := ⟨rfl, rfl, rfl, by decide +kernel, rfl, by decide +kernel, by decide +kernel⟩
theorem scLevelsOf : FnScope ["one", "other", "rule", "limit", "contest", "level"] ["one", "other", "rule", "limit"] (defScope sLevelsOf) := ⟨rfl, rfl, rfl, by decide +kernel, rfl, by decide +kernel, by decide +kernel⟩
structure PaTxt (K : PySem.W.Frag) (mg : Str → Option Value) (m1 m2 m3 m4 m5 m6 m7 m8 m9 m10 m11 m12 : Addr) (n1 n2 n3 n4 n5 n6 n7 n8 n9 n10 n11 n12 : FuncData) (t1 t2 t3 t4 t5 t6 : Tok) (CM a1 a3 : Addr) (b1 b3 : FuncData) (r1 r2 r3 r4 r5 p1 : Addr) (v1 v2 v3 v4 v5 q1 : FuncData) (CX CR CI : Addr) (mR mW : Addr) (nR nW : FuncData) (g1 g2 g3 g4 g5 : Addr) (e1 e2 e3 e4 e5 : FuncData) (CG fF : Addr) (p7 p8 : Addr) (q7 q8 : FuncData) : Prop where
  co : CoTxt K mg m1 m2 m3 m4 m5 m6 m7 m8 m9 m10 m11 m12 n1 n2 n3 n4 n5 n6 n7 n8 n9 n10 n11 n12 t1 t2 t3 t4 t5 CM a1 a3 b1 b3 r1 r2 r3 r4 r5 p1 v1 v2 v3 v4 v5 q1 CX CR CI
  look : LookTxt K mg m1 m2 m3 m4 mW m7 mR n1 n2 n3 n4 nW n7 nR t1 t2
  lu : LuTxt K mg g1 g2 g3 g4 g5 e1 e2 e3 e4 e5 CG fF
  mMost : mg "MOST_STANDINGS" = some (.int 2000 t6)
  FParted : FunD K "parted" "parted" (defArgs sParted) (defBody sParted) (defScope sParted) [] [("limit", .int 2000)] p7 q7
  gParted : mg "parted" = some (.ref p7)
  FLevelsOf : FunD K "levels_of" "levels_of" (defArgs sLevelsOf) (defBody sLevelsOf) (defScope sLevelsOf) [] [("limit", .int 2000)] p8 q8
  gLevelsOf : mg "levels_of" = some (.ref p8)
/-- what is told: None, or the first won word -/
def WonV (C : Ct) (n : Nat) (v : V) : Prop := (wonN C n = false ∧ v = .non) ∨ ∃ w, v = .str w ∧ (∃ t, (t, w) ∈ lvl C n ∧ wonG t = true) ∧ ∀ t w', (t, w') ∈ lvl C n → wonG t = true → wlt w' w = false
/-- a list of lists of standings -/
def LsL (K : PySem.W.Frag) (H : Hp) (a : Addr) (rs : List Addr) (tss : List (List Sg)) : Prop := H a = some (.lst (rs.map V.ref)) ∧ Paired (fun (r : Addr) (ts : List Sg) => ∃ us, H r = some (.lst us) ∧ RpAll K H us (ts.map eSg)) rs tss
theorem LsL.same {K : PySem.W.Frag} {H H' : Hp} {a : Addr} {rs : List Addr} {tss : List (List Sg)} (h : LsL K H a rs tss) (s : Same H H') : LsL K H' a rs tss := ⟨s _ _ h.1, Paired.mapP h.2 fun _ ts ⟨us, e1, e2⟩ => ⟨us, s _ _ e1, rpAll_ts (ts_same s) e2 (tOs_map enc_sg.tO ts)⟩⟩
/-- the levels in order -/
def sLv (C : Ct) (n : Nat) : List Sg := sortE eSg (keysA (lvl C n))
def LimR (C : Ct) (e : PyData) (CI CG : Addr) (er : Addr → Prop) (ok : Nat → Prop) : Prop := (betD 1 2000 e = false ∧ er CI) ∨ ∃ L, e = .int L ∧ 1 ≤ L ∧ L ≤ 2000 ∧ (∀ n, Pre C n → L < (tot C n : Int) → er CG) ∧ ∀ n, EndsN C n → (tot C n : Int) ≤ L → ok n
def spParted (K : PySem.W.Frag) (CM CX CR CI CG : Addr) : Sp := fun vs H Q E => ∃ (x y r l : V) (d1 d2 d3 d4 : PyData), vs = [x, y, r, l] ∧ Rp K H x d1 ∧ Rp K H y d2 ∧ Rp K H r d3 ∧ Rp K H l d4 ∧
  ConR CM CX CR d1 d2 d3 (fun c => ∀ H', Same H H' → E (.ref c) none H') fun C => LimR C d4 CI CG (fun c => ∀ H', Same H H' → E (.ref c) none H') fun n => ∀ H' v, WonV C n v → Same H H' → Q v H'
def spLevelsOf (K : PySem.W.Frag) (CM CX CR CI CG : Addr) : Sp := fun vs H Q E => ∃ (x y r l : V) (d1 d2 d3 d4 : PyData), vs = [x, y, r, l] ∧ Rp K H x d1 ∧ Rp K H y d2 ∧ Rp K H r d3 ∧ Rp K H l d4 ∧
  ConR CM CX CR d1 d2 d3 (fun c => ∀ H', Same H H' → E (.ref c) none H') fun C => LimR C d4 CI CG (fun c => ∀ H', Same H H' → E (.ref c) none H') fun n => ∀ H' a rs, Same H H' → H a = none → (∀ r ∈ rs, H r = none) → a ∉ rs → LsL K H' a rs ((List.range (n + 1)).map (sLv C)) → Q (.ref a) H'
/-- either an error or a contest -/
theorem ConR.either {CM CX CR : Addr} {d1 d2 d3 : PyData} {er : Addr → Prop} {ok : Ct → Prop} (h : ConR CM CX CR d1 d2 d3 er ok) : ConR CM CX CR d1 d2 d3 er (fun _ => False) ∨ ∃ C, Cok C ∧ (∀ (er : Addr → Prop) (ok : Ct → Prop), ok C → ConR CM CX CR d1 d2 d3 er ok) ∧ ok C := by
  rcases h with ⟨a, b, c⟩ | ⟨M, hM, h⟩
  · exact .inl (.inl ⟨a, b, c⟩)
  · rcases h with ⟨a, b, c⟩ | ⟨N, hN, h⟩
    · exact .inl (.inr ⟨M, hM, .inl ⟨a, b, c⟩⟩)
    · rcases h with ⟨a, c⟩ | ⟨a, b, h⟩
      · exact .inl (.inr ⟨M, hM, .inr ⟨N, hN, .inl ⟨a, c⟩⟩⟩)
      · rcases h with ⟨e, c⟩ | ⟨R, r1, r2, r3, r4⟩
        · exact .inl (.inr ⟨M, hM, .inr ⟨N, hN, .inr ⟨a, b, .inl ⟨e, c⟩⟩⟩⟩)
        · exact .inr ⟨_, r3, fun er ok o => .inr ⟨M, hM, .inr ⟨N, hN, .inr ⟨a, b, .inr ⟨R, r1, r2, r3, o⟩⟩⟩⟩, r4⟩
theorem pe_egetK {X : Cx} {P : Program} {w : World} {K : PySem.W.Frag} {o i : Expr} {pos : Pos} {td ty : TE} (h1 : X.prog = P) (h2 : X.w = w) (h3 : X.K = K) (hu : X.A.units + 9 < cLine) (ho : PE X o td) (hi : PE X i ty) (hs : NoSl i) : PE X (.Subscript o i pos) (tEGet P w K td ty) := by
  subst h1 h2 h3
  exact pe_eget hu ho hi hs
theorem cr_sortNK {X : Cx} {P : Program} {w : World} {K : PySem.W.Frag} (h1 : X.prog = P) (h2 : X.w = w) (h3 : X.K = K) (hc : X.calm = true) (hu : X.A.units + 16 < cLine) : CallR X (.builtin "sorted") (rSortN P w K) := by
  subst h1 h2 h3
  exact cr_sortN hc hu
theorem atI_end {α : Type} {xs : List α} {n : Nat} (h : xs.length = n + 1) : ∃ v, xs[n]? = some v ∧ atI xs (-1) = some v := by
  obtain ⟨ys, v, rfl⟩ : ∃ ys v, xs = ys ++ [v] := by
    have ne : xs ≠ [] := by
      intro z
      rw [z] at h
      cases h
    exact ⟨xs.dropLast, xs.getLast ne, (List.dropLast_concat_getLast ne).symm⟩
  rw [List.length_append, List.length_singleton] at h
  refine ⟨v, ?_, L2.atI_last ys v⟩
  rw [show n = ys.length by omega]
  exact List.getElem?_concat_length
section
variable {P : Program} {w : World} {K : PySem.W.Frag} {mg : Str → Option Value} {base : Heap} {m1 m2 m3 m4 m5 m6 m7 m8 m9 m10 m11 m12 : Addr} {n1 n2 n3 n4 n5 n6 n7 n8 n9 n10 n11 n12 : FuncData} {t1 t2 t3 t4 t5 t6 : Tok} {CM a1 a3 : Addr} {b1 b3 : FuncData} {r1 r2 r3 r4 r5 p1 : Addr} {v1 v2 v3 v4 v5 q1 : FuncData} {CX CR CI mR mW : Addr} {nR nW : FuncData} {g1 g2 g3 g4 g5 : Addr} {e1 e2 e3 e4 e5 : FuncData} {CG fF p7 p8 : Addr} {q7 q8 : FuncData}
theorem ok_parted (T : PaTxt K mg m1 m2 m3 m4 m5 m6 m7 m8 m9 m10 m11 m12 n1 n2 n3 n4 n5 n6 n7 n8 n9 n10 n11 n12 t1 t2 t3 t4 t5 t6 CM a1 a3 b1 b3 r1 r2 r3 r4 r5 p1 v1 v2 v3 v4 v5 q1 CX CR CI mR mW nR nW g1 g2 g3 g4 g5 e1 e2 e3 e4 e5 CG fF p7 p8 q7 q8) {k : Nat} : FnOk P w K mg base (L2.CX P w) (k + 9) p7 q7 ["one", "other", "rule", "limit"] (spParted K CM CX CR CI CG) := by
  have GC : FnOk P w K mg base (L2.CX P w) (k + 8) r4 v4 ["one", "other", "rule"] (spContestOf K CM CX CR) := ok_contestOf T.co T.look
  have GL : FnOk P w K mg base (L2.CX P w) (k + 8) r5 v5 ["thing", "most"] (spNeedLimit K CI) := ok_needLimit T.co (k := k + 5)
  have GU : FnOk P w K mg base (L2.CX P w) (k + 8) g5 e5 ["contest", "limit"] (spLevelsUntil P w K CG) := ok_levelsUntil T.lu (k := k + 5)
  have GI : FnOk P w K mg base CX0 (k + 8) g2 e2 ["standing"] (spIsWon K) := ok_isWon T.lu.lv.su (k := k + 7)
  refine T.FParted.ok scParted (fun vs H Q E h => ?_) (fun cdv A outer s H vs Q E hr h => ?_)
  · obtain ⟨x, y, r, l, d1, d2, d3, d4, rfl, _⟩ := h
    rfl
  · obtain ⟨x, y, r, l, d1, d2, d3, d4, rfl, hx, hy, hr3, hl, h⟩ := h
    have hu9 : (A.deeper (envOfC "parted" (defScope sParted) s.heap.objs.size p7 cdv)).units + 9 < cLine := by have := hr.un; omega
    refine ⟨_, (Evl.pss_cut (ps_set (i := 4) scParted.nd rfl (.inl rfl) (pe_call GC hr (by rfl) T.co.gContestOf T.co.FContestOf.kp T.co.bContestOf .nil (passes_call (takes_of rfl rfl rfl rfl) (fun _ _ _ _ h => h)) (pa_cons (pv 0) (pa_cons (pv 1) (pa_cons (pv 2) pa_nil)))))
 (Evl.pss_cut (ps_expr (pe_call GL hr (by rfl) T.co.gNeedLimit T.co.FNeedLimit.kp T.co.bNeedLimit .nil (passes_call (takes_of rfl rfl rfl rfl) (fun _ _ _ _ h => h)) (pa_cons (pv 3) (pa_cons (pe_glob (v := .int 2000) (by rfl) T.mMost ⟨_, rfl⟩) pa_nil))))
 (Evl.pss_cut (ps_set (i := 5) scParted.nd rfl (.inr rfl) (pe_ix ix_list (pe_call GU hr (by rfl) T.lu.gLevelsUntil T.lu.FLevelsUntil.kp T.lu.bLevelsUntil .nil (passes_call (takes_of rfl rfl rfl rfl) (fun _ _ _ _ h => h)) (pa_cons (pv 4) (pa_cons (pv 3) pa_nil))) (pe_un un_neg pe_int) (fun _ _ => rfl)))
 (Evl.pss_cut (ps_lock (ps_setLc (i := 6) (own := [("standing", 7)]) (g := gName 7) (by rfl) scParted.nd rfl rfl (sw_true rfl rfl rfl (by decide +kernel)) (pi_nkeys (pv 5)) (blkOk_by (N := ["one", "other", "rule", "limit", "contest", "last", "won", "standing"]) (sc := defScope sParted) (by decide +kernel)) (fun _ _ _ _ _ => pg_name (i := 7) scParted.nd rfl (Or.inl rfl)) (fun _ _ _ _ _ => (pts_one (pt_val (pe_call GI hr (by rfl) T.lu.lv.su.gIsWon T.lu.lv.su.FIsWon.kp T.lu.lv.su.bIsWon .nil pass0 (pa_cons (pv 7) pa_nil))))) (fun _ _ _ _ _ => (pe_egetK (P := P) (w := w) (K := K) rfl rfl rfl hu9 (pv 5) (pv 7) (fun _ _ => rfl)))))
 (pss_one (ps_ret (pe_ifExp (pt_truth (pv 6) (fun _ => rfl)) (pe_callB (cr_minS rfl) (by rfl) T.co.pays.min (by decide +kernel) (pa_cons (pv 6) pa_nil)) pe_non))))))), ?_⟩
    rcases h.either with hbad | ⟨C, hC, mk, hlim⟩
    · refine ⟨fun _ _ => False, ?_, fun _ _ z => z.elim⟩
      exact ⟨_, rfl, _, rfl, _, rfl, x, y, r, d1, d2, d3, rfl, hx, hy, hr3, hbad.mono (fun _ e => e) (fun _ _ z => z.elim)⟩
    refine ⟨fun σ H1 => ∃ t, σ = [some x, some y, some r, some l, some (.ref t), none, none, none] ∧ Same H H1 ∧ Rp K H1 (.ref t) (eCt C), ?_, ?_⟩
    · exact ⟨_, rfl, _, rfl, _, rfl, x, y, r, d1, d2, d3, rfl, hx, hy, hr3, mk _ _ fun H1 t s1 nt ht => ⟨t, rfl, s1, ht⟩⟩
    rintro σ H1 ⟨t, rfl, s1, ht⟩
    rcases hlim with ⟨hb, q⟩ | ⟨L, rfl, L1, L2, qE, q⟩
    · refine ⟨fun _ _ => False, ?_, fun _ _ z => z.elim⟩
      exact ⟨_, rfl, l, d4, rfl, hl.go s1, .inr ⟨hb, q H1 s1⟩⟩
    obtain rfl := hl.isInt
    refine ⟨fun σ H2 => σ = [some x, some y, some r, some (.int L), some (.ref t), none, none, none] ∧ H2 = H1, ?_, ?_⟩
    · exact ⟨_, rfl, _, _, rfl, .int L, .inl ⟨betD_ok L1 L2, rfl, rfl⟩⟩
    rintro σ H2 ⟨rfl, rfl⟩
    refine ⟨fun σ H3 => ∃ n d, σ = [some x, some y, some r, some (.int L), some (.ref t), some (.ref d), none, none] ∧ Same H H3 ∧ ED P w K eSg H3 d (vW (lvl C n)) ∧ EndsN C n ∧ (tot C n : Int) ≤ L, ?_, ?_⟩
    · refine ⟨_, rfl, _, rfl, .ref t, C, L, rfl, ht, hC, L1, L2, fun n H' p g s' => qE n p g H' (s1.trans s'), fun n H' ll rs en tl s' nl nrs hll => ?_⟩
      have l1 : rs.length = n + 1 := by
        have := Paired.length hll.2
        rw [List.length_map, List.length_range] at this
        exact this
      obtain ⟨v, e1, e2⟩ := atI_end (xs := rs.map V.ref) (n := n) (by rw [List.length_map]; exact l1)
      rw [List.getElem?_map] at e1
      obtain ⟨d, e3, rfl⟩ := Option.map_eq_some_iff.mp e1
      obtain ⟨lv, e4, e5⟩ := LiI.paired_get hll.2 e3
      have e6 : lv = lvl C n := by
        rw [List.getElem?_map, List.getElem?_range (by omega)] at e4
        exact (Option.some.inj e4).symm
      rw [e6] at e5
      exact ⟨1, rfl, ll, _, -1, .ref d, rfl, rfl, SqL.of hll.1, e2, n, d, rfl, s1.trans s', e5, en, tl⟩
    rintro σ H3 ⟨n, d, rfl, s3, hd, en, tl⟩
    have nd := lvl_nodup C n
    refine ⟨fun σ H4 => ∃ wl l7, σ = [some x, some y, some r, some (.int L), some (.ref t), some (.ref d), some (.ref wl), l7] ∧ Same H H4 ∧ H4 wl = some (.lst ((((lvl C n).filter fun q => wonG q.1).map (·.2)).map V.str)), ?_, ?_⟩
    · obtain ⟨xd, hxd, kx⟩ := hd
      refine ⟨d, NdO P w d xd, hxd, trivial, fun od => ?_⟩
      refine ⟨_, rfl, d, od, xd, rfl, upd_same, fun D nD => ?_⟩
      have dD : d ≠ D := ne_of_none (o := .frz od (NdO P w d xd)) upd_same nD
      have nD0 : H3 D = none := by rw [upd_ne dD.symm] at nD; exact nD
      have tb : TStay K H3 (upd H3 d (.frz od (NdO P w d xd))) := ts_upd hxd (fun _ z => nomatch z) (fun _ _ z => nomatch z)
      have hdb : EDr P w K eSg (upd H3 d (.frz od (NdO P w d xd))) d (vW (lvl C n)) := ⟨xd, .inr ⟨od, upd_same⟩, kx.ts enc_sg tb⟩
      have lx : xd.length = (lvl C n).length := by
        have := Paired.length kx
        rw [vW_len] at this
        exact this
      have lle := lvl_len_le C n
      refine lc_it walk_nkeys (fun i H' => Same (upd H3 d (.frz od (NdO P w d xd))) H' ∧ H' D = some (.lst (((((lvl C n).take i).filter fun q => wonG q.1).map (·.2)).map V.str))) ⟨same_upd nD, upd_same⟩ (fun i H' _ h => h.1 _ _ upd_same) ?_ ?_
      · rintro i u H' H2' hi ⟨s5, hD⟩ ⟨rfl, e, he, rfl⟩
        obtain ⟨p, hp, rp⟩ := kx.at he
        obtain ⟨qq, hq, rfl⟩ : ∃ qq : Sg × Str, (lvl C n)[i]? = some qq ∧ p = (qq.1, V.str qq.2) := by
          unfold vW at hp
          rw [List.getElem?_map] at hp
          obtain ⟨qq, h1, h2⟩ := Option.map_eq_some_iff.mp hp
          exact ⟨qq, h1, h2.symm⟩
        have rpb := rp_ts (tb.trans (ts_same s5)) rp (enc_sg.tO _)
        have gq : getA (vW (lvl C n)) qq.1 = some (.str qq.2) := by
          rw [vW_get, mem_getA nd (show (qq.1, qq.2) ∈ lvl C n from List.mem_of_getElem? hq)]
          rfl
        have stepF : ((lvl C n).take (i + 1)).filter (fun q => wonG q.1) = ((lvl C n).take i).filter (fun q => wonG q.1) ++ (if wonG qq.1 = true then [qq] else []) := by
          rw [List.take_succ, hq, List.filter_append]
          congr 1
          show List.filter (fun q : Sg × Str => wonG q.1) [qq] = _
          rw [List.filter_cons]
          rfl
        refine ⟨rfl, ?_⟩
        refine ⟨_, rfl, _, qq.1, rfl, rpb, fun H6 s6 => ⟨_, rfl, ?_⟩⟩
        cases hw : wonG qq.1 with
        | true =>
          refine iteT ⟨_, rfl, _, rfl, .str qq.2, (hdb.same enc_sg (s5.trans s6)).get enc_sg (rp_ts (ts_same s6) rpb (enc_sg.tO _)) gq, _, s6 _ _ hD, ?_, same_new (s5.trans s6) nD, ?_⟩
          · rw [List.length_map, List.length_map]
            have h1 := List.length_filter_le (fun q : Sg × Str => wonG q.1) ((lvl C n).take i)
            have h2 := List.length_take_le' i (lvl C n)
            exact Nat.lt_of_le_of_lt (show _ ≤ 2000 by omega) (by decide)
          · rw [upd_same, stepF, if_pos hw, List.map_append, List.map_append]
            rfl
        | false =>
          refine iteF ⟨s5.trans s6, ?_⟩
          rw [stepF, if_neg (by rw [hw]; decide), List.append_nil]
          exact s6 _ _ hD
      · rintro H' ⟨s5, hD⟩
        rw [lx, List.take_length] at hD
        have back : Same H3 (upd H' d (NdO P w d xd)) := fun b o e => by
          by_cases z : b = d
          · rw [z, upd_same, ← hxd, ← z, e]
          · rw [upd_ne z]
            exact s5 b o (by rw [upd_ne z]; exact e)
        exact ⟨s5 _ _ upd_same, D, _, rfl, s3.trans back, by rw [upd_ne dD.symm]; exact hD⟩
    rintro σ H4 ⟨wl, l7, rfl, s4, hwl⟩
    have memW : ∀ w, w ∈ ((lvl C n).filter fun q => wonG q.1).map (·.2) ↔ ∃ t, (t, w) ∈ lvl C n ∧ wonG t = true := fun w => by
      constructor
      · intro h
        obtain ⟨q, h1, rfl⟩ := List.mem_map.mp h
        obtain ⟨h2, h3⟩ := List.mem_filter.mp h1
        exact ⟨q.1, h2, h3⟩
      · rintro ⟨t, h1, h2⟩
        exact List.mem_map.mpr ⟨(t, w), List.mem_filter.mpr ⟨h1, h2⟩, rfl⟩
    refine ⟨_, rfl, _, .inl ⟨_, SqL.of hwl, rfl⟩, ?_⟩
    cases hW : ((lvl C n).filter fun q => wonG q.1) with
    | nil =>
      refine iteF (q n en tl H4 .non (.inl ⟨?_, rfl⟩) s4)
      rcases SrtO.bcase (wonN C n) with z | z
      · obtain ⟨t, h1, h2⟩ := List.any_eq_true.mp z
        obtain ⟨p, hp, rfl⟩ := List.mem_map.mp h1
        have : p ∈ (lvl C n).filter fun q => wonG q.1 := List.mem_filter.mpr ⟨hp, h2⟩
        rw [hW] at this
        cases this
      · exact z
    | cons p r =>
      rw [hW] at hwl memW
      refine iteT ⟨_, rfl, wl, _, rfl, SqL.of hwl, Nat.succ_pos _, fun m hm hmin => q n en tl H4 (.str m) (.inr ⟨m, rfl, (memW m).mp hm, fun t w' h1 h2 => hmin w' ((memW w').mpr ⟨t, h1, h2⟩)⟩) s4⟩
theorem ok_levelsOf (T : PaTxt K mg m1 m2 m3 m4 m5 m6 m7 m8 m9 m10 m11 m12 n1 n2 n3 n4 n5 n6 n7 n8 n9 n10 n11 n12 t1 t2 t3 t4 t5 t6 CM a1 a3 b1 b3 r1 r2 r3 r4 r5 p1 v1 v2 v3 v4 v5 q1 CX CR CI mR mW nR nW g1 g2 g3 g4 g5 e1 e2 e3 e4 e5 CG fF p7 p8 q7 q8) {k : Nat} : FnOk P w K mg base (L2.CX P w) (k + 9) p8 q8 ["one", "other", "rule", "limit"] (spLevelsOf K CM CX CR CI CG) := by
  have GC : FnOk P w K mg base (L2.CX P w) (k + 8) r4 v4 ["one", "other", "rule"] (spContestOf K CM CX CR) := ok_contestOf T.co T.look
  have GL : FnOk P w K mg base (L2.CX P w) (k + 8) r5 v5 ["thing", "most"] (spNeedLimit K CI) := ok_needLimit T.co (k := k + 5)
  have GU : FnOk P w K mg base (L2.CX P w) (k + 8) g5 e5 ["contest", "limit"] (spLevelsUntil P w K CG) := ok_levelsUntil T.lu (k := k + 5)
  refine T.FLevelsOf.ok scLevelsOf (fun vs H Q E h => ?_) (fun cdv A outer s H vs Q E hr h => ?_)
  · obtain ⟨x, y, r, l, d1, d2, d3, d4, rfl, _⟩ := h
    rfl
  · obtain ⟨x, y, r, l, d1, d2, d3, d4, rfl, hx, hy, hr3, hl, h⟩ := h
    have hu9 : (A.deeper (envOfC "levels_of" (defScope sLevelsOf) s.heap.objs.size p8 cdv)).units + 16 < cLine := by have := hr.un; omega
    refine ⟨_, (Evl.pss_cut (ps_set (i := 4) scLevelsOf.nd rfl (.inl rfl) (pe_call GC hr (by rfl) T.co.gContestOf T.co.FContestOf.kp T.co.bContestOf .nil (passes_call (takes_of rfl rfl rfl rfl) (fun _ _ _ _ h => h)) (pa_cons (pv 0) (pa_cons (pv 1) (pa_cons (pv 2) pa_nil)))))
 (Evl.pss_cut (ps_expr (pe_call GL hr (by rfl) T.co.gNeedLimit T.co.FNeedLimit.kp T.co.bNeedLimit .nil (passes_call (takes_of rfl rfl rfl rfl) (fun _ _ _ _ h => h)) (pa_cons (pv 3) (pa_cons (pe_glob (v := .int 2000) (by rfl) T.mMost ⟨_, rfl⟩) pa_nil))))
 (pss_one (ps_ret (pe_lc (own := [("level", 5)]) (g := gName 5) (tt := tYes) (by rfl) scLevelsOf.nd (pi_list (pe_call GU hr (by rfl) T.lu.gLevelsUntil T.lu.FLevelsUntil.kp T.lu.bLevelsUntil .nil (passes_call (takes_of rfl rfl rfl rfl) (fun _ _ _ _ h => h)) (pa_cons (pv 4) (pa_cons (pv 3) pa_nil)))) (blkOk_by (N := ["one", "other", "rule", "limit", "contest", "level"]) (sc := defScope sLevelsOf) (by decide +kernel)) (fun _ _ _ _ _ => pg_name (i := 5) scLevelsOf.nd rfl (Or.inl rfl)) (fun _ _ _ _ _ => pts_nil) (fun _ _ _ _ _ => (pe_callB (cr_sortNK (P := P) (w := w) (K := K) rfl rfl rfl rfl hu9) (by rfl) T.lu.lv.su.sorted (by decide +kernel) (pa_cons (pv 5) pa_nil)))))))), ?_⟩
    rcases h.either with hbad | ⟨C, hC, mk, hlim⟩
    · refine ⟨fun _ _ => False, ?_, fun _ _ z => z.elim⟩
      exact ⟨_, rfl, _, rfl, _, rfl, x, y, r, d1, d2, d3, rfl, hx, hy, hr3, hbad.mono (fun _ e => e) (fun _ _ z => z.elim)⟩
    refine ⟨fun σ H1 => ∃ t, σ = [some x, some y, some r, some l, some (.ref t), none] ∧ Same H H1 ∧ Rp K H1 (.ref t) (eCt C), ?_, ?_⟩
    · exact ⟨_, rfl, _, rfl, _, rfl, x, y, r, d1, d2, d3, rfl, hx, hy, hr3, mk _ _ fun H1 t s1 nt ht => ⟨t, rfl, s1, ht⟩⟩
    rintro σ H1 ⟨t, rfl, s1, ht⟩
    rcases hlim with ⟨hb, q⟩ | ⟨L, rfl, L1, L2, qE, q⟩
    · refine ⟨fun _ _ => False, ?_, fun _ _ z => z.elim⟩
      exact ⟨_, rfl, l, d4, rfl, hl.go s1, .inr ⟨hb, q H1 s1⟩⟩
    obtain rfl := hl.isInt
    refine ⟨fun σ H2 => σ = [some x, some y, some r, some (.int L), some (.ref t), none] ∧ H2 = H1, ?_, ?_⟩
    · exact ⟨_, rfl, _, _, rfl, .int L, .inl ⟨betD_ok L1 L2, rfl, rfl⟩⟩
    rintro σ H2 ⟨rfl, rfl⟩
    refine ⟨_, rfl, _, rfl, .ref t, C, L, rfl, ht, hC, L1, L2, fun n H' p g s' => qE n p g H' (s1.trans s'), fun n H3 ll rs en tl s3 nl nrs hll => ?_⟩
    refine ⟨ll, rfl, ⟨_, SqL.of hll.1⟩, fun D nD => ?_⟩
    have lrs : rs.length = n + 1 := by
      have := Paired.length hll.2
      rw [List.length_map, List.length_range] at this
      exact this
    have tn := pre_tot en.1
    refine lc_lstO (xs := rs.map V.ref) (fun i H' => Same H3 H' ∧ ∃ ps : List Addr, H' D = some (.lst (ps.map V.ref)) ∧ (∀ p ∈ ps, H3 p = none) ∧ D ∉ ps ∧ Paired (fun (r : Addr) (ts : List Sg) => ∃ us, H' r = some (.lst us) ∧ RpAll K H' us (ts.map eSg)) ps (((List.range (n + 1)).take i).map (sLv C))) ⟨same_upd nD, [], upd_same, (fun _ h => nomatch h), (fun h => nomatch h), .nil⟩ (fun i H' h => SqL.of (h.1 _ _ hll.1)) ?_ ?_
    · rintro i u H' hu ⟨s4, ps, hD, np, nDp, hps⟩
      obtain ⟨r1, hr1, rfl⟩ : ∃ r1, rs[i]? = some r1 ∧ u = .ref r1 := by
        rw [List.getElem?_map] at hu
        obtain ⟨r1, h1, h2⟩ := Option.map_eq_some_iff.mp hu
        exact ⟨r1, h1, h2.symm⟩
      have hi : i < n + 1 := by
        have := (List.getElem?_eq_some_iff.mp hr1).1
        omega
      obtain ⟨lv, e4, e5⟩ := LiI.paired_get hll.2 hr1
      have e6 : lv = lvl C i := by
        rw [List.getElem?_map, List.getElem?_range hi] at e4
        exact (Option.some.inj e4).symm
      rw [e6] at e5
      have lle := lvl_len_le C i
      have tm := tot_mono (C := C) (show i ≤ n by omega)
      refine ⟨rfl, ?_⟩
      refine ⟨_, rfl, r1, Sg, eSg, _, rfl, (e5.same enc_sg s4).r, ?_, enc_sg, fun p vs' npp hvs => ?_⟩
      · rw [vW_len]
        exact Nat.le_trans (show _ ≤ 2000 by omega) (by decide)
      have sp := same_upd (o := HO.lst vs') npp
      have Dp : D ≠ p := ne_of_none hD npp
      have lps : ps.length = i := by
        have := Paired.length hps
        rw [List.length_map, List.length_take, List.length_range] at this
        omega
      rw [vW_keys] at hvs
      have tsD : TStay K (upd H' p (.lst vs')) (upd (upd H' p (.lst vs')) D (.lst (ps.map V.ref ++ [V.ref p]))) := ts_lst (sp _ _ hD)
      refine ⟨ps.map V.ref, sp _ _ hD, by rw [List.length_map, lps]; exact Nat.lt_of_le_of_lt (show i ≤ 2000 by omega) (by decide), same_new (s4.trans sp) nD, ps ++ [p], by rw [upd_same, List.map_append]; rfl, fun r hr => ?_, fun hm => ?_, ?_⟩
      · rcases List.mem_append.mp hr with h | h
        · exact np r h
        · rw [List.mem_singleton.mp h]
          exact s4.free npp
      · rcases List.mem_append.mp hm with h | h
        · exact nDp h
        · exact Dp (List.mem_singleton.mp h)
      · have e7 : ((List.range (n + 1)).take (i + 1)).map (sLv C) = ((List.range (n + 1)).take i).map (sLv C) ++ [sLv C i] := by
          rw [List.take_succ, List.getElem?_range hi, List.map_append]
          rfl
        rw [e7]
        have mv : ∀ {rs : List Addr} {tss : List (List Sg)}, D ∉ rs → Paired (fun (r : Addr) (ts : List Sg) => ∃ us, H' r = some (.lst us) ∧ RpAll K H' us (ts.map eSg)) rs tss → Paired (fun (r : Addr) (ts : List Sg) => ∃ us, (upd (upd H' p (.lst vs')) D (.lst (ps.map V.ref ++ [V.ref p]))) r = some (.lst us) ∧ RpAll K (upd (upd H' p (.lst vs')) D (.lst (ps.map V.ref ++ [V.ref p]))) us (ts.map eSg)) rs tss := fun {rs tss} nm h => by
          induction h with
          | nil => exact .nil
          | cons h1 _ ih =>
            obtain ⟨us, g1, g2⟩ := h1
            exact .cons ⟨us, by rw [upd_ne (fun z => nm (by rw [← z]; exact .head _))]; exact sp _ _ g1, rpAll_ts ((ts_same sp).trans tsD) g2 (tOs_map enc_sg.tO _)⟩ (ih fun z => nm (.tail _ z))
        exact Paired.snoc (mv nDp hps) ⟨vs', by rw [upd_ne Dp.symm]; exact upd_same, rpAll_ts ((ts_same sp).trans tsD) hvs (tOs_map enc_sg.tO _)⟩
    · rintro H' ⟨s4, ps, hD, np, nDp, hps⟩
      have s13 := s1.trans s3
      rw [List.length_map, lrs, List.take_of_length_le (by rw [List.length_range]; exact Nat.le_refl _)] at hps
      exact q n en tl H' D ps (s13.trans s4) (s13.free nD) (fun r hr => s13.free (np r hr)) nDp ⟨hD, hps⟩
end
end My
/-! ### a list is empty -/
namespace My
open PySem PySem.Spec PyProof.Rows L2 PySem.Builtin.Str
theorem op_eqNil {X : Cx} (hu : X.A.units < cLine) : OpR X (compareOp .Eq) (fun x y H Q => ∃ a b xs, x = .ref a ∧ y = .ref b ∧ SqL X.K H a xs ∧ SqL X.K H b [] ∧ Q (.bl (decide (xs.length = 0))) H) := by
  intro pins s σ H x y v u Q I rx ry h
  obtain ⟨a, b, xs, rfl, rfl, h1, h2, q⟩ := h
  cases rx
  cases ry
  obtain ⟨its, r, pl, hz⟩ := I.list h1
  obtain ⟨its2, r2, pl2, hz2⟩ := I.list h2
  have l1 := r.length
  have l2 := r2.length
  have e2 : its2.toArray.size = 0 := by rw [List.size_toArray, ← l2]; rfl
  have e1 : its.toArray.size = xs.length := by rw [List.size_toArray, ← l1]
  by_cases z : xs.length = 0
  · refine SeqAt.eq_listAt (e := fun _ => true) pl.isList pl2.isList (by rw [e1, e2, z]) hu (fun j h1 h2 => absurd h2 (by rw [e2]; exact Nat.not_lt_zero _)) ⟨.bl true, H, I, ?_, ?_⟩
    · rw [e1, z]
      rfl
    · rw [decide_eq_true z] at q
      exact q
  · refine SeqAt.eq_list_lengthsAt pl.isList pl2.isList ?_ hu ⟨.bl false, H, I, rfl, ?_⟩
    · rw [e1, e2, bne_iff_ne]
      exact z
    · rw [decide_eq_false z] at q
      exact q
end My
/-! ### levels, without the law's -/
namespace My
open PySem PySem.Spec PyProof.Rows L2 PySem.Builtin.Str
def addT (l : List Sg) (t : Sg) : List Sg := if t ∈ l then l else l ++ [t]
def addTs (l ms : List Sg) : List Sg := ms.foldl addT l
theorem addT_mem {l : List Sg} {t u : Sg} : u ∈ addT l t ↔ u ∈ l ∨ u = t := by
  unfold addT
  split
  · rename_i h
    exact ⟨.inl, fun z => z.elim id fun e => by rw [e]; exact h⟩
  · rw [List.mem_append, List.mem_singleton]
theorem addTs_mem : ∀ {ms l : List Sg} {u : Sg}, u ∈ addTs l ms ↔ u ∈ l ∨ u ∈ ms
  | [], l, u => ⟨.inl, fun z => z.elim id fun e => nomatch e⟩
  | t :: ms, l, u => by
    show u ∈ addTs (addT l t) ms ↔ _
    rw [addTs_mem, addT_mem, List.mem_cons, or_assoc]
theorem addT_nodup {l : List Sg} {t : Sg} (nd : l.Nodup) : (addT l t).Nodup := by
  unfold addT
  split
  · exact nd
  · rename_i h
    rw [List.nodup_append]
    exact ⟨nd, (by simp), fun a ha b hb => by
      rw [List.mem_singleton.mp hb]
      rintro rfl
      exact h ha⟩
theorem addTs_nodup : ∀ {ms l : List Sg}, l.Nodup → (addTs l ms).Nodup
  | [], _, nd => nd
  | t :: ms, l, nd => addTs_nodup (ms := ms) (l := addT l t) (addT_nodup nd)
theorem addT_len (l : List Sg) (t : Sg) : (addT l t).length ≤ l.length + 1 := by
  unfold addT
  split
  · exact Nat.le_succ _
  · rw [List.length_append]
    exact Nat.le_refl _
theorem addTs_len : ∀ {ms l : List Sg}, (addTs l ms).length ≤ l.length + ms.length
  | [], _ => Nat.le_refl _
  | t :: ms, l => by
    have h1 := addTs_len (ms := ms) (l := addT l t)
    have h2 := addT_len l t
    show (addTs (addT l t) ms).length ≤ _
    rw [List.length_cons]
    omega
theorem addTs_app {a b l : List Sg} : addTs l (a ++ b) = addTs (addTs l a) b := List.foldl_append
theorem vT_add (l : List Sg) (t : Sg) : putA (vT l) t (.bl true) = vT (addT l t) := by
  unfold putA addT
  rw [vT_get]
  by_cases h : t ∈ l
  · rw [decide_eq_true h, if_pos rfl, if_pos h]
    unfold vT
    rw [List.map_map]
    refine List.map_congr_left fun u _ => ?_
    show (if u = t then (u, V.bl true) else (u, V.bl true)) = _
    split <;> rfl
  · rw [decide_eq_false h, if_neg h]
    unfold vT
    rw [List.map_append]
    rfl
/-- the successors at all letters -/
def onAll (C : Ct) (t : Sg) : List Sg := (List.range C.M.z.length).flatMap fun i => succOf C i t
def sucs (C : Ct) (ts : List Sg) : List Sg := addTs [] (ts.flatMap (onAll C))
theorem mem_sucs {C : Ct} {ts : List Sg} {u : Sg} : u ∈ sucs C ts ↔ ∃ t ∈ ts, ∃ i, i < C.M.z.length ∧ u ∈ succOf C i t := by
  unfold sucs
  rw [addTs_mem]
  constructor
  · rintro (h | h)
    · cases h
    · obtain ⟨t, ht, h⟩ := List.mem_flatMap.mp h
      obtain ⟨i, hi, h⟩ := List.mem_flatMap.mp h
      exact ⟨t, ht, i, List.mem_range.mp hi, h⟩
  · rintro ⟨t, ht, i, hi, h⟩
    exact .inr (List.mem_flatMap.mpr ⟨t, ht, List.mem_flatMap.mpr ⟨i, List.mem_range.mpr hi, h⟩⟩)
theorem sucs_nodup (C : Ct) (ts : List Sg) : (sucs C ts).Nodup := addTs_nodup List.nodup_nil
theorem onAll_len {C : Ct} (h : Cok C) (t : Sg) : (onAll C t).length ≤ 9 := by
  have h3 := (ltr_pos h.m.ltr).2
  have := flat_len (g := fun i => succOf C i t) (n := 3) (List.range C.M.z.length) fun i _ => succ_len h
  rw [List.length_range] at this
  unfold onAll
  omega
theorem sucs_len {C : Ct} (h : Cok C) (ts : List Sg) : (sucs C ts).length ≤ 9 * ts.length := by
  have h1 := addTs_len (ms := ts.flatMap (onAll C)) (l := [])
  have h2 := flat_len (g := onAll C) (n := 9) ts fun t _ => onAll_len h t
  rw [List.length_nil] at h1
  unfold sucs
  omega
theorem filter_sorted {l : List Sg} {f : Sg → Bool} (h : l.Pairwise fun a b => PySem.W.dataLe false eSg a b = true) : (l.filter f).Pairwise fun a b => PySem.W.dataLe false eSg a b = true := h.filter f
theorem sLv_mem {C : Ct} {n : Nat} {t : Sg} : t ∈ sLv C n ↔ t ∈ keysA (lvl C n) := (sortE_perm _).mem_iff
theorem sLv_nodup (C : Ct) (n : Nat) : (sLv C n).Nodup := (sortE_perm _).nodup_iff.mpr (lvl_nodup C n)
theorem sLv_len (C : Ct) (n : Nat) : (sLv C n).length = (lvl C n).length := by
  unfold sLv
  rw [(sortE_perm _).length_eq]
  exact List.length_map _
theorem next_mem {C : Ct} {n : Nat} {t : Sg} : t ∈ keysA (lvl C (n + 1)) ↔ t ∉ seenN C n ∧ ∃ u ∈ keysA (lvl C n), ∃ i, i < C.M.z.length ∧ t ∈ succOf C i u := by
  rw [lvl_succ, level_has]
  unfold okS
  rw [decide_eq_true_eq]
  refine and_congr_right fun _ => ⟨?_, ?_⟩
  · rintro ⟨w, h⟩
    obtain ⟨q, hq, i, hi, hu, _⟩ := mem_moves.mp h
    exact ⟨q.1, List.mem_map_of_mem (f := (·.1)) hq, i, hi, hu⟩
  · rintro ⟨u, hu, i, hi, h⟩
    obtain ⟨q, hq, rfl⟩ := List.mem_map.mp hu
    exact ⟨_, mem_moves.mpr ⟨q, hq, i, hi, h, rfl⟩⟩
theorem lvl_next (C : Ct) (n : Nat) : (sortE eSg (sucs C (sLv C n))).filter (fun t => decide (t ∉ seenN C n)) = sLv C (n + 1) := by
  refine sortE_eq enc_sg ?_ (filter_sorted (sortE_pair _))
  refine (List.perm_ext_iff_of_nodup (((sortE_perm _).nodup_iff.mpr (sucs_nodup C _)).filter _) (lvl_nodup C (n + 1))).mpr fun t => ?_
  rw [List.mem_filter, (sortE_perm _).mem_iff, mem_sucs, next_mem, decide_eq_true_eq, and_comm]
  refine and_congr_right fun _ => ?_
  constructor
  · rintro ⟨u, hu, h⟩
    exact ⟨u, sLv_mem.mp hu, h⟩
  · rintro ⟨u, hu, h⟩
    exact ⟨u, sLv_mem.mpr hu, h⟩
theorem sLv_ok {C : Ct} (h : Cok C) (n : Nat) : ∀ t ∈ sLv C n, Sok C t := fun t ht => by
  obtain ⟨q, hq, rfl⟩ := List.mem_map.mp (sLv_mem.mp ht)
  exact (lvl_ok h n q hq).1
theorem sLv_won (C : Ct) (n : Nat) : (sLv C n).any wonG = wonN C n := (sortE_perm _).any_eq
/-- what the law has seen -/
def seenS (C : Ct) : Nat → List Sg
  | 0 => [FIRSTg]
  | n + 1 => seenS C n ++ sLv C (n + 1)
theorem seenS_mem {C : Ct} : ∀ {n : Nat} {t : Sg}, t ∈ seenS C n ↔ t ∈ seenN C n
  | 0, _ => Iff.rfl
  | n + 1, t => by
    rw [seenS, seen_succ, List.mem_append, List.mem_append, seenS_mem, sLv_mem]
theorem seenS_len (C : Ct) : ∀ n, (seenS C n).length = tot C n
  | 0 => rfl
  | n + 1 => by
    rw [seenS, List.length_append, seenS_len C n, sLv_len, tot_succ]
theorem sLv_zero (C : Ct) : sLv C 0 = [FIRSTg] := (sortE_eq enc_sg (.refl _) (by simp [keysA, lvl, lvN])).symm
theorem LsL.get {K : PySem.W.Frag} {H : Hp} {a : Addr} {rs : List Addr} {C : Ct} {n i : Nat} (h : LsL K H a rs ((List.range (n + 1)).map (sLv C))) (hi : i ≤ n) : ∃ r us, rs[i]? = some r ∧ H r = some (.lst us) ∧ RpAll K H us ((sLv C i).map eSg) := by
  have l1 := Paired.length h.2
  rw [List.length_map, List.length_range] at l1
  have hr : rs[i]? = some rs[i] := List.getElem?_eq_getElem (by omega)
  obtain ⟨lv, e4, us, e5, e6⟩ := LiI.paired_get h.2 hr
  rw [List.getElem?_map, List.getElem?_range (by omega)] at e4
  obtain rfl := Option.some.inj e4
  exact ⟨_, us, hr, e5, e6⟩
theorem LsL.len {K : PySem.W.Frag} {H : Hp} {a : Addr} {rs : List Addr} {C : Ct} {n : Nat} (h : LsL K H a rs ((List.range n).map (sLv C))) : rs.length = n := by
  have l1 := Paired.length h.2
  rw [List.length_map, List.length_range] at l1
  exact l1
theorem LsL.move {K : PySem.W.Frag} {H H' : Hp} {a : Addr} {rs : List Addr} {tss : List (List Sg)} (h : LsL K H a rs tss) (t : TStay K H H') (ka : ∀ o, H a = some o → H' a = some o) (kr : ∀ r ∈ rs, ∀ o, H r = some o → H' r = some o) : LsL K H' a rs tss := by
  refine ⟨ka _ h.1, ?_⟩
  have : ∀ {rs : List Addr} {tss : List (List Sg)}, (∀ r ∈ rs, ∀ o, H r = some o → H' r = some o) → Paired (fun (r : Addr) (ts : List Sg) => ∃ us, H r = some (.lst us) ∧ RpAll K H us (ts.map eSg)) rs tss → Paired (fun (r : Addr) (ts : List Sg) => ∃ us, H' r = some (.lst us) ∧ RpAll K H' us (ts.map eSg)) rs tss := fun {rs tss} kr h => by
    induction h with
    | nil => exact .nil
    | cons h1 _ ih =>
      obtain ⟨us, e1, e2⟩ := h1
      exact .cons ⟨us, kr _ (.head _) _ e1, rpAll_ts t e2 (tOs_map enc_sg.tO _)⟩ (ih fun r hr => kr r (.tail _ hr))
  exact this kr h.2
theorem LsL.push {K : PySem.W.Frag} {H : Hp} {a r : Addr} {rs : List Addr} {tss : List (List Sg)} {us : List V} {ts : List Sg} (h : LsL K H a rs tss) (na : a ∉ rs) (hr : H r = some (.lst us)) (hu : RpAll K H us (ts.map eSg)) (ne : r ≠ a) : LsL K (upd H a (.lst (rs.map V.ref ++ [V.ref r]))) a (rs ++ [r]) (tss ++ [ts]) := by
  have t : TStay K H (upd H a (.lst (rs.map V.ref ++ [V.ref r]))) := ts_lst h.1
  refine ⟨by rw [upd_same, List.map_append]; rfl, ?_⟩
  have : ∀ {rs2 : List Addr} {tss : List (List Sg)}, a ∉ rs2 → Paired (fun (r : Addr) (ts : List Sg) => ∃ us, H r = some (.lst us) ∧ RpAll K H us (ts.map eSg)) rs2 tss → Paired (fun (r2 : Addr) (ts : List Sg) => ∃ us, (upd H a (.lst (rs.map V.ref ++ [V.ref r]))) r2 = some (.lst us) ∧ RpAll K (upd H a (.lst (rs.map V.ref ++ [V.ref r]))) us (ts.map eSg)) rs2 tss := fun {rs2 tss} na h => by
    induction h with
    | nil => exact .nil
    | cons h1 _ ih =>
      obtain ⟨us, e1, e2⟩ := h1
      exact .cons ⟨us, by rw [upd_ne (fun z => na (by rw [← z]; exact .head _))]; exact e1, rpAll_ts t e2 (tOs_map enc_sg.tO _)⟩ (ih fun hr => na (.tail _ hr))
  exact Paired.snoc (this na h.2) ⟨us, by rw [upd_ne ne]; exact hr, rpAll_ts t hu (tOs_map enc_sg.tO _)⟩
/-- a test's reading, weakened: whoever reads it may ask for less -/
def tMonoT (t : TT) : TT := fun σ H Q => ∃ Q0 : Bool → Hp → Prop, t σ H Q0 ∧ ∀ b H1, Q0 b H1 → Q b H1
theorem pt_monoT {X : Cx} {e : Expr} {t : TT} (h : PT X e t) : PT X e (tMonoT t) := by
  refine ⟨fun pins s σ H Q I q => ?_⟩
  obtain ⟨Q0, q0, w⟩ := q
  exact thn (h.run pins s σ H Q0 I q0) fun u s1 ⟨H1, I1, q1⟩ => ⟨H1, I1, w u H1 q1⟩
theorem op_eqDK {X : Cx} {K : PySem.W.Frag} (e : X.K = K) (hu : X.A.units + 64 < cLine) : OpR X (compareOp .Eq) (rEqD K) := by
  subst e
  exact op_eqD hu
theorem pc_enotinK {X : Cx} {P : Program} {w : World} {K : PySem.W.Frag} {o i : Expr} {td ty : TE} (h1 : X.prog = P) (h2 : X.w = w) (h3 : X.K = K) (hu : X.A.units + 9 < cLine) (hi : PE X i ty) (ho : PE X o td) : PC X .NotIn i o (tENotIn P w K ty td) := by
  subst h1 h2 h3
  exact pc_enotin hu hi ho
end My
/-! ### a tuple's names -/
namespace My
open PySem PySem.Spec PyProof.Rows L2 PySem.Builtin.Str
theorem pgT {X : Cx} {K : PySem.W.Frag} {es : List Expr} {k : Nat} {pos : Pos} {t : TGs} {n : Nat} (e : X.K = K) (hc : X.calm = true) (h : PGs X es t)
    (hn : (assignEach es X.env).length = n := by rfl) (hst : (assignEach es X.env).findIdx? (·.1) = none := by rfl) : PG X (.Tuple es k pos) (gTup K n t) := by
  subst e
  exact pg_tup hc h hn hst
end My
/-! ### data that is bent -/
namespace My
open PySem PySem.Spec PyProof.Rows L2
mutual
/-- ints below 10 ** B, small letters, no dict but {} -/
def lf (B : Nat) : PyData → Bool
  | .int i => decide (i.natAbs < 10 ^ B)
  | .str z => z.cps.toList.all fun c => decide (c ≤ 1000)
  | .tuple ds => lfs B ds
  | .list ds => lfs B ds
  | .dict ds => ds.isEmpty
  | .none => true
  | .bool _ => true
def lfs (B : Nat) : List PyData → Bool
  | [] => true
  | x :: xs => lf B x && lfs B xs
end
mutual
theorem lf_sd : ∀ d : PyData, lf 39 d = true → d.showable = true ∧ d.leavesShort 40 = true
  | .none, _ => ⟨rfl, rfl⟩
  | .bool _, _ => ⟨rfl, rfl⟩
  | .int i, h => by
    rw [lf, decide_eq_true_eq] at h
    have := sd_int h
    exact ⟨this.sh, this.lv⟩
  | .str z, h => by
    rw [lf, List.all_eq_true] at h
    have := sd_str (z := z) (n := z.length) (fun c hc => of_decide_eq_true (h c hc)) (Nat.le_refl _)
    exact ⟨this.sh, this.lv⟩
  | .tuple ds, h => by
    rw [lf] at h
    have := lfs_sd ds h
    exact ⟨by rw [PyData.showable]; exact this.1, by rw [PyData.leavesShort]; exact this.2⟩
  | .list ds, h => by
    rw [lf] at h
    have := lfs_sd ds h
    exact ⟨by rw [PyData.showable]; exact this.1, by rw [PyData.leavesShort]; exact this.2⟩
  | .dict ds, h => by
    rw [lf] at h
    cases ds with
    | nil => exact ⟨rfl, rfl⟩
    | cons a b => cases h
theorem lfs_sd : ∀ ds : List PyData, lfs 39 ds = true → PyData.showableAll ds = true ∧ PyData.leavesShortAll 40 ds = true
  | [], _ => ⟨rfl, rfl⟩
  | x :: xs, h => by
    rw [lfs, Bool.and_eq_true] at h
    have h1 := lf_sd x h.1
    have h2 := lfs_sd xs h.2
    exact ⟨by rw [PyData.showableAll, h1.1, h2.1]; rfl, by rw [PyData.leavesShortAll, h1.2, h2.2]; rfl⟩
end
mutual
theorem lf_mono : ∀ d : PyData, lf 38 d = true → lf 39 d = true
  | .none, _ => rfl
  | .bool _, _ => rfl
  | .int i, h => by
    rw [lf, decide_eq_true_eq] at h ⊢
    exact Nat.lt_trans h (by decide)
  | .str z, h => by
    rw [lf] at h ⊢
    exact h
  | .tuple ds, h => by
    rw [lf] at h ⊢
    exact lfs_mono ds h
  | .list ds, h => by
    rw [lf] at h ⊢
    exact lfs_mono ds h
  | .dict ds, h => by
    rw [lf] at h ⊢
    exact h
theorem lfs_mono : ∀ ds : List PyData, lfs 38 ds = true → lfs 39 ds = true
  | [], _ => rfl
  | x :: xs, h => by
    rw [lfs, Bool.and_eq_true] at h ⊢
    exact ⟨lf_mono x h.1, lfs_mono xs h.2⟩
end
theorem lfs_all {B : Nat} : ∀ ds : List PyData, lfs B ds = true ↔ ∀ d ∈ ds, lf B d = true
  | [] => by simp [lfs]
  | x :: xs => by
    rw [lfs, Bool.and_eq_true, lfs_all xs]
    simp
theorem nl_all : ∀ ds : List PyData, noLists ds = true ↔ ∀ d ∈ ds, noList d = true
  | [] => by simp [noLists]
  | x :: xs => by
    rw [noLists, Bool.and_eq_true, nl_all xs]
    simp
theorem nd_all : ∀ ds : List PyData, PyData.hasDictAll ds = false ↔ ∀ d ∈ ds, d.hasDict = false
  | [] => by simp [PyData.hasDictAll]
  | x :: xs => by
    rw [PyData.hasDictAll, Bool.or_eq_false_iff, nd_all xs]
    simp
theorem dp_all {D : Nat} : ∀ ds : List PyData, PyData.depthAll ds ≤ D ↔ ∀ d ∈ ds, d.depth ≤ D
  | [] => by simp [PyData.depthAll]
  | x :: xs => by
    rw [PyData.depthAll, Nat.max_le, dp_all xs]
    simp
theorem wt_app : ∀ a b : List PyData, PyData.weightAll (a ++ b) = PyData.weightAll a + PyData.weightAll b
  | [], b => by simp [PyData.weightAll]
  | x :: a, b => by
    rw [List.cons_append, PyData.weightAll, PyData.weightAll, wt_app a b]
    omega
theorem wt_rev : ∀ a : List PyData, PyData.weightAll a.reverse = PyData.weightAll a
  | [] => rfl
  | x :: a => by
    rw [List.reverse_cons, wt_app, wt_rev a, PyData.weightAll, PyData.weightAll, PyData.weightAll]
    omega
theorem wt_cut (ds : List PyData) (k : Nat) : PyData.weightAll (ds.take k) + PyData.weightAll (ds.drop k) = PyData.weightAll ds := by
  rw [← wt_app, List.take_append_drop]
theorem wt_at {ds : List PyData} {k : Nat} {e : PyData} (h : ds[k]? = some e) : PyData.weightAll (ds.take k) + (e.weight + 1) + PyData.weightAll (ds.drop (k + 1)) = PyData.weightAll ds := by
  obtain ⟨hk, he⟩ := List.getElem?_eq_some_iff.mp h
  have := wt_cut ds k
  rw [List.drop_eq_getElem_cons hk, he, PyData.weightAll] at this
  omega
/-- what may be bent -/
structure In (d : PyData) : Prop where
  lf : lf 38 d = true
  nl : noList d = true
  nd : d.hasDict = false
/-- what comes of it -/
structure Ob (D W : Nat) (d : PyData) : Prop where
  lf : lf 39 d = true
  dp : d.depth ≤ D
  wt : d.weight ≤ W
  no : noList d = true ∨ d.hasDict = false
theorem Ob.mono {D W D' W' : Nat} {d : PyData} (h : Ob D W d) (a : D ≤ D') (b : W ≤ W') : Ob D' W' d := ⟨h.lf, Nat.le_trans h.dp a, Nat.le_trans h.wt b, h.no⟩
theorem Ob.sd {D W : Nat} {d : PyData} (h : Ob D W d) : Sd D W d := ⟨(lf_sd d h.lf).1, h.dp, (lf_sd d h.lf).2, h.wt⟩
theorem In.ob {d : PyData} (h : In d) : Ob d.depth d.weight d := ⟨lf_mono d h.lf, Nat.le_refl _, Nat.le_refl _, .inl h.nl⟩
def obB (D W : Nat) (d : PyData) : Bool := lf 39 d && (decide (d.depth ≤ D) && (decide (d.weight ≤ W) && (noList d || !d.hasDict)))
theorem obB_ob {D W : Nat} {d : PyData} (h : obB D W d = true) : Ob D W d := by
  rw [obB, Bool.and_eq_true, Bool.and_eq_true, Bool.and_eq_true, decide_eq_true_eq, decide_eq_true_eq, Bool.or_eq_true] at h
  refine ⟨h.1, h.2.1, h.2.2.1, h.2.2.2.imp id fun e => ?_⟩
  cases q : d.hasDict with
  | false => rfl
  | true =>
    rw [q] at e
    cases e
theorem in_tup {ds : List PyData} (h : In (.tuple ds)) : ∀ d ∈ ds, In d := fun d hd => by
  have h1 := h.lf
  rw [My.lf, lfs_all] at h1
  have h2 := h.nl
  rw [noList, nl_all] at h2
  have h3 := h.nd
  rw [PyData.hasDict, nd_all] at h3
  exact ⟨h1 d hd, h2 d hd, h3 d hd⟩
theorem ob_tup {D W : Nat} {ds : List PyData} (h : ∀ d ∈ ds, In d ∧ d.depth ≤ D) (w : PyData.weightAll ds ≤ W) : Ob (D + 1) W (.tuple ds) := by
  refine ⟨?_, ?_, ?_, .inl ?_⟩
  · rw [My.lf, lfs_all]
    exact fun d hd => lf_mono d (h d hd).1.lf
  · rw [PyData.depth]
    exact Nat.succ_le_succ ((dp_all ds).mpr fun d hd => (h d hd).2)
  · rw [PyData.weight]
    exact w
  · rw [noList, nl_all]
    exact fun d hd => (h d hd).1.nl
theorem ob_lst {D W : Nat} {ds : List PyData} (h : ∀ d ∈ ds, In d ∧ d.depth ≤ D) (w : PyData.weightAll ds ≤ W) : Ob (D + 1) W (.list ds) := by
  refine ⟨?_, ?_, ?_, .inr ?_⟩
  · rw [My.lf, lfs_all]
    exact fun d hd => lf_mono d (h d hd).1.lf
  · rw [PyData.depth]
    exact Nat.succ_le_succ ((dp_all ds).mpr fun d hd => (h d hd).2)
  · rw [PyData.weight]
    exact w
  · rw [PyData.hasDict, nd_all]
    exact fun d hd => (h d hd).1.nd
theorem ob_rep {D : Nat} {ds : List PyData} {k : Nat} {e b : PyData} (h : ∀ d ∈ ds, In d ∧ d.depth ≤ D) (hk : ds[k]? = some e) (hb : Ob (D + 2) (2 * e.weight + 200) b) : Ob (D + 3) (2 * PyData.weightAll ds + 200) (.tuple (ds.take k ++ b :: ds.drop (k + 1))) := by
  have mem : ∀ d ∈ ds.take k ++ b :: ds.drop (k + 1), d = b ∨ (In d ∧ d.depth ≤ D) := fun d hd => by
    rcases List.mem_append.mp hd with m | m
    · exact .inr (h d (List.mem_of_mem_take m))
    · rcases List.mem_cons.mp m with m | m
      · exact .inl m
      · exact .inr (h d (List.mem_of_mem_drop m))
  refine ⟨?_, ?_, ?_, ?_⟩
  · rw [My.lf, lfs_all]
    intro d hd
    rcases mem d hd with rfl | m
    · exact hb.lf
    · exact lf_mono d m.1.lf
  · rw [PyData.depth]
    refine Nat.succ_le_succ ((dp_all _).mpr fun d hd => ?_)
    rcases mem d hd with rfl | m
    · exact hb.dp
    · have := m.2
      omega
  · rw [PyData.weight, wt_app, PyData.weightAll]
    have := wt_at hk
    have := hb.wt
    omega
  · refine hb.no.imp (fun z => ?_) fun z => ?_
    · rw [noList, nl_all]
      intro d hd
      rcases mem d hd with rfl | m
      · exact z
      · exact m.1.nl
    · rw [PyData.hasDict, nd_all]
      intro d hd
      rcases mem d hd with rfl | m
      · exact z
      · exact m.1.nd
/-! data of tuples, that stays while tuples stay -/
mutual
inductive Rt (K : PySem.W.Frag) (H : Hp) : V → PyData → Prop
  | non : Rt K H .non .none
  | bl (b : Bool) : Rt K H (.bl b) (.bool b)
  | int (i : Int) : Rt K H (.int i) (.int i)
  | str (z : Str) (h : z.length ≤ sizeLine) : Rt K H (.str z) (.str z)
  | tup {a : Addr} {xs : List V} {ds : List PyData} (h : SqT K H a xs) (t : RtAll K H xs ds) : Rt K H (.ref a) (.tuple ds)
inductive RtAll (K : PySem.W.Frag) (H : Hp) : List V → List PyData → Prop
  | nil : RtAll K H [] []
  | cons {v : V} {d : PyData} {vs : List V} {ds : List PyData} (h : Rt K H v d) (t : RtAll K H vs ds) : RtAll K H (v :: vs) (d :: ds)
end
mutual
theorem Rt.go {K : PySem.W.Frag} {H H' : Hp} (s : TStay K H H') : ∀ {v : V} {d : PyData}, Rt K H v d → Rt K H' v d
  | _, _, .non => .non
  | _, _, .bl b => .bl b
  | _, _, .int i => .int i
  | _, _, .str z h => .str z h
  | _, _, .tup h t => .tup (s _ _ h) (RtAll.go s t)
theorem RtAll.go {K : PySem.W.Frag} {H H' : Hp} (s : TStay K H H') : ∀ {vs : List V} {ds : List PyData}, RtAll K H vs ds → RtAll K H' vs ds
  | _, _, .nil => .nil
  | _, _, .cons h t => .cons (Rt.go s h) (RtAll.go s t)
end
mutual
theorem Rt.rp {K : PySem.W.Frag} {H : Hp} : ∀ {v : V} {d : PyData}, Rt K H v d → Rp K H v d
  | _, _, .non => .non
  | _, _, .bl b => .bl b
  | _, _, .int i => .int i
  | _, _, .str z h => .str z h
  | _, _, .tup h t => .tup h (RtAll.rp t)
theorem RtAll.rp {K : PySem.W.Frag} {H : Hp} : ∀ {vs : List V} {ds : List PyData}, RtAll K H vs ds → RpAll K H vs ds
  | _, _, .nil => .nil
  | _, _, .cons h t => .cons (Rt.rp h) (RtAll.rp t)
end
mutual
theorem Rt.no {K : PySem.W.Frag} {H : Hp} : ∀ {v : V} {d : PyData}, Rt K H v d → noList d = true ∧ d.hasDict = false
  | _, _, .non => ⟨rfl, by simp [PyData.hasDict]⟩
  | _, _, .bl b => ⟨rfl, by simp [PyData.hasDict]⟩
  | _, _, .int i => ⟨rfl, by simp [PyData.hasDict]⟩
  | _, _, .str z h => ⟨rfl, by simp [PyData.hasDict]⟩
  | _, _, .tup h t => by
    rw [noList, PyData.hasDict]
    exact RtAll.no t
theorem RtAll.no {K : PySem.W.Frag} {H : Hp} : ∀ {vs : List V} {ds : List PyData}, RtAll K H vs ds → noLists ds = true ∧ PyData.hasDictAll ds = false
  | _, _, .nil => ⟨rfl, by simp [PyData.hasDictAll]⟩
  | _, _, .cons h t => by
    have h1 := Rt.no h
    have h2 := RtAll.no t
    rw [noLists, PyData.hasDictAll, h1.1, h1.2, h2.1, h2.2]
    exact ⟨rfl, rfl⟩
end
theorem Rt.in {K : PySem.W.Frag} {H : Hp} {v : V} {d : PyData} (h : Rt K H v d) (l : lf 38 d = true) : In d := ⟨l, h.no.1, h.no.2⟩
theorem RtAll.len {K : PySem.W.Frag} {H : Hp} : ∀ {vs : List V} {ds : List PyData}, RtAll K H vs ds → vs.length = ds.length
  | _, _, .nil => rfl
  | _, _, .cons _ t => by rw [List.length_cons, List.length_cons, t.len]
theorem RtAll.at {K : PySem.W.Frag} {H : Hp} : ∀ {vs : List V} {ds : List PyData}, RtAll K H vs ds → ∀ {i : Nat} {v : V}, vs[i]? = some v → ∃ d, ds[i]? = some d ∧ Rt K H v d
  | _, _, .nil, _, _, e => by simp at e
  | _, _, .cons h t, 0, _, e => by
    cases e
    exact ⟨_, rfl, h⟩
  | _, _, .cons h t, i + 1, _, e => t.at (by simpa using e)
theorem RtAll.app {K : PySem.W.Frag} {H : Hp} : ∀ {vs us : List V} {ds es : List PyData}, RtAll K H vs ds → RtAll K H us es → RtAll K H (vs ++ us) (ds ++ es)
  | _, _, _, _, .nil, h => h
  | _, _, _, _, .cons a t, h => .cons a (t.app h)
theorem rtAll_of {K : PySem.W.Frag} {H : Hp} {α : Type} {f : α → V} {g : α → PyData} : ∀ {l : List α}, (∀ a ∈ l, Rt K H (f a) (g a)) → RtAll K H (l.map f) (l.map g)
  | [], _ => .nil
  | a :: l, h => .cons (h a (.head _)) (rtAll_of fun b hb => h b (.tail _ hb))
theorem rtAll_rep {K : PySem.W.Frag} {H : Hp} {v : V} {d : PyData} (h : Rt K H v d) : ∀ n, RtAll K H (List.replicate n v) (List.replicate n d)
  | 0 => .nil
  | n + 1 => .cons h (rtAll_rep h n)
theorem ts_butN {K : PySem.W.Frag} {p : Addr} {n : Nat} {H H' : Hp} (h : Pen H p n) (b : ButN p H H') : TStay K H H' := fun a xs e => by
  obtain ⟨ys, hp⟩ := h.ls
  have ne : ∀ o, H a = some o → (∃ ks, o = .tup ks) ∨ (∃ u ks, o = .frz u (.tup ks)) → a ≠ p := fun o e ho z => by
    rw [z, hp] at e
    cases e
    rcases ho with ⟨_, ho⟩ | ⟨_, _, ho⟩ <;> cases ho
  rcases e with (e | ⟨u, e⟩) | e
  · exact .inl (.inl (b _ _ (ne _ e (.inl ⟨_, rfl⟩)) e (fun _ z => nomatch z)))
  · exact .inl (.inr ⟨u, b _ _ (ne _ e (.inr ⟨_, _, rfl⟩)) e (fun _ z => nomatch z)⟩)
  · exact .inr e
theorem rs_of {K : PySem.W.Frag} {p : Addr} {n : Nat} {H : Hp} {v : V} {d : PyData} (h : Pen H p n) (hv : Rp K H v d) (t : tO d = true) : Rs p K H v d := fun H' b => rp_ts (ts_butN h b) hv t
theorem Rt.rs {p : Addr} {K : PySem.W.Frag} {H : Hp} {n : Nat} {x : V} {d : PyData} (h : Rt K H x d) (hp : Pen H p n) : Rs p K H x d := fun H' b => (h.go (ts_butN hp b)).rp
theorem RpAll.app {K : PySem.W.Frag} {H : Hp} : ∀ {vs us : List V} {ds es : List PyData}, RpAll K H vs ds → RpAll K H us es → RpAll K H (vs ++ us) (ds ++ es)
  | _, _, _, _, .nil, h => h
  | _, _, _, _, .cons a t, h => .cons a (t.app h)
theorem RpAll.drop {K : PySem.W.Frag} {H : Hp} : ∀ {vs : List V} {ds : List PyData} (i : Nat), RpAll K H vs ds → RpAll K H (vs.drop i) (ds.drop i)
  | _, _, 0, h => h
  | _, _, _ + 1, .nil => .nil
  | _, _, i + 1, .cons h t => RpAll.drop i t
theorem RpAll.rev {K : PySem.W.Frag} {H : Hp} : ∀ {vs : List V} {ds : List PyData}, RpAll K H vs ds → RpAll K H vs.reverse ds.reverse
  | _, _, .nil => .nil
  | _, _, .cons h t => by
    rw [List.reverse_cons, List.reverse_cons]
    exact t.rev.app (.cons h .nil)
theorem ob_int {i : Int} (h : i.natAbs < 10 ^ 39) : Ob 0 200 (.int i) := by
  refine ⟨?_, Nat.le_refl _, ?_, .inl rfl⟩
  · rw [My.lf]
    exact decide_eq_true h
  · exact Nat.le_trans (sd_int h).wt (by decide)
theorem RpAll.take {K : PySem.W.Frag} {H : Hp} : ∀ {vs : List V} {ds : List PyData} (i : Nat), RpAll K H vs ds → RpAll K H (vs.take i) (ds.take i)
  | _, _, 0, _ => by simpa using RpAll.nil
  | _, _, _ + 1, .nil => .nil
  | _, _, i + 1, .cons h t => .cons h (RpAll.take i t)
theorem cut_take (xs : List V) (i : Nat) (h : i ≤ xs.length) : cutV xs none (some (i : Int)) = xs.take i := by
  show (xs.drop _).take _ = _
  rw [HT.sIx_nat, show HT.sIx xs.length 0 none = 0 from rfl, List.drop_zero, Nat.min_eq_left h]
  rfl
theorem cut_drop (xs : List V) (i : Nat) (h : i ≤ xs.length) : cutV xs (some (i : Int)) none = xs.drop i := by
  show (xs.drop _).take _ = _
  rw [HT.sIx_nat, show HT.sIx xs.length xs.length none = xs.length from rfl, Nat.min_eq_left h]
  exact List.take_of_length_le (by rw [List.length_drop]; omega)
theorem cut_one (xs : List V) (i : Nat) (h : i + 1 ≤ xs.length) : cutV xs (some (i : Int)) (some ((i : Int) + 1)) = (xs.drop i).take 1 := by
  show (xs.drop _).take _ = _
  rw [show (i : Int) + 1 = ((i + 1 : Nat) : Int) by omega, HT.sIx_nat, HT.sIx_nat, Nat.min_eq_left h, Nat.min_eq_left (show i ≤ xs.length by omega)]
  congr 1
  omega
theorem rs_tupS {K : PySem.W.Frag} {p : Addr} {n : Nat} {H : Hp} {a : Addr} {xs : List V} {ds : List PyData} (h : Pen H p n) (hs : SqT K H a xs) (r : RsAll p K H xs ds) : Rs p K H (.ref a) (.tuple ds) := fun H' b => .tup (ts_butN h b _ _ hs) (r H' b)
theorem RsAll.atS {K : PySem.W.Frag} {p : Addr} {H : Hp} {vs : List V} {ds : List PyData} (h : RsAll p K H vs ds) {i : Nat} {v : V} (e : vs[i]? = some v) : ∃ d, ds[i]? = some d ∧ Rs p K H v d := by
  obtain ⟨d, hd, _⟩ := h.rp.at e
  refine ⟨d, hd, fun H' b => ?_⟩
  obtain ⟨d', hd', r⟩ := (h H' b).at e
  rw [hd] at hd'
  cases hd'
  exact r
theorem RsAll.app {K : PySem.W.Frag} {p : Addr} {H : Hp} {vs us : List V} {ds es : List PyData} (a : RsAll p K H vs ds) (b : RsAll p K H us es) : RsAll p K H (vs ++ us) (ds ++ es) := fun H' h => (a H' h).app (b H' h)
theorem RsAll.take {K : PySem.W.Frag} {p : Addr} {H : Hp} {vs : List V} {ds : List PyData} (i : Nat) (a : RsAll p K H vs ds) : RsAll p K H (vs.take i) (ds.take i) := fun H' h => (a H' h).take i
theorem RsAll.drop {K : PySem.W.Frag} {p : Addr} {H : Hp} {vs : List V} {ds : List PyData} (i : Nat) (a : RsAll p K H vs ds) : RsAll p K H (vs.drop i) (ds.drop i) := fun H' h => (a H' h).drop i
theorem RsAll.rev {K : PySem.W.Frag} {p : Addr} {H : Hp} {vs : List V} {ds : List PyData} (a : RsAll p K H vs ds) : RsAll p K H vs.reverse ds.reverse := fun H' h => (a H' h).rev
theorem rsAll_rt {K : PySem.W.Frag} {p : Addr} {n : Nat} {H : Hp} {vs : List V} {ds : List PyData} (h : RtAll K H vs ds) (hp : Pen H p n) : RsAll p K H vs ds := fun H' b => (h.go (ts_butN hp b)).rp
mutual
theorem rt_of {K : PySem.W.Frag} {H : Hp} : ∀ {d : PyData} {v : V}, Rp K H v d → tO d = true → Rt K H v d
  | .none, _, h, _ => by
    cases h
    exact .non
  | .bool _, _, h, _ => by
    cases h
    exact .bl _
  | .int _, _, h, _ => by
    cases h
    exact .int _
  | .str _, _, h, _ => by
    cases h with
    | str _ hz => exact .str _ hz
  | .list _, _, _, t => by simp [tO] at t
  | .dict _, _, _, t => by simp [tO] at t
  | .tuple ds, _, h, t => by
    cases h with
    | tup h1 h2 => exact .tup h1 (rtAll_ofR h2 (by simpa only [tO] using t))
theorem rtAll_ofR {K : PySem.W.Frag} {H : Hp} : ∀ {ds : List PyData} {vs : List V}, RpAll K H vs ds → tOs ds = true → RtAll K H vs ds
  | [], _, h, _ => by
    cases h
    exact .nil
  | d :: ds, _, h, t => by
    cases h with
    | cons h1 h2 =>
      rw [tOs, Bool.and_eq_true] at t
      exact .cons (rt_of h1 t.1) (rtAll_ofR h2 t.2)
end
end My
/-! ### standings as data -/
namespace My
open PySem PySem.Spec PyProof.Rows L2 PySem.Builtin.Str
theorem lay_sg (t : Sg) : PyData.canLay0 (eSg t) = true ∧ (eSg t).depth ≤ 3 ∧ (eSg t).hasDict = false := by
  have l := lay_eP t.L
  have l2 := l.2.1
  refine ⟨by simp [eSg, PyData.canLay0, PyData.canLayAll0, l.1], ?_, by simp [eSg, PyData.hasDict, PyData.hasDictAll, l.2.2]⟩
  simp only [eSg, PyData.depth, PyData.depthAll]
  omega
theorem lay_sgs : ∀ ts : List Sg, PyData.canLayAll0 (ts.map eSg) = true ∧ PyData.depthAll (ts.map eSg) ≤ 3 ∧ PyData.hasDictAll (ts.map eSg) = false
  | [] => by simp [PyData.canLayAll0, PyData.depthAll, PyData.hasDictAll]
  | t :: ts => by
    have ih := lay_sgs ts
    have h := lay_sg t
    refine ⟨by simp [PyData.canLayAll0, ih.1, h.1], ?_, by simp [PyData.hasDictAll, ih.2.2, h.2.2]⟩
    rw [List.map_cons, PyData.depthAll]
    omega
theorem eqv_pairs_self : ∀ l : List (Int × Int), PyData.eqvAll (l.map eP) (l.map eP) = true
  | [] => rfl
  | a :: l => by
    rw [List.map_cons, PyData.eqvAll, eqv_eP, eqv_pairs_self l]
    simp
theorem eqv_sg (u t : Sg) : PyData.eqv (eSg u) (eSg t) = decide (u = t) := by
  by_cases e : u = t
  · subst e
    rw [decide_eq_true rfl]
    simp [eSg, PyData.eqv, PyData.eqvAll, eqv_pairs_self]
  · rw [decide_eq_false e]
    rcases SrtO.bcase (PyData.eqv (eSg u) (eSg t)) with h | h
    · exact absurd (enc_sg.eqv _ _ h) e
    · exact h
theorem any_sg (ts : List Sg) (t : Sg) : ((ts.map eSg).any fun z => PyData.eqv z (eSg t)) = decide (t ∈ ts) := by
  rw [List.any_map, Bool.eq_iff_iff, List.any_eq_true, decide_eq_true_eq]
  constructor
  · rintro ⟨u, hu, h⟩
    have h : PyData.eqv (eSg u) (eSg t) = true := h
    rw [eqv_sg, decide_eq_true_eq] at h
    rw [← h]
    exact hu
  · intro h
    refine ⟨t, h, ?_⟩
    show PyData.eqv (eSg t) (eSg t) = true
    rw [eqv_sg]
    exact decide_eq_true rfl
theorem op_inDK {X : Cx} {K : PySem.W.Frag} (e : X.K = K) (hu : X.A.units + 65 < cLine) : OpR X (compareOp .In) (rInD K) := by
  subst e
  exact op_inD hu
end My
/-! ### is_exactly -/
namespace My
open PySem PySem.Spec PyProof.Rows L2 PySem.Builtin.Str
abbrev sIsEx : Stmt := topS 43
theorem scIsEx : FnScope ["thing", "right", "key", "part", "like"] ["thing", "right"] (defScope sIsEx) := ⟨rfl, rfl, rfl, by decide +kernel, rfl, by decide +kernel, by decide +kernel⟩
structure ExTxt (K : PySem.W.Frag) (mg : Str → Option Value) (x1 : Addr) (y1 : FuncData) : Prop where
  type : mg "type" = none
  dict : mg "dict" = none
  list : mg "list" = none
  tuple : mg "tuple" = none
  int : mg "int" = none
  len : mg "len" = none
  all : mg "all" = none
  zip : mg "zip" = none
  FIsEx : Fun K "is_exactly" "is_exactly" sIsEx x1 y1
  bIsEx : Binds K y1 ["thing", "right"] []
  gIsEx : mg "is_exactly" = some (.ref x1)
open Classical in
noncomputable def exD (d e : PyData) : Bool := decide (d = e)
def spIsEx (K : PySem.W.Frag) (D : Nat) : Sp := fun vs H Q _ => ∃ (x y : V) (d e : PyData), vs = [x, y] ∧ Rp K H x d ∧ Rp K H y e ∧ e.hasDict = false ∧ d.depth < D ∧ d.weight ≤ 1000000 ∧ ∀ H', Same H H' → Q (.bl (exD d e)) H'
theorem walk_zipT {K : PySem.W.Frag} {a b : Addr} {xs ys : List V} {n : Nat} (hn : n = min xs.length ys.length) : Walk (RZ.ItzT K a b) n (fun H => SqT K H a xs ∧ SqT K H b ys) (YPair (fun i => xs[i]?) (fun i => ys[i]?)) := by
  subst hn
  refine ⟨fun i _ hi q => ?_, fun _ q => ⟨xs, ys, q.1, q.2, by omega⟩, fun i H v H' _ q y => ?_⟩
  · have h1 : i < xs.length := by omega
    have h2 : i < ys.length := by omega
    exact ⟨xs, ys, xs[i], ys[i], q.1, q.2, by simp [h1], by simp [h2]⟩
  · obtain ⟨T, x, z, h1, h2, h3, h4, h5⟩ := y
    exact ⟨T, x, z, h1, h2, h3, h4 xs q.1, h5 ys q.2⟩
theorem exnd_of : ∀ {es : List PyData}, PyData.hasDictAll es = false → ∀ e ∈ es, e.hasDict = false
  | _ :: _, h, e, he => by
    rw [PyData.hasDictAll, Bool.or_eq_false_iff] at h
    rcases List.mem_cons.mp he with rfl | he
    · exact h.1
    · exact exnd_of h.2 e he
theorem exdp_of : ∀ {ds : List PyData}, ∀ d ∈ ds, d.depth ≤ PyData.depthAll ds
  | _ :: _, d, hd => by
    rw [PyData.depthAll]
    rcases List.mem_cons.mp hd with rfl | hd
    · exact Nat.le_max_left _ _
    · exact Nat.le_trans (exdp_of d hd) (Nat.le_max_right _ _)
theorem exwt_of : ∀ {ds : List PyData}, ∀ d ∈ ds, d.weight ≤ PyData.weightAll ds
  | _ :: _, d, hd => by
    rw [PyData.weightAll]
    rcases List.mem_cons.mp hd with rfl | hd
    · omega
    · have := exwt_of d hd
      omega
theorem exD_true {d e : PyData} (h : d = e) : exD d e = true := by
  exact @decide_eq_true _ (Classical.propDecidable _) h
theorem exD_false {d e : PyData} (h : ¬ d = e) : exD d e = false := by
  exact @decide_eq_false _ (Classical.propDecidable _) h
theorem exD_of {d e : PyData} (h : exD d e = true) : d = e := by
  exact @of_decide_eq_true _ (Classical.propDecidable _) h
theorem same_lst {K : PySem.W.Frag} {H H' : Hp} {a : Addr} {xs : List V} (s : Same H H') (h : SqL K H a xs) : SqL K H' a xs := by
  rcases h with (h | ⟨u, h⟩) | h
  · exact .inl (.inl (s _ _ h))
  · exact .inl (.inr ⟨u, s _ _ h⟩)
  · exact .inr h
theorem exD_dec {d e : PyData} {x y : V} (h : d = e ↔ x = y) : exD d e = decide (x = y) := by
  by_cases z : d = e
  · rw [exD_true z, decide_eq_true (h.mp z)]
  · rw [exD_false z, decide_eq_false fun y => z (h.mpr y)]
theorem exD_congr {d e d' e' : PyData} (h : d = e ↔ d' = e') : exD d e = exD d' e' := by
  by_cases z : d = e
  · rw [exD_true z, exD_true (h.mp z)]
  · rw [exD_false z, exD_false fun y => z (h.mpr y)]
noncomputable def exL (ds es : List PyData) : List Bool := (ds.zip es).map fun p => exD p.1 p.2
theorem exL_all : ∀ {ds es : List PyData}, ds.length = es.length → ((exL ds es).all id = true ↔ ds = es)
  | [], [], _ => ⟨fun _ => rfl, fun _ => rfl⟩
  | d :: ds, e :: es, h => by
    have ih := exL_all (ds := ds) (es := es) (by simpa using h)
    show (exD d e && (exL ds es).all id) = true ↔ _
    rw [Bool.and_eq_true, ih]
    constructor
    · rintro ⟨h1, h2⟩
      rw [exD_of h1, h2]
    · intro h3
      injection h3 with h4 h5
      exact ⟨exD_true h4, h5⟩
theorem call_type1K {X : Cx} {K : PySem.W.Frag} (e : X.K = K) : CallR X (.type "type") (rTyp K) := by
  subst e
  exact call_type1
section
variable {P : Program} {w : World} {K : PySem.W.Frag} {mg : Str → Option Value} {base : Heap} {x1 : Addr} {y1 : FuncData}
theorem ok_isEx (T : ExTxt K mg x1 y1) {k : Nat} : ∀ D, FnOk P w K mg base CX0 (k + 1 + D) x1 y1 ["thing", "right"] (spIsEx K D)
  | 0 => by
    refine T.FIsEx.ok scIsEx (fun vs H Q E h => ?_) (fun cdv A outer s H vs Q E hr h => ?_)
    · obtain ⟨x, y, d, e, rfl, _⟩ := h
      rfl
    · obtain ⟨x, y, d, e, rfl, _, _, _, hd, _, _⟩ := h
      exact absurd hd (Nat.not_lt_zero _)
  | D + 1 => by
    have GX : FnOk P w K mg base CX0 (k + 1 + D) x1 y1 ["thing", "right"] (spIsEx K D) := ok_isEx T D
    refine T.FIsEx.ok scIsEx (fun vs H Q E h => ?_) (fun cdv A outer s H vs Q E hr h => ?_)
    · obtain ⟨x, y, d, e, rfl, _⟩ := h
      rfl
    · obtain ⟨x, y, d, e, rfl, hx, hy, nd, hd, hw, q⟩ := h
      refine ⟨_, (pss_cons (ps_if (pt_not (pt_cmpR op_isTy (pe_callTy call_type1 (by rfl) T.type (by decide +kernel) (pa_cons (pv 0) pa_nil)) (pe_callTy call_type1 (by rfl) T.type (by decide +kernel) (pa_cons (pv 1) pa_nil)) (nomark _))) (pss_one (ps_ret pe_bl)) pss_nil)
 (pss_cons (ps_if (pt_cmpR op_eqTy (pe_callTy call_type1 (by rfl) T.type (by decide +kernel) (pa_cons (pv 1) pa_nil)) (pe_bltn (v := .ty "dict") (by rfl) T.dict (by decide +kernel) rfl) (nomark _)) (pss_cons (ps_if (PW.pt (pw_or (pt_cmpR op_ne (pe_callB call_len_seq (by rfl) T.len PySem.boot_len (pa_cons (pv 0) pa_nil)) (pe_callB call_len_seq (by rfl) T.len PySem.boot_len (pa_cons (pv 1) pa_nil)) (nomark _)) (pw_or1 (pt_not (pt_val (pe_callB (cr_all rfl) (by rfl) T.all (by decide +kernel) (pa_cons (pe_lock (pe_lc (own := [("key", 2)]) (g := gName 2) (tt := tYes) (by rfl) scIsEx.nd (pi_keys (pv 0)) (blkOk_by (N := ["thing", "right", "key", "part", "like"]) (sc := defScope sIsEx) (by decide +kernel)) (fun _ _ _ _ _ => pg_name (i := 2) scIsEx.nd rfl (Or.inl rfl)) (fun _ _ _ _ _ => pts_nil) (fun _ _ _ _ _ => (pe_cmpR op_eqTy (pe_callTy (call_type1K (K := K) rfl) (by rfl) T.type (by decide +kernel) (pa_cons (pv 2) pa_nil)) (pe_bltn (v := .ty "int") (by rfl) T.int (by decide +kernel) rfl) (nomark _))))) pa_nil))))))) (pss_one (ps_ret pe_bl)) pss_nil)
 (pss_one (ps_ret (pe_callB (cr_all rfl) (by rfl) T.all (by decide +kernel) (pa_cons (pe_lock (pe_lc (own := [("key", 2)]) (g := gName 2) (tt := tYes) (by rfl) scIsEx.nd (pi_keys (pv 0)) (blkOk_by (N := ["thing", "right", "key", "part", "like"]) (sc := defScope sIsEx) (by decide +kernel)) (fun _ _ _ _ _ => pg_name (i := 2) scIsEx.nd rfl (Or.inl rfl)) (fun _ _ _ _ _ => pts_nil) (fun _ _ _ _ _ => (pe_and (pe_cmp (pc_din (hu_of hr) (pv 2) (pv 1))) (pe_one (pe_call GX hr (by rfl) T.gIsEx T.FIsEx.kp T.bIsEx .nil pass0 (pa_cons (pe_dget (hu_of hr) (pv 0) (pv 2) (fun _ _ => rfl)) (pa_cons (pe_dget (hu_of hr) (pv 1) (pv 2) (fun _ _ => rfl)) pa_nil)))))))) pa_nil))))) pss_nil)
 (pss_cons (ps_if (PW.pt (pw_or (pt_cmpR op_eqTy (pe_callTy call_type1 (by rfl) T.type (by decide +kernel) (pa_cons (pv 1) pa_nil)) (pe_bltn (v := .ty "list") (by rfl) T.list (by decide +kernel) rfl) (nomark _)) (pw_or1 (pt_cmpR op_eqTy (pe_callTy call_type1 (by rfl) T.type (by decide +kernel) (pa_cons (pv 1) pa_nil)) (pe_bltn (v := .ty "tuple") (by rfl) T.tuple (by decide +kernel) rfl) (nomark _))))) (pss_cons (ps_if (pt_cmpR op_ne (pe_callB call_len_seq (by rfl) T.len PySem.boot_len (pa_cons (pv 0) pa_nil)) (pe_callB call_len_seq (by rfl) T.len PySem.boot_len (pa_cons (pv 1) pa_nil)) (nomark _)) (pss_one (ps_ret pe_bl)) pss_nil)
 (pss_one (ps_ret (pe_callB (cr_all rfl) (by rfl) T.all (by decide +kernel) (pa_cons (pe_lc (own := [("part", 3), ("like", 4)]) (g := gTup K 2 (gCons (gName 3) (gCons (gName 4) gNil))) (tt := tYes) (by rfl) scIsEx.nd (RZ.pi_zipA (by rfl) T.zip (pa_cons (pv 0) (pa_cons (pv 1) pa_nil))) (blkOk_by (N := ["thing", "right", "key", "part", "like"]) (sc := defScope sIsEx) (by decide +kernel)) (fun _ _ _ _ _ => pgT (K := K) rfl rfl (pgs_cons (pg_name (i := 3) scIsEx.nd rfl (Or.inl rfl)) (pgs_cons (pg_name (i := 4) scIsEx.nd rfl (Or.inl rfl)) pgs_nil))) (fun _ _ _ _ _ => pts_nil) (fun _ _ _ _ _ => (pe_call GX hr (by rfl) T.gIsEx T.FIsEx.kp T.bIsEx .nil pass0 (pa_cons (pv 3) (pa_cons (pv 4) pa_nil))))) pa_nil))))) pss_nil)
 (pss_one (ps_ret (pe_cmpR op_eq (pv 0) (pv 1) (nomark _))))))), ?_⟩
      refine ⟨_, rfl, _, _, rfl, hx.ty, _, rfl, _, _, rfl, hy.ty, _, _, rfl, rfl, _, rfl, ?_⟩
      by_cases hk : kindOf d = kindOf e
      · rw [decide_eq_true hk]
        refine iteF ?_
        have nD : kindOf e ≠ "dict" := by
          cases e <;> simp [kindOf, PyData.hasDict] at nd ⊢
        refine ⟨_, rfl, _, _, rfl, hy.ty, _, _, rfl, rfl, tyB_ty hy.ty, TypeEq.meta_dict, _, rfl, ?_⟩
        rw [decide_eq_false nD]
        refine iteF ?_
        refine ⟨_, rfl, _, _, rfl, hy.ty, _, _, rfl, rfl, tyB_ty hy.ty, TypeEq.meta_list, _, rfl, ?_⟩
        cases hy with
        | @lst b ys es hS2 hA2 =>
          cases hx with
          | @lst a xs ds hS1 hA1 =>
            have e1 : (PyData.list ds = PyData.list es) ↔ ds = es := by
              constructor
              · intro z
                injection z
              · rintro rfl
                rfl
            have l1 := hA1.len
            have l2 := hA2.len
            rw [PyData.hasDict] at nd
            rw [PyData.depth] at hd
            refine ite2 (fun _ => iteT ⟨_, rfl, a, xs, rfl, .inl hS1, _, rfl, b, ys, rfl, .inl hS2, rfl, _, rfl, ?_⟩) (fun z => absurd (decide_eq_true rfl) z)
            by_cases hl : xs.length = ys.length
            · rw [hl, decide_eq_true rfl]
              refine iteF ⟨_, rfl, _, rfl, a, b, xs, ys, rfl, .inl ⟨hS1, hS2, fun Dd nD => ?_⟩⟩
              have ls : ds.length = es.length := by omega
              refine lc_it (walk_zip (n := ds.length) (by omega)) (fun i H' => Same H H' ∧ H' Dd = some (.lst (((exL ds es).take i).map V.bl))) ⟨same_upd nD, upd_same⟩ (fun i H' _ h => ⟨same_lst h.1 hS1, same_lst h.1 hS2⟩) ?_ ?_
              · rintro i u H' H2' hi ⟨sm, hD⟩ ⟨T2, v1, v2, rfl, nT, rfl, h1, h2⟩
                obtain ⟨d1, hd1, r1⟩ := hA1.at h1
                obtain ⟨d2, hd2, r2⟩ := hA2.at h2
                have sT := same_upd (o := HO.tup [v1, v2]) nT
                have m1 := List.mem_of_getElem? hd1
                have m2 := List.mem_of_getElem? hd2
                have dd := exdp_of d1 m1
                have hp : (exL ds es)[i]? = some (exD d1 d2) := by
                  unfold exL
                  rw [List.getElem?_map, (List.getElem?_zip_eq_some (z := (d1, d2))).mpr ⟨hd1, hd2⟩]
                  rfl
                refine ⟨T2, _, rfl, SqT.of upd_same, rfl, _, _, rfl, _, _, rfl, rfl, rfl, _, rfl, _, rfl, v1, v2, d1, d2, rfl, r1.go (sm.trans sT), r2.go (sm.trans sT), exnd_of nd d2 m2, by omega, Nat.le_trans (exwt_of d1 m1) (by rw [PyData.weight] at hw; exact hw), fun H5 s5 => ⟨_, s5 _ _ (sT _ _ hD), ?_, same_new ((sm.trans sT).trans s5) nD, ?_⟩⟩
                · rw [List.length_map]
                  have := List.length_take_le' i (exL ds es)
                  have l3 : (exL ds es).length = min ds.length es.length := by
                    unfold exL
                    rw [List.length_map, List.length_zip]
                  have l4 := PyData.length_le_weightAll ds
                  rw [PyData.weight] at hw
                  exact Nat.lt_of_le_of_lt (show _ ≤ 1000000 by omega) (by decide)
                · rw [upd_same, List.take_succ, hp, List.map_append]
                  rfl
              · rintro H' ⟨sm, hD⟩
                have l3 : (exL ds es).length = ds.length := by
                  unfold exL
                  rw [List.length_map, List.length_zip]
                  omega
                rw [show ds.length = (exL ds es).length from l3.symm, List.take_length] at hD
                refine ⟨Dd, _, rfl, SqL.of hD, ?_⟩
                have h := q H' sm
                have e2 : exD (PyData.list ds) (PyData.list es) = (exL ds es).all id := by
                  rw [Bool.eq_iff_iff, exL_all ls]
                  exact ⟨fun z => e1.mp (exD_of z), fun z => exD_true (e1.mpr z)⟩
                rw [e2] at h
                exact h
            · rw [decide_eq_false (fun z => hl (by injection z with z; omega))]
              have h := q H (Same.refl H)
              rw [exD_false fun z => hl (by have := congrArg List.length (e1.mp z); omega)] at h
              exact iteT h
          | _ => exact absurd hk (by simp [kindOf])
        | @tup b ys es hS2 hA2 =>
          cases hx with
          | @tup a xs ds hS1 hA1 =>
            have e1 : (PyData.tuple ds = PyData.tuple es) ↔ ds = es := by
              constructor
              · intro z
                injection z
              · rintro rfl
                rfl
            have l1 := hA1.len
            have l2 := hA2.len
            rw [PyData.hasDict] at nd
            rw [PyData.depth] at hd
            refine ite2 (fun z => absurd (of_decide_eq_true z) (by simp [kindOf])) (fun _ => ⟨_, rfl, _, _, rfl, .tup hS2, _, _, rfl, rfl, tyB_ty (K := K) (H := H) (.tup hS2), TypeEq.meta_tuple, _, rfl, ite2 (fun _ => ⟨_, rfl, a, xs, rfl, .inr hS1, _, rfl, b, ys, rfl, .inr hS2, rfl, _, rfl, ?_⟩) (fun z => absurd (decide_eq_true rfl) z)⟩)
            by_cases hl : xs.length = ys.length
            · rw [hl, decide_eq_true rfl]
              refine iteF ⟨_, rfl, _, rfl, a, b, xs, ys, rfl, .inr ⟨hS1, hS2, fun Dd nD => ?_⟩⟩
              have ls : ds.length = es.length := by omega
              refine lc_it (walk_zipT (n := ds.length) (by omega)) (fun i H' => Same H H' ∧ H' Dd = some (.lst (((exL ds es).take i).map V.bl))) ⟨same_upd nD, upd_same⟩ (fun i H' _ h => ⟨same_tup h.1 hS1, same_tup h.1 hS2⟩) ?_ ?_
              · rintro i u H' H2' hi ⟨sm, hD⟩ ⟨T2, v1, v2, rfl, nT, rfl, h1, h2⟩
                obtain ⟨d1, hd1, r1⟩ := hA1.at h1
                obtain ⟨d2, hd2, r2⟩ := hA2.at h2
                have sT := same_upd (o := HO.tup [v1, v2]) nT
                have m1 := List.mem_of_getElem? hd1
                have m2 := List.mem_of_getElem? hd2
                have dd := exdp_of d1 m1
                have hp : (exL ds es)[i]? = some (exD d1 d2) := by
                  unfold exL
                  rw [List.getElem?_map, (List.getElem?_zip_eq_some (z := (d1, d2))).mpr ⟨hd1, hd2⟩]
                  rfl
                refine ⟨T2, _, rfl, SqT.of upd_same, rfl, _, _, rfl, _, _, rfl, rfl, rfl, _, rfl, _, rfl, v1, v2, d1, d2, rfl, r1.go (sm.trans sT), r2.go (sm.trans sT), exnd_of nd d2 m2, by omega, Nat.le_trans (exwt_of d1 m1) (by rw [PyData.weight] at hw; exact hw), fun H5 s5 => ⟨_, s5 _ _ (sT _ _ hD), ?_, same_new ((sm.trans sT).trans s5) nD, ?_⟩⟩
                · rw [List.length_map]
                  have := List.length_take_le' i (exL ds es)
                  have l3 : (exL ds es).length = min ds.length es.length := by
                    unfold exL
                    rw [List.length_map, List.length_zip]
                  have l4 := PyData.length_le_weightAll ds
                  rw [PyData.weight] at hw
                  exact Nat.lt_of_le_of_lt (show _ ≤ 1000000 by omega) (by decide)
                · rw [upd_same, List.take_succ, hp, List.map_append]
                  rfl
              · rintro H' ⟨sm, hD⟩
                have l3 : (exL ds es).length = ds.length := by
                  unfold exL
                  rw [List.length_map, List.length_zip]
                  omega
                rw [show ds.length = (exL ds es).length from l3.symm, List.take_length] at hD
                refine ⟨Dd, _, rfl, SqL.of hD, ?_⟩
                have h := q H' sm
                have e2 : exD (PyData.tuple ds) (PyData.tuple es) = (exL ds es).all id := by
                  rw [Bool.eq_iff_iff, exL_all ls]
                  exact ⟨fun z => e1.mp (exD_of z), fun z => exD_true (e1.mpr z)⟩
                rw [e2] at h
                exact h
            · rw [decide_eq_false (fun z => hl (by injection z with z; omega))]
              have h := q H (Same.refl H)
              rw [exD_false fun z => hl (by have := congrArg List.length (e1.mp z); omega)] at h
              exact iteT h
          | _ => exact absurd hk (by simp [kindOf])
        | non =>
          cases hx with
          | non =>
            refine ite2 (fun z => absurd (of_decide_eq_true z) (by simp [kindOf])) (fun _ => ⟨_, rfl, _, _, rfl, .non, _, _, rfl, rfl, tyB_ty (K := K) (H := H) .non, TypeEq.meta_tuple, _, rfl, ite2 (fun z => absurd (of_decide_eq_true z) (by simp [kindOf])) (fun _ => ⟨_, rfl, _, rfl, rfl, ?_⟩)⟩)
            have h := q H (Same.refl H)
            rw [exD_dec (x := V.non) (y := V.non) (by simp)] at h
            exact h
          | _ => exact absurd hk (by simp [kindOf])
        | bl b2 =>
          cases hx with
          | bl b1 =>
            refine ite2 (fun z => absurd (of_decide_eq_true z) (by simp [kindOf])) (fun _ => ⟨_, rfl, _, _, rfl, (.bl b2), _, _, rfl, rfl, tyB_ty (K := K) (H := H) (.bl b2), TypeEq.meta_tuple, _, rfl, ite2 (fun z => absurd (of_decide_eq_true z) (by simp [kindOf])) (fun _ => ⟨_, rfl, _, rfl, rfl, ?_⟩)⟩)
            have h := q H (Same.refl H)
            rw [exD_dec (x := V.bl b1) (y := V.bl b2) (by simp)] at h
            exact h
          | _ => exact absurd hk (by simp [kindOf])
        | int b2 =>
          cases hx with
          | int b1 =>
            refine ite2 (fun z => absurd (of_decide_eq_true z) (by simp [kindOf])) (fun _ => ⟨_, rfl, _, _, rfl, (.int b2), _, _, rfl, rfl, tyB_ty (K := K) (H := H) (.int b2), TypeEq.meta_tuple, _, rfl, ite2 (fun z => absurd (of_decide_eq_true z) (by simp [kindOf])) (fun _ => ⟨_, rfl, _, rfl, rfl, ?_⟩)⟩)
            have h := q H (Same.refl H)
            rw [exD_dec (x := V.int b1) (y := V.int b2) (by simp)] at h
            exact h
          | _ => exact absurd hk (by simp [kindOf])
        | str b2 hb2 =>
          cases hx with
          | str b1 hb1 =>
            refine ite2 (fun z => absurd (of_decide_eq_true z) (by simp [kindOf])) (fun _ => ⟨_, rfl, _, _, rfl, (.str b2), _, _, rfl, rfl, tyB_ty (K := K) (H := H) (.str b2), TypeEq.meta_tuple, _, rfl, ite2 (fun z => absurd (of_decide_eq_true z) (by simp [kindOf])) (fun _ => ⟨_, rfl, _, rfl, rfl, ?_⟩)⟩)
            have h := q H (Same.refl H)
            rw [exD_dec (x := V.str b1) (y := V.str b2) (by simp)] at h
            exact h
          | _ => exact absurd hk (by simp [kindOf])
        | dct hd9 => exact absurd rfl nD
      · rw [decide_eq_false hk]
        have h := q H (Same.refl H)
        rw [exD_false fun z => hk (by rw [z])] at h
        exact iteT h
end
end My
/-! ### data to be shown -/
namespace My
open PySem PySem.Spec PyProof.Rows L2 PySem.Builtin.Str
theorem sd_small {i : Int} (h : i.natAbs ≤ 1000) : Sd 0 10 (.int i) := by
  have s := sd_int (i := i) (Nat.lt_of_le_of_lt h (by decide))
  refine ⟨s.sh, s.dp, s.lv, ?_⟩
  rw [PyData.weight]
  split
  · omega
  · exact log_le (Nat.lt_of_le_of_lt h (by decide)) (by decide)
def lvsD (C : Ct) (n : Nat) : PyData := .list (((List.range (n + 1)).map (sLv C)).map fun ts => .list (ts.map eSg))
theorem LsL.rp {K : PySem.W.Frag} {H : Hp} {a : Addr} {rs : List Addr} {C : Ct} {n : Nat} (h : LsL K H a rs ((List.range (n + 1)).map (sLv C))) : Rp K H (.ref a) (lvsD C n) := by
  refine .lst (SqL.of h.1) ?_
  have : ∀ {rs : List Addr} {tss : List (List Sg)}, Paired (fun (r : Addr) (ts : List Sg) => ∃ us, H r = some (.lst us) ∧ RpAll K H us (ts.map eSg)) rs tss → RpAll K H (rs.map V.ref) (tss.map fun ts => .list (ts.map eSg)) := fun {rs tss} h => by
    induction h with
    | nil => exact .nil
    | cons h1 _ ih =>
      obtain ⟨us, e1, e2⟩ := h1
      exact .cons (.lst (SqL.of e1) e2) ih
  exact this h.2
theorem nodict_lvs (C : Ct) (n : Nat) : (lvsD C n).hasDict = false := by
  unfold lvsD
  rw [PyData.hasDict]
  have : ∀ tss : List (List Sg), PyData.hasDictAll (tss.map fun ts => .list (ts.map eSg)) = false := fun tss => by
    induction tss with
    | nil => simp [PyData.hasDictAll]
    | cons ts tss ih => rw [List.map_cons, PyData.hasDictAll, ih, PyData.hasDict, (lay_sgs ts).2.2]; rfl
  exact this _
mutual
theorem tO_nodict : ∀ {d : PyData}, tO d = true → d.hasDict = false
  | .none, _ => by simp [PyData.hasDict]
  | .bool _, _ => by simp [PyData.hasDict]
  | .int _, _ => by simp [PyData.hasDict]
  | .str _, _ => by simp [PyData.hasDict]
  | .list _, h => by simp [tO] at h
  | .dict _, h => by simp [tO] at h
  | .tuple xs, h => by
    rw [PyData.hasDict]
    exact tOs_nodict (by simpa only [tO] using h)
theorem tOs_nodict : ∀ {ds : List PyData}, tOs ds = true → PyData.hasDictAll ds = false
  | [], _ => by simp [PyData.hasDictAll]
  | d :: ds, h => by
    rw [tOs, Bool.and_eq_true] at h
    rw [PyData.hasDictAll, tO_nodict h.1, tOs_nodict h.2]
    rfl
end
def ruleD (C : Ct) : PyData := .tuple [.str C.M.z, .tuple (rowsD C.R)]
theorem rule_sd {C : Ct} (h : Cok C) : Sd 4 40000 (ruleD C) := by
  have lz := ltr_pos h.m.ltr
  have zs := letters_small h.m.ltr
  refine (sd_tup (D := 3) (W := 3000) (n := 2) (fun e he => ?_) (by simp)).mono (by decide) (by decide)
  simp only [List.mem_cons, List.not_mem_nil, or_false] at he
  rcases he with rfl | rfl
  · exact (sd_str zs lz.2).mono (by decide) (by decide)
  · refine (sd_tup (D := 1) (W := 393) (n := 4) (fun e he => ?_) (by unfold rowsD; rw [List.length_map]; exact h.r4)).mono (by decide) (by decide)
    unfold rowsD at he
    obtain ⟨r, hr, rfl⟩ := List.mem_map.mp he
    have ok := h.row r hr
    refine (sd_tup (D := 0) (W := 130) (n := 3) (fun e he => ?_) (by rw [List.length_map, ok.len]; exact lz.2)).mono (by decide) (by decide)
    obtain ⟨o, ho, rfl⟩ := List.mem_map.mp he
    cases o with
    | none => exact sd_non.mono (Nat.le_refl _) (by decide)
    | some i =>
      have g := ok.range i ho
      have t : (4 : Nat) < 10 ^ 39 := by decide +kernel
      have r4 := h.r4
      exact sd_int (by omega)
theorem tO_rule (C : Ct) : tO (ruleD C) = true := by
  simp only [ruleD, tO, tOs, Bool.true_and, Bool.and_true]
  exact tOs_rowsD C.R
end My
/-! ### shows_levels -/
namespace My
open PySem PySem.Spec PyProof.Rows L2 PySem.Builtin.Str
abbrev sShowsLevels : Stmt := topS 49
theorem scShowsLevels : FnScope ["one", "other", "rule", "thing", "contest", "level", "seen", "place", "told", "last", "standing"] ["one", "other", "rule", "thing"] (defScope sShowsLevels) := ⟨rfl, rfl, rfl, by decide +kernel, rfl, by decide +kernel, by decide +kernel⟩
structure ShTxt (K : PySem.W.Frag) (mg : Str → Option Value) (m1 m2 m3 m4 m5 m6 m7 m8 m9 m10 m11 m12 : Addr) (n1 n2 n3 n4 n5 n6 n7 n8 n9 n10 n11 n12 : FuncData) (t1 t2 t3 t4 t5 : Tok) (CM a1 a3 : Addr) (b1 b3 : FuncData) (r1 r2 r3 r4 r5 p1 : Addr) (v1 v2 v3 v4 v5 q1 : FuncData) (CX CR CI : Addr) (mR mW : Addr) (nR nW : FuncData) (g1 g2 g3 g4 g5 : Addr) (e1 e2 e3 e4 e5 : FuncData) (CG fF : Addr) (x1 x2 : Addr) (y1 y2 : FuncData) : Prop where
  co : CoTxt K mg m1 m2 m3 m4 m5 m6 m7 m8 m9 m10 m11 m12 n1 n2 n3 n4 n5 n6 n7 n8 n9 n10 n11 n12 t1 t2 t3 t4 t5 CM a1 a3 b1 b3 r1 r2 r3 r4 r5 p1 v1 v2 v3 v4 v5 q1 CX CR CI
  look : LookTxt K mg m1 m2 m3 m4 mW m7 mR n1 n2 n3 n4 nW n7 nR t1 t2
  lu : LuTxt K mg g1 g2 g3 g4 g5 e1 e2 e3 e4 e5 CG fF
  ex : ExTxt K mg x1 y1
  list : mg "list" = none
  enumerate : mg "enumerate" = none
  FShowsLevels : Fun K "shows_levels" "shows_levels" sShowsLevels x2 y2
  bShowsLevels : Binds K y2 ["one", "other", "rule", "thing"] []
  gShowsLevels : mg "shows_levels" = some (.ref x2)
open Classical in
noncomputable def shB (C : Ct) (dt : PyData) : Bool := decide (∃ n, EndsN C n ∧ dt = lvsD C n)
theorem shB_true {C : Ct} {dt : PyData} (h : ∃ n, EndsN C n ∧ dt = lvsD C n) : shB C dt = true := @decide_eq_true _ (Classical.propDecidable _) h
theorem shB_false {C : Ct} {dt : PyData} (h : ¬ ∃ n, EndsN C n ∧ dt = lvsD C n) : shB C dt = false := @decide_eq_false _ (Classical.propDecidable _) h
/-- not too great -/
structure Lsm (dt : PyData) : Prop where
  dp : dt.depth ≤ 12
  wt : dt.weight ≤ 1000000
  len : ∀ ds, dt = .list ds → ds.length ≤ 100000 ∧ ∀ e ∈ ds, ∀ es, e = .list es → es.length ≤ 10000
def lvD (C : Ct) (i : Nat) : PyData := .list ((sLv C i).map eSg)
theorem tot_wt {C : Ct} {ds : List PyData} : ∀ i, (∀ m, m < i → ds[m]? = some (lvD C m)) → tot C i ≤ PyData.weightAll (ds.take i) + (lvl C i).length
  | 0, _ => by
    show 1 ≤ _
    simp [lvl, lvN]
  | i + 1, h => by
    have ih := tot_wt i fun m hm => h m (by omega)
    have l := PyData.length_le_weightAll ((sLv C i).map eSg)
    rw [List.length_map, sLv_len] at l
    rw [tot_succ, List.take_succ, h i (by omega), Option.toList_some, wt_app, PyData.weightAll, PyData.weightAll, lvD, PyData.weight]
    omega
theorem wt_take (ds : List PyData) (i : Nat) : PyData.weightAll (ds.take i) ≤ PyData.weightAll ds := by
  have := wt_cut ds i
  omega
theorem lvsD_eq (C : Ct) (n : Nat) : lvsD C n = .list ((List.range (n + 1)).map (lvD C)) := by
  unfold lvsD
  rw [List.map_map]
  rfl
theorem lvsD_at {C : Ct} {n : Nat} {ds : List PyData} (h : PyData.list ds = lvsD C n) : ds.length = n + 1 ∧ ∀ m, m ≤ n → ds[m]? = some (lvD C m) := by
  rw [lvsD_eq] at h
  injection h with h
  subst h
  refine ⟨by rw [List.length_map, List.length_range], fun m hm => ?_⟩
  rw [List.getElem?_map, List.getElem?_range (by omega)]
  rfl
theorem lvsD_of {C : Ct} {n : Nat} {ds : List PyData} (l : ds.length = n + 1) (h : ∀ m, m ≤ n → ds[m]? = some (lvD C m)) : PyData.list ds = lvsD C n := by
  rw [lvsD_eq]
  congr 1
  refine List.ext_getElem? fun m => ?_
  by_cases z : m ≤ n
  · rw [h m z, List.getElem?_map, List.getElem?_range (by omega)]
    rfl
  · rw [List.getElem?_eq_none (by omega), List.getElem?_eq_none (by rw [List.length_map, List.length_range]; omega)]
/-- the loop's state -/
structure Ls2 (P : Program) (w : World) (K : PySem.W.Frag) (C : Ct) (H H' : Hp) (d sd : Addr) (ds : List PyData) (i j : Nat) : Prop where
  sm : Same H H'
  nd : H d = none
  nsd : H sd = none
  ed : ED P w K eSg H' d (vW (lvl C i))
  es : ED P w K eSg H' sd (vT (seenN C j))
  ne : d ≠ sd
theorem Ls2.same {P : Program} {w : World} {K : PySem.W.Frag} {C : Ct} {H H' H2 : Hp} {d sd : Addr} {ds : List PyData} {i j : Nat} (h : Ls2 P w K C H H' d sd ds i j) (s : Same H' H2) : Ls2 P w K C H H2 d sd ds i j :=
  ⟨h.sm.trans s, h.nd, h.nsd, h.ed.same enc_sg s, h.es.same enc_sg s, h.ne⟩
def spShowsLevels (K : PySem.W.Frag) (CM CX CR : Addr) : Sp := fun vs H Q E => ∃ (x y r t : V) (d1 d2 d3 dt : PyData), vs = [x, y, r, t] ∧ Rp K H x d1 ∧ Rp K H y d2 ∧ Rp K H r d3 ∧ Rp K H t dt ∧ Lsm dt ∧
  ConR CM CX CR d1 d2 d3 (fun c => ∀ H', Same H H' → E (.ref c) none H') fun C => ∀ H', Same H H' → Q (.bl (shB C dt)) H'
section
variable {P : Program} {w : World} {K : PySem.W.Frag} {mg : Str → Option Value} {base : Heap} {m1 m2 m3 m4 m5 m6 m7 m8 m9 m10 m11 m12 : Addr} {n1 n2 n3 n4 n5 n6 n7 n8 n9 n10 n11 n12 : FuncData} {t1 t2 t3 t4 t5 : Tok} {CM a1 a3 : Addr} {b1 b3 : FuncData} {r1 r2 r3 r4 r5 p1 : Addr} {v1 v2 v3 v4 v5 q1 : FuncData} {CX CR CI mR mW : Addr} {nR nW : FuncData} {g1 g2 g3 g4 g5 : Addr} {e1 e2 e3 e4 e5 : FuncData} {CG fF x1 x2 : Addr} {y1 y2 : FuncData}
theorem ok_showsLevels (T : ShTxt K mg m1 m2 m3 m4 m5 m6 m7 m8 m9 m10 m11 m12 n1 n2 n3 n4 n5 n6 n7 n8 n9 n10 n11 n12 t1 t2 t3 t4 t5 CM a1 a3 b1 b3 r1 r2 r3 r4 r5 p1 v1 v2 v3 v4 v5 q1 CX CR CI mR mW nR nW g1 g2 g3 g4 g5 e1 e2 e3 e4 e5 CG fF x1 x2 y1 y2) {k : Nat} : FnOk P w K mg base (L2.CX P w) (k + 15) x2 y2 ["one", "other", "rule", "thing"] (spShowsLevels K CM CX CR) := by
  have GC : FnOk P w K mg base (L2.CX P w) (k + 14) r4 v4 ["one", "other", "rule"] (spContestOf K CM CX CR) := ok_contestOf T.co T.look (k := k + 6)
  have GA : FnOk P w K mg base CX0 (k + 14) g4 e4 ["contest", "level", "seen"] (spLevelAfter P w K) := ok_levelAfter T.lu.lv (k := k + 12)
  have GW : FnOk P w K mg base CX0 (k + 14) g3 e3 ["level"] (spHasWon P w K) := ok_hasWon T.lu.lv.su (k := k + 12)
  have GX : FnOk P w K mg base CX0 (k + 14) x1 y1 ["thing", "right"] (spIsEx K 13) := ok_isEx T.ex 13
  refine T.FShowsLevels.okX scShowsLevels (fun vs H Q E h => ?_) (fun cdv A outer s H vs Q E hr h => ?_)
  · obtain ⟨x, y, r, t, d1, d2, d3, dt, rfl, _⟩ := h
    rfl
  · obtain ⟨x, y, r, t, d1, d2, d3, dt, rfl, hx, hy, hr3, ht, sm, h⟩ := h
    have hu16 : (A.deeper (envOfC "shows_levels" (defScope sShowsLevels) s.heap.objs.size x2 cdv)).units + 16 < cLine := by have := hr.un; omega
    have hu9 : (A.deeper (envOfC "shows_levels" (defScope sShowsLevels) s.heap.objs.size x2 cdv)).units + 9 < cLine := by omega
    refine ⟨_, (Evl.pss_cut (ps_set (i := 4) scShowsLevels.nd rfl (.inl rfl) (pe_call GC hr (by rfl) T.co.gContestOf T.co.FContestOf.kp T.co.bContestOf .nil (passes_call (takes_of rfl rfl rfl rfl) (fun _ _ _ _ h => h)) (pa_cons (pv 0) (pa_cons (pv 1) (pa_cons (pv 2) pa_nil)))))
 (Evl.pss_cut (ps_if (pt_cmpR op_neTy (pe_callTy call_type1 (by rfl) T.ex.type (by decide +kernel) (pa_cons (pv 3) pa_nil)) (pe_bltn (v := .ty "list") (by rfl) T.list (by decide +kernel) rfl) (nomark _)) (pss_one (ps_ret pe_bl)) pss_nil)
 (Evl.pss_cut (ps_par (i := 5) (j := 6) (by rfl) scShowsLevels.nd rfl rfl (by decide) rfl rfl (pa_cons (pe_ndisp hu9 (pe_glob (v := .ref fF) (by rfl) T.lu.gFirst rfl) pe_str) (pa_cons (pe_ndisp hu9 (pe_glob (v := .ref fF) (by rfl) T.lu.gFirst rfl) pe_bl) pa_nil)) (by rfl))
 (Evl.pss_cut (ps_for (passes_of rfl) rfl (pi_enum (by rfl) T.enumerate (pa_cons (pv 3) pa_nil)) (pg_tup rfl (pgs_cons (pg_name (i := 7) scShowsLevels.nd rfl (.inl rfl)) (pgs_cons (pg_name (i := 8) scShowsLevels.nd rfl (.inl rfl)) pgs_nil)))
 (Evl.pss_cut (ps_if (pt_not (pt_val (pe_call GX hr (by rfl) T.ex.gIsEx T.ex.FIsEx.kp T.ex.bIsEx .nil pass0 (pa_cons (pv 8) (pa_cons (pe_callB (cr_sortN rfl hu16) (by rfl) T.lu.lv.su.sorted (by decide +kernel) (pa_cons (pv 5) pa_nil)) pa_nil))))) (pss_one (ps_ret pe_bl)) pss_nil)
 (Evl.pss_cut (ps_set (i := 9) scShowsLevels.nd rfl (.inl rfl) (pe_cmpR op_eq (pv 7) (pe_op op_sub (pe_callB call_len_seq (by rfl) T.lu.len PySem.boot_len (pa_cons (pv 3) pa_nil)) pe_int) (nomark _)))
 (Evl.pss_cut (ps_if (pt_val (pe_call GW hr (by rfl) T.lu.lv.su.gHasWon T.lu.lv.su.FHasWon.kp T.lu.lv.su.bHasWon .nil pass0 (pa_cons (pv 5) pa_nil))) (pss_one (ps_ret (pv 9))) pss_nil)
 (Evl.pss_cut (ps_set (i := 5) scShowsLevels.nd rfl (.inl rfl) (pe_call GA hr (by rfl) T.lu.lv.gLevelAfter T.lu.lv.FLevelAfter.kp T.lu.lv.bLevelAfter .nil pass0 (pa_cons (pv 4) (pa_cons (pv 5) (pa_cons (pv 6) pa_nil)))))
 (Evl.pss_cut (ps_if (pt_not (pt_truthR (pv 5) tru_dictN (fun _ => rfl))) (pss_one (ps_ret (pv 9))) pss_nil)
 (pss_one (ps_lock (ps_for (passes_of rfl) rfl (pi_nkeys (pv 5)) (pg_name (i := 10) scShowsLevels.nd rfl (.inl rfl))
 (pss_one (ps_eput hu9 (pv 6) (pv 10) pe_bl rfl)))))))))))
 (pss_one (ps_ret pe_bl)))))), ?_⟩
    rcases h.either with hbad | ⟨C, hC, mk, q⟩
    · refine ⟨fun _ _ => False, ?_, fun _ _ z => z.elim⟩
      exact ⟨_, rfl, _, rfl, _, rfl, x, y, r, d1, d2, d3, rfl, hx, hy, hr3, hbad.mono (fun _ e => e) (fun _ _ z => z.elim)⟩
    refine ⟨fun σ H1 => ∃ ct, σ = [some x, some y, some r, some t, some (.ref ct)] ++ List.replicate 6 none ∧ Same H H1 ∧ Rp K H1 (.ref ct) (eCt C), ?_, ?_⟩
    · exact ⟨_, rfl, _, rfl, _, rfl, x, y, r, d1, d2, d3, rfl, hx, hy, hr3, mk _ _ fun H1 ct s1 nt hct => ⟨ct, rfl, s1, hct⟩⟩
    rintro σ H1 ⟨ct, rfl, s1, hct⟩
    refine ⟨fun σ H2 => (∃ la xs ds, t = .ref la ∧ dt = .list ds ∧ σ = [some x, some y, some r, some (.ref la), some (.ref ct), none, none, none, none, none, none] ∧ SqL K H1 la xs ∧ RpAll K H1 xs ds) ∧ H2 = H1, ?_, ?_⟩
    · have ht1 := ht.go s1
      refine ⟨_, rfl, _, _, rfl, ht1.ty, _, _, rfl, rfl, tyB_ty ht1.ty, TypeEq.meta_list, _, rfl, ?_⟩
      by_cases hk : kindOf dt = "list"
      · cases ht1 with
        | @lst la xs ds hS hA =>
          rw [decide_eq_true hk]
          exact iteF ⟨⟨la, xs, ds, rfl, rfl, rfl, hS, hA⟩, rfl⟩
        | _ => exact absurd hk (by simp [kindOf])
      · rw [decide_eq_false hk]
        have h2 := q H1 s1
        rw [shB_false fun ⟨n, _, e⟩ => hk (by rw [e]; rfl)] at h2
        exact iteT h2
    rintro σ H2 ⟨⟨la, xs, ds, rfl, rfl, rfl, hS, hA⟩, rfl⟩
    obtain ⟨sl, sle⟩ := sm.len ds rfl
    have swt := sm.wt
    have sdp := sm.dp
    rw [PyData.weight] at swt
    rw [PyData.depth] at sdp
    have lxs := hA.len
    have room : ∀ {m : Nat}, m ≤ 2000000 → m ≤ sizeLine := fun h => Nat.le_trans h (by decide)
    have roomL : ∀ {m : Nat}, m ≤ 2000000 → m < sizeLine := fun h => Nat.lt_of_le_of_lt h (by decide)
    refine ⟨fun σ H3 => ∃ d sd, σ = [some x, some y, some r, some (.ref la), some (.ref ct), some (.ref d), some (.ref sd), none, none, none, none] ∧ Ls2 P w K C H2 H3 d sd ds 0 0, ?_, ?_⟩
    · refine fun d nd => ⟨fF, eSg FIRSTg, rfl, T.lu.first _, enc_sg.tO _, enc_sg.kd _, upd_same, fun sd nsd => ⟨fF, eSg FIRSTg, rfl, T.lu.first _, enc_sg.tO _, enc_sg.kd _, upd_same, _, _, rfl, d, sd, rfl, ?_⟩⟩
      have x1 := same_new (o := NdO P w d [(keyN (eSg FIRSTg), fF, .str "")]) (same_upd (o := NdO P w d []) nd) nd
      have x2 := same_new (o := NdO P w sd [(keyN (eSg FIRSTg), fF, .bl true)]) (same_upd (o := NdO P w sd []) nsd) nsd
      exact ⟨x1.trans x2, nd, x1.free nsd, ⟨_, x2 _ _ upd_same, .cons ⟨rfl, T.lu.first _, rfl⟩ .nil⟩, ⟨_, upd_same, .cons ⟨rfl, T.lu.first _, rfl⟩ .nil⟩, ne_of_none upd_same nsd⟩
    rintro σ H3 ⟨d0, sd0, rfl, k0⟩
    have s03 := s1
    -- what holds ahead of i
    have pre : ∀ {i : Nat}, (∀ m, m < i → ds[m]? = some (lvD C m) ∧ wonN C m = false ∧ lvl C (m + 1) ≠ []) → Pre C i := fun h m hm => (h m hm).2
    refine ⟨fun σ H4 => (∀ m, m < ds.length → ds[m]? = some (lvD C m) ∧ wonN C m = false ∧ lvl C (m + 1) ≠ []) ∧ Same H2 H4, ?_, ?_⟩
    · refine ⟨_, rfl, la, xs, rfl, same_lst k0.sm hS, ?_⟩
      refine for_it walk_enum (fun i σ H4 => ∃ d sd l7 l8 l9 l10, σ = [some x, some y, some r, some (.ref la), some (.ref ct), some (.ref d), some (.ref sd), l7, l8, l9, l10] ∧ Ls2 P w K C H2 H4 d sd ds i i ∧ ∀ m, m < i → ds[m]? = some (lvD C m) ∧ wonN C m = false ∧ lvl C (m + 1) ≠ []) ⟨d0, sd0, none, none, none, none, rfl, k0, fun m h => absurd h (Nat.not_lt_zero m)⟩ (fun i σ H4 _ ⟨_, _, _, _, _, _, _, k4, _⟩ => same_lst k4.sm hS) ?_ ?_
      · rintro i v σ H4 H5 hi ⟨d, sd, l7, l8, l9, l10, rfl, k4, ahd⟩ ⟨T2, v1, v2, rfl, nT, rfl, e1, e2⟩
        obtain rfl : V.int (i : Nat) = v1 := Option.some.inj e1
        obtain ⟨di, hdi, ri⟩ := hA.at e2
        have mdi := List.mem_of_getElem? hdi
        have sT := same_upd (o := HO.tup [.int (i : Nat), v2]) nT
        replace k4 := k4.same sT
        have hT2 : (upd H4 T2 (HO.tup [.int (i : Nat), v2])) T2 = some (.tup [.int (i : Nat), v2]) := upd_same
        generalize upd H4 T2 (HO.tup [.int (i : Nat), v2]) = H5 at sT k4 hT2 ⊢
        refine ⟨T2, _, rfl, SqT.of hT2, rfl, _, _, rfl, _, _, rfl, rfl, ?_⟩
        have prei := pre ahd
        have tw := tot_wt (C := C) (ds := ds) i fun m hm => (ahd m hm).1
        have tk := wt_take ds i
        have li9 : (lvl C i).length ≤ 90000 := by
          cases i with
          | zero => simp [lvl, lvN]
          | succ i =>
            have l1 := level_len hC (ok := okS (seenN C i)) (lvl C i)
            rw [← lvl_succ] at l1
            have l2 := sle _ (List.mem_of_getElem? (ahd i (by omega)).1) _ rfl
            rw [List.length_map, sLv_len] at l2
            omega
        -- told
        refine ⟨fun σ H6 => (∃ l9 l10, σ = [some x, some y, some r, some (.ref la), some (.ref ct), some (.ref d), some (.ref sd), some (.int (i : Nat)), some v2, l9, l10]) ∧ Ls2 P w K C H2 H6 d sd ds i i ∧ di = lvD C i, ?_, ?_⟩
        · refine ⟨_, rfl, _, rfl, d, Sg, eSg, _, rfl, k4.ed.r, room (by rw [vW_len]; omega), enc_sg, fun p vs' np hvs => ?_⟩
          have sp := same_upd (o := HO.lst vs') np
          have kp := k4.same sp
          rw [vW_keys] at hvs
          have rp2 : Rp K (upd H5 p (.lst vs')) (.ref p) (lvD C i) := .lst (SqL.of upd_same) (rpAll_ts (ts_same sp) hvs (tOs_map enc_sg.tO _))
          refine ⟨v2, .ref p, di, lvD C i, rfl, ri.go kp.sm, rp2, ?_, ?_, ?_, fun H7 s7 => ⟨_, rfl, ?_⟩⟩
          · rw [lvD, PyData.hasDict]
            exact (lay_sgs _).2.2
          · have := exdp_of di mdi
            omega
          · have := exwt_of di mdi
            omega
          · by_cases z : di = lvD C i
            · rw [exD_true z]
              exact iteF ⟨⟨_, _, rfl⟩, kp.same s7, z⟩
            · rw [exD_false z]
              have k7 := kp.same s7
              have h2 := q H7 (s03.trans k7.sm)
              rw [shB_false fun ⟨n, en, e⟩ => z (by
                obtain ⟨_, h4⟩ := lvsD_at e
                have := h4 i (pre_ends en prei)
                rw [hdi] at this
                exact Option.some.inj this)] at h2
              exact iteT h2
        clear k4
        rintro σ H6 ⟨⟨l9, l10, rfl⟩, k6, rfl⟩
        -- last
        refine ⟨fun σ H7 => σ = [some x, some y, some r, some (.ref la), some (.ref ct), some (.ref d), some (.ref sd), some (.int (i : Nat)), some v2, some (.bl (decide (ds.length = i + 1))), l10] ∧ H7 = H6, ?_, ?_⟩
        · refine ⟨_, rfl, _, rfl, la, xs, rfl, .inl (same_lst k6.sm hS), _, _, rfl, rfl, rfl, ?_, rfl⟩
          have : decide (V.int (i : Nat) = V.int ((xs.length : Int) - 1)) = decide (ds.length = i + 1) := by
            by_cases z : ds.length = i + 1
            · rw [decide_eq_true z, decide_eq_true (by congr 1; omega)]
            · rw [decide_eq_false z, decide_eq_false (fun y => z (by injection y with y; omega))]
          rw [← this]
          rfl
        rintro σ H7 ⟨rfl, rfl⟩
        have lll : (sLv C i).length ≤ 10000 := by
          have := sle _ mdi _ rfl
          rw [List.length_map] at this
          exact this
        have all : ∀ m, m ≤ i → ds[m]? = some (lvD C m) := fun m hm => by
          rcases Nat.lt_or_ge m i with z | z
          · exact (ahd m z).1
          · obtain rfl : m = i := by omega
            exact hdi
        -- at the end of the levels
        have fin : ∀ {G : Hp}, EndsN C i → Same H2 G → Q (.bl (decide (ds.length = i + 1))) G := fun {G} en s => by
          have h2 := q G (s03.trans s)
          have e : shB C (.list ds) = decide (ds.length = i + 1) := by
            by_cases z : ds.length = i + 1
            · rw [decide_eq_true z]
              exact shB_true ⟨i, en, lvsD_of z all⟩
            · rw [decide_eq_false z]
              exact shB_false fun ⟨n, en2, e⟩ => z (by rw [(lvsD_at e).1, ends_uniq en en2])
          rw [e] at h2
          exact h2
        refine ⟨fun σ H8 => σ = [some x, some y, some r, some (.ref la), some (.ref ct), some (.ref d), some (.ref sd), some (.int (i : Nat)), some v2, some (.bl (decide (ds.length = i + 1))), l10] ∧ Ls2 P w K C H2 H8 d sd ds i i ∧ wonN C i = false, ?_, ?_⟩
        · refine ⟨_, rfl, d, _, rfl, k6.ed, roomL (by rw [vW_len]; omega), fun H8 s8 => ⟨_, rfl, ?_⟩⟩
          have k8 := k6.same s8
          rw [vW_keys]
          show if wonN C i = true then _ else _
          cases hw : wonN C i with
          | true => exact iteT ⟨_, rfl, fin ⟨prei, .inl hw⟩ k8.sm⟩
          | false => exact iteF ⟨rfl, k8, rfl⟩
        clear k6
        rintro σ H8 ⟨rfl, k8, hw⟩
        have sll := sLv_len C i
        refine ⟨fun σ H9 => ∃ d1, σ = [some x, some y, some r, some (.ref la), some (.ref ct), some (.ref d1), some (.ref sd), some (.int (i : Nat)), some v2, some (.bl (decide (ds.length = i + 1))), l10] ∧ Ls2 P w K C H2 H9 d1 sd ds (i + 1) i, ?_, ?_⟩
        · refine ⟨_, rfl, _, rfl, _, rfl, .ref ct, C, d, sd, lvl C i, seenN C i, i, rfl, hct.go k8.sm, hC, k8.ed, k8.es, k8.ne, lvl_nodup C i, lvl_ok hC i, by omega, by omega, fun H9 d1 s9 nd1 hd1 => ⟨d1, rfl, k8.sm.trans s9, k8.sm.free nd1, k8.nsd, hd1, k8.es.same enc_sg s9, ?_⟩⟩
          obtain ⟨φ, hφ⟩ := k8.es.mut
          exact (ne_of_none hφ nd1).symm
        clear k8
        rintro σ H9 ⟨d1, rfl, k9⟩
        have lns := level_len hC (ok := okS (seenN C i)) (lvl C i)
        rw [← lvl_succ] at lns
        refine ⟨fun σ H10 => σ = [some x, some y, some r, some (.ref la), some (.ref ct), some (.ref d1), some (.ref sd), some (.int (i : Nat)), some v2, some (.bl (decide (ds.length = i + 1))), l10] ∧ H10 = H9 ∧ lvl C (i + 1) ≠ [], ?_, ?_⟩
        · refine ⟨_, rfl, d1, Sg, eSg, _, rfl, k9.ed.r, enc_sg, room (by rw [vW_len]; omega), ?_⟩
          cases e0 : lvl C (i + 1) with
          | nil => exact iteT ⟨_, rfl, fin ⟨prei, .inr e0⟩ k9.sm⟩
          | cons z zs => exact iteF ⟨rfl, rfl, fun z => nomatch z⟩
        rintro σ H10 ⟨rfl, rfl, ne1⟩
        obtain ⟨xr, hxr, kr⟩ := id k9.ed
        refine ⟨d1, _, hxr, trivial, fun od => ?_⟩
        refine ⟨_, rfl, d1, od, xr, rfl, upd_same, ?_⟩
        have lx : xr.length = (lvl C (i + 1)).length := by
          have := Paired.length kr
          rw [vW_len] at this
          exact this
        have tb : TStay K H10 (upd H10 d1 (.frz od (NdO P w d1 xr))) := ts_upd hxr (fun _ z => nomatch z) (fun _ _ z => nomatch z)
        refine for_it walk_nkeys (fun j σ H11 => (∃ l10, σ = [some x, some y, some r, some (.ref la), some (.ref ct), some (.ref d1), some (.ref sd), some (.int (i : Nat)), some v2, some (.bl (decide (ds.length = i + 1))), l10]) ∧ Keep sd (upd H10 d1 (.frz od (NdO P w d1 xr))) H11 ∧ ED P w K eSg H11 sd (vT (seenN C i ++ (keysA (lvl C (i + 1))).take j))) ⟨⟨_, rfl⟩, (fun _ _ _ e => e), by rw [List.take_zero, List.append_nil]; exact ed_upd k9.es hxr (fun _ z => nomatch z) (fun _ _ z => nomatch z) k9.ne.symm⟩ (fun j σ H11 _ h => h.2.1 _ _ k9.ne upd_same) ?_ ?_
        · rintro j u σ H11 H11' hj ⟨⟨l10, rfl⟩, kp, es⟩ ⟨rfl, e, he, rfl⟩
          obtain ⟨p, hp, rp⟩ := kr.at he
          obtain ⟨qq, hq, rfl⟩ : ∃ qq : Sg × Str, (lvl C (i + 1))[j]? = some qq ∧ p = (qq.1, V.str qq.2) := by
            unfold vW at hp
            rw [List.getElem?_map] at hp
            obtain ⟨qq, h1, h2⟩ := Option.map_eq_some_iff.mp hp
            exact ⟨qq, h1, h2.symm⟩
          have hk : (keysA (lvl C (i + 1)))[j]? = some qq.1 := by
            unfold keysA
            rw [List.getElem?_map, hq]
            rfl
          have notin : qq.1 ∉ seenN C i ++ (keysA (lvl C (i + 1))).take j := fun hm => by
            rcases List.mem_append.mp hm with h | h
            · exact lvl_new C i qq.1 (List.mem_of_getElem? hk) h
            · obtain ⟨m, hm2, e2⟩ := List.getElem_of_mem h
              rw [List.length_take] at hm2
              rw [List.getElem_take] at e2
              have e3 : (keysA (lvl C (i + 1)))[m]? = some qq.1 := by rw [List.getElem?_eq_getElem (by omega), e2]
              have nd := lvl_nodup C (i + 1)
              have := (List.getElem?_inj (by omega) nd).mp (e3.trans hk.symm)
              omega
          obtain ⟨φ, hφ⟩ := k9.es.mut
          have tk2 := ts_keep (K := K) (φ := φ) (by rw [upd_ne k9.ne.symm]; exact hφ) kp
          obtain ⟨φ2, p1, p2⟩ := es.put enc_sg (rp_ts (tb.trans tk2) rp (enc_sg.tO _)) (by
            unfold vT
            rw [List.length_map, List.length_append]
            have l2 := List.length_take_le' j (keysA (lvl C (i + 1)))
            have l3 : (keysA (lvl C (i + 1))).length = (lvl C (i + 1)).length := List.length_map _
            have l4 : (seenN C i).length = tot C i := rfl
            exact roomL (by omega)) (.bl true)
          refine ⟨_, rfl, _, rfl, _, p1, ⟨_, rfl⟩, fun b o nb eb => ?_, ?_⟩
          · rw [upd_ne nb]
            exact kp b o nb eb
          · rw [vT_put notin] at p2
            rw [List.take_succ, hk, ← List.append_assoc]
            exact p2
        · rintro σ H11 ⟨⟨l10, rfl⟩, kp, es⟩
          have hr10 := kp _ _ k9.ne upd_same
          have l3 : xr.length = (keysA (lvl C (i + 1))).length := by rw [lx]; exact (List.length_map _).symm
          rw [l3, List.take_length, ← seen_succ] at es
          refine ⟨hr10, ?_⟩
          have keep : Keep sd H10 (upd H11 d1 (NdO P w d1 xr)) := fun b o nb eb => by
            by_cases z : b = d1
            · rw [z, upd_same, ← hxr, ← z, eb]
            · rw [upd_ne z]
              exact kp b o nb (by rw [upd_ne z]; exact eb)
          obtain ⟨φ, hφ⟩ := k9.es.mut
          have tk2 := ts_keep (K := K) hφ keep
          refine ⟨d1, sd, _, _, _, l10, rfl, ⟨fun b o eb => ?_, k9.nd, k9.nsd, ?_, ?_, k9.ne⟩, fun m hm => ?_⟩
          · exact keep b o (fun z => by rw [z, k9.nsd] at eb; cases eb) (k9.sm b o eb)
          · exact k9.ed.ts enc_sg tk2 fun o eb => keep _ _ k9.ne eb
          · exact ed_upd es hr10 (fun _ z => nomatch z) (fun _ _ z => by cases z) k9.ne.symm
          · rcases Nat.lt_or_ge m i with z | z
            · exact ahd m z
            · obtain rfl : m = i := by omega
              exact ⟨hdi, hw, ne1⟩
      · rintro σ H4 ⟨d, sd, l7, l8, l9, l10, rfl, k4, ahd⟩
        rw [lxs] at ahd
        exact ⟨ahd, k4.sm⟩
    rintro σ H4 ⟨ahd, s4⟩
    have h2 := q H4 (s03.trans s4)
    rw [shB_false fun ⟨n, en, e⟩ => by
      have h4 := (lvsD_at e).1
      have h5 := pre_ends en (pre ahd)
      omega] at h2
    exact h2
end
end My
/-! ### is_standing, shows_never -/
namespace My
open PySem PySem.Spec PyProof.Rows L2 PySem.Builtin.Str
abbrev sIsStd : Stmt := topS 57
theorem scIsStd : FnScope ["thing", "contest", "places", "ones", "others", "place", "state", "leads", "at", "pair"] ["thing", "contest"] (defScope sIsStd) := ⟨rfl, rfl, rfl, by decide +kernel, rfl, by decide +kernel, by decide +kernel⟩
structure StTxt (K : PySem.W.Frag) (mg : Str → Option Value) (m1 m2 m3 m4 m6 m7 m12 : Addr) (n1 n2 n3 n4 n6 n7 n12 : FuncData) (t1 t2 : Tok) (xs : Addr) (ys : FuncData) : Prop where
  look : LookTxt K mg m1 m2 m3 m4 m6 m7 m12 n1 n2 n3 n4 n6 n7 n12 t1 t2
  FIsStd : Fun K "is_standing" "is_standing" sIsStd xs ys
  bIsStd : Binds K ys ["thing", "contest"] []
  gIsStd : mg "is_standing" = some (.ref xs)
/-- a value of a standing's form -/
structure StdOk (C : Ct) (t : Sg) : Prop where
  p0 : 0 ≤ t.p
  p1 : t.p ≤ (C.R.length : Int) - 1
  s0 : 0 ≤ t.s
  s1 : t.s ≤ (C.M.C.length : Int) - 1
  ne : 1 ≤ t.L.length
  le : t.L.length ≤ C.N.C.length
  rg : ∀ e ∈ t.L, 0 ≤ e.1 ∧ e.1 ≤ (C.N.C.length : Int) - 1
  asc : t.L.Pairwise fun a b => a.1 < b.1
open Classical in
noncomputable def stdB (C : Ct) (d : PyData) : Bool := decide (∃ t, d = eSg t ∧ StdOk C t)
theorem stdB_true {C : Ct} {d : PyData} (h : ∃ t, d = eSg t ∧ StdOk C t) : stdB C d = true := @decide_eq_true _ (Classical.propDecidable _) h
theorem stdB_false {C : Ct} {d : PyData} (h : ¬ ∃ t, d = eSg t ∧ StdOk C t) : stdB C d = false := @decide_eq_false _ (Classical.propDecidable _) h
theorem stdB_of {C : Ct} {d : PyData} (h : stdB C d = true) : ∃ t, d = eSg t ∧ StdOk C t := @of_decide_eq_true _ (Classical.propDecidable _) h
theorem two_of {d : PyData} (h : tupD 2 2 d = true) : ∃ f g, d = .tuple [f, g] := by
  cases d with
  | tuple ds =>
    rw [tupD, Bool.and_eq_true, decide_eq_true_eq, decide_eq_true_eq] at h
    match ds, h with
    | [f, g], _ => exact ⟨f, g, rfl⟩
    | [], h => simp at h
    | [_], h => simp at h
    | _ :: _ :: _ :: _, h =>
      simp only [List.length_cons] at h
      omega
  | _ => cases h
theorem bet_of {lo hi : Int} {d : PyData} (h : betD lo hi d = true) : ∃ i, d = .int i ∧ lo ≤ i ∧ i ≤ hi := by
  cases d with
  | int i =>
    rw [betD, Bool.and_eq_true, decide_eq_true_eq, decide_eq_true_eq] at h
    exact ⟨i, rfl, h.1, h.2⟩
  | _ => cases h
/-- a pair of a rival and an integer -/
def rivB (C : Ct) : PyData → Bool
  | .tuple [f, g] => betD 0 ((C.N.C.length : Int) - 1) f && decide (kindOf g = "int")
  | _ => false
theorem riv_of {C : Ct} {d : PyData} (hp : ∃ f g, d = .tuple [f, g]) (h : rivB C d = true) : ∃ p : Int × Int, d = eP p ∧ 0 ≤ p.1 ∧ p.1 ≤ (C.N.C.length : Int) - 1 := by
  obtain ⟨f, g, rfl⟩ := hp
  unfold rivB at h
  rw [Bool.and_eq_true, decide_eq_true_eq] at h
  obtain ⟨i, rfl, i0, i1⟩ := bet_of h.1
  cases g with
  | int j => exact ⟨(i, j), rfl, i0, i1⟩
  | _ => exact absurd h.2 (by simp [kindOf])
theorem pr_top {K : PySem.W.Frag} {H : Hp} {v : V} {p : Int × Int} (h : Rp K H v (eP p)) : ∃ a, v = .ref a ∧ SqT K H a [.int p.1, .int p.2] := by
  unfold eP at h
  cases h with
  | tup hS hA =>
    cases hA with
    | cons h1 hA =>
      cases hA with
      | cons h2 hA =>
        cases hA
        cases h1
        cases h2
        exact ⟨_, rfl, hS⟩
theorem eP_inj : ∀ {l m : List (Int × Int)}, l.map eP = m.map eP → l = m
  | [], [], _ => rfl
  | [], _ :: _, h => by simp at h
  | _ :: _, [], h => by simp at h
  | a :: l, b :: m, h => by
    rw [List.map_cons, List.map_cons] at h
    injection h with h1 h2
    unfold eP at h1
    injection h1 with h1
    injection h1 with h3 h1
    injection h1 with h4 _
    injection h3 with h3
    injection h4 with h4
    rw [eP_inj h2, Prod.ext h3 h4]
theorem asc_of {L : List (Int × Int)} (h : (List.range (L.length - 1)).all (fun j => decide ((L.getD j (0, 0)).1 < (L.getD (j + 1) (0, 0)).1)) = true) : L.Pairwise fun a b => a.1 < b.1 := by
  have step : ∀ i (hi : i + 1 < L.length), L[i].1 < L[i + 1].1 := fun i hi => by
    have g := List.all_eq_true.mp h i (List.mem_range.mpr (by omega))
    rw [decide_eq_true_eq, List.getD_eq_getElem?_getD, List.getD_eq_getElem?_getD, List.getElem?_eq_getElem (show i < L.length by omega), List.getElem?_eq_getElem hi] at g
    exact g
  rw [List.pairwise_iff_getElem]
  have far : ∀ k i (hi : i + 1 + k < L.length), L[i].1 < L[i + 1 + k].1 := fun k => by
    induction k with
    | zero => exact fun i hi => step i hi
    | succ k ih =>
      intro i hi
      have a := ih i (by omega)
      have b := step (i + 1 + k) (by omega)
      exact Int.lt_trans a b
  intro i j hi hj lt
  have := far (j - i - 1) i (by omega)
  have e : i + 1 + (j - i - 1) = j := by omega
  simp only [e] at this
  exact this
theorem asc_to {L : List (Int × Int)} (h : L.Pairwise fun a b => a.1 < b.1) : (List.range (L.length - 1)).all (fun j => decide ((L.getD j (0, 0)).1 < (L.getD (j + 1) (0, 0)).1)) = true := by
  rw [List.all_eq_true]
  intro i hi
  have hi2 := List.mem_range.mp hi
  rw [decide_eq_true_eq, List.getD_eq_getElem?_getD, List.getD_eq_getElem?_getD, List.getElem?_eq_getElem (show i < L.length by omega), List.getElem?_eq_getElem (show i + 1 < L.length by omega)]
  exact List.pairwise_iff_getElem.mp h i (i + 1) (by omega) (by omega) (by omega)
def spIsStd (K : PySem.W.Frag) : Sp := fun vs H Q _ => ∃ (x y : V) (d : PyData) (C : Ct), vs = [x, y] ∧ Rp K H x d ∧ Rp K H y (eCt C) ∧ Cok C ∧ ∀ H', Same H H' → Q (.bl (stdB C d)) H'
section
variable {P : Program} {w : World} {K : PySem.W.Frag} {mg : Str → Option Value} {base : Heap} {m1 m2 m3 m4 m6 m7 m12 : Addr} {n1 n2 n3 n4 n6 n7 n12 : FuncData} {t1 t2 : Tok} {xs : Addr} {ys : FuncData}
theorem ok_isStd (T : StTxt K mg m1 m2 m3 m4 m6 m7 m12 n1 n2 n3 n4 n6 n7 n12 t1 t2 xs ys) {k : Nat} : FnOk P w K mg base CX0 (k + 3) xs ys ["thing", "contest"] (spIsStd K) := by
  have GW : FnOk P w K mg base CX0 (k + 2) m1 n1 ["thing"] (spWhole K) := ok_whole T.look
  have GB : FnOk P w K mg base CX0 (k + 2) m2 n2 ["thing", "low", "high"] (spBetween K) := ok_between T.look
  have GT : FnOk P w K mg base CX0 (k + 2) m3 n3 ["thing", "least", "most"] (spTuple K) := ok_tuple T.look
  refine T.FIsStd.ok scIsStd (fun vs H Q E h => ?_) (fun cdv A outer s H vs Q E hr h => ?_)
  · obtain ⟨x, y, d, C, rfl, _⟩ := h
    rfl
  · obtain ⟨x, y, d, C, rfl, hx, hy, hC, q⟩ := h
    refine ⟨_, (Evl.pss_cut (ps_asg (pe_slice sl_tupA (pv 1) (po_some pe_int) (po_some pe_int)) (pg_tup rfl (pgs_cons (pg_name (i := 2) scIsStd.nd rfl (.inl rfl)) (pgs_cons (pg_name (i := 3) scIsStd.nd rfl (.inl rfl)) (pgs_cons (pg_name (i := 4) scIsStd.nd rfl (.inr rfl)) pgs_nil)))))
 (pss_cons (ps_if (pt_not (pt_val (pe_call GT hr (by rfl) T.look.gTuple T.look.FTuple.kp T.look.bTuple .nil pass0 (pa_cons (pv 0) (pa_cons pe_int (pa_cons pe_int pa_nil)))))) (pss_one (ps_ret pe_bl)) pss_nil)
 (Evl.pss_cut (ps_asg (pv 0) (pg_tup rfl (pgs_cons (pg_name (i := 5) scIsStd.nd rfl (.inl rfl)) (pgs_cons (pg_name (i := 6) scIsStd.nd rfl (.inl rfl)) (pgs_cons (pg_name (i := 7) scIsStd.nd rfl (.inr rfl)) pgs_nil)))))
 (pss_cons (ps_if (PW.pt (pw_or (pt_not (pt_val (pe_call GB hr (by rfl) T.look.gBetween T.look.FBetween.kp T.look.bBetween .nil pass0 (pa_cons (pv 5) (pa_cons pe_int (pa_cons (pe_op op_sub (pe_callB call_len_seq (by rfl) T.look.len PySem.boot_len (pa_cons (pv 2) pa_nil)) pe_int) pa_nil)))))) (pw_or1 (pt_not (pt_val (pe_call GB hr (by rfl) T.look.gBetween T.look.FBetween.kp T.look.bBetween .nil pass0 (pa_cons (pv 6) (pa_cons pe_int (pa_cons (pe_op op_sub (pe_callB call_len_seq (by rfl) T.look.len PySem.boot_len (pa_cons (pv 3) pa_nil)) pe_int) pa_nil))))))))) (pss_one (ps_ret pe_bl)) pss_nil)
 (pss_cons (ps_if (PW.pt (pw_or (pt_not (pt_val (pe_call GT hr (by rfl) T.look.gTuple T.look.FTuple.kp T.look.bTuple .nil pass0 (pa_cons (pv 7) (pa_cons pe_int (pa_cons (pe_callB (len_seqK (K := K) rfl) (by rfl) T.look.len PySem.boot_len (pa_cons (pv 4) pa_nil)) pa_nil)))))) (pw_or1 (pt_not (pt_val (pe_callB (cr_all rfl) (by rfl) T.look.all (by decide +kernel) (pa_cons (pe_lc (own := [("pair", 9)]) (g := gName 9) (tt := tYes) (by rfl) scIsStd.nd (pi_tup (pv 7)) (blkOk_by (N := ["thing", "contest", "places", "ones", "others", "place", "state", "leads", "at", "pair"]) (sc := defScope sIsStd) (by decide +kernel)) (fun _ _ _ _ _ => pg_name (i := 9) scIsStd.nd rfl (Or.inl rfl)) (fun _ _ _ _ _ => pts_nil) (fun _ _ _ _ _ => (pe_call GT hr (by rfl) T.look.gTuple T.look.FTuple.kp T.look.bTuple .nil pass0 (pa_cons (pv 9) (pa_cons pe_int (pa_cons pe_int pa_nil)))))) pa_nil))))))) (pss_one (ps_ret pe_bl)) pss_nil)
 (pss_cons (ps_if (pt_not (pt_val (pe_callB (cr_all rfl) (by rfl) T.look.all (by decide +kernel) (pa_cons (pe_lc (own := [("pair", 9)]) (g := gName 9) (tt := tYes) (by rfl) scIsStd.nd (pi_tup (pv 7)) (blkOk_by (N := ["thing", "contest", "places", "ones", "others", "place", "state", "leads", "at", "pair"]) (sc := defScope sIsStd) (by decide +kernel)) (fun _ _ _ _ _ => pg_name (i := 9) scIsStd.nd rfl (Or.inl rfl)) (fun _ _ _ _ _ => pts_nil) (fun _ _ _ _ _ => (pe_and (pe_call GB hr (by rfl) T.look.gBetween T.look.FBetween.kp T.look.bBetween .nil pass0 (pa_cons (pe_ix (ixT (K := K) rfl) (pv 9) pe_int (fun _ _ => rfl)) (pa_cons pe_int (pa_cons (pe_op op_sub (pe_callB (len_seqK (K := K) rfl) (by rfl) T.look.len PySem.boot_len (pa_cons (pv 4) pa_nil)) pe_int) pa_nil)))) (pe_one (pe_call GW hr (by rfl) T.look.gWhole T.look.FWhole.kp T.look.bWhole .nil pass0 (pa_cons (pe_ix (ixT (K := K) rfl) (pv 9) pe_int (fun _ _ => rfl)) pa_nil)))))) pa_nil)))) (pss_one (ps_ret pe_bl)) pss_nil)
 (pss_one (ps_ret (pe_callB (cr_all rfl) (by rfl) T.look.all (by decide +kernel) (pa_cons (pe_lc (own := [("at", 8)]) (g := gName 8) (tt := tYes) (by rfl) scIsStd.nd (pi_range1 (by rfl) T.look.range (pa_cons (pe_op op_sub (pe_callB call_len_seq (by rfl) T.look.len PySem.boot_len (pa_cons (pv 7) pa_nil)) pe_int) pa_nil)) (blkOk_by (N := ["thing", "contest", "places", "ones", "others", "place", "state", "leads", "at", "pair"]) (sc := defScope sIsStd) (by decide +kernel)) (fun _ _ _ _ _ => pg_name (i := 8) scIsStd.nd rfl (Or.inl rfl)) (fun _ _ _ _ _ => pts_nil) (fun _ _ _ _ _ => (pe_cmpR op_lt (pe_ix (ixT (K := K) rfl) (pe_ix (ixT (K := K) rfl) (pv 7) (pv 8) (fun _ _ => rfl)) pe_int (fun _ _ => rfl)) (pe_ix (ixT (K := K) rfl) (pe_ix (ixT (K := K) rfl) (pv 7) (pe_op op_add (pv 8) pe_int) (fun _ _ => rfl)) pe_int (fun _ _ => rfl)) (nomark _)))) pa_nil)))))))))), ?_⟩
    obtain ⟨a, rt, rs, c1, us, c2, ws, rfl, hSa, hrt, hrs, hc1, hus, hc2, hws⟩ := ct_top hy
    have lrs : rs.length = C.R.length := by
      have := hrs.len
      unfold rowsD at this
      rwa [List.length_map] at this
    have lus : us.length = C.M.C.length := by rw [hus.len, List.length_map]
    have lws : ws.length = C.N.C.length := by rw [hws.len, List.length_map]
    have c3 := hC.n.c3
    have room : ∀ {m : Nat}, m ≤ 1000 → m < sizeLine := fun h => Nat.lt_of_le_of_lt h (by decide)
    have no : ∀ {H'}, Same H H' → (∀ t, d = eSg t → StdOk C t → False) → Q (.bl false) H' := fun s h => by
      have := q _ s
      rwa [stdB_false fun ⟨t, e, o⟩ => h t e o] at this
    refine ⟨fun σ H1 => σ = [some x, some (.ref a), some (.ref rt), some (.ref c1), some (.ref c2), none, none, none, none, none] ∧ Same H H1, ?_, ?_⟩
    · refine ⟨_, rfl, _, rfl, _, rfl, sl_any (K := K) hSa fun r H1 s1 hr => ?_⟩
      exact ⟨r, _, rfl, (show SqT K H1 r [.ref rt, .ref c1, .ref c2] from hr), rfl, _, _, rfl, _, _, rfl, _, _, rfl, rfl, rfl, s1⟩
    rintro σ H1 ⟨rfl, s1⟩
    refine ⟨_, rfl, x, d, 3, 3, rfl, hx.go s1, _, rfl, ?_⟩
    by_cases y : tupD 3 3 d = true
    case neg => exact ite2 (fun _ => no s1 fun t e _ => y (by rw [e]; rfl)) (fun u => absurd u (by rw [eq_false_of_ne_true y]; decide))
    refine ite2 (fun u => absurd u (by rw [y]; decide)) (fun _ => ?_)
    obtain ⟨ta, xs3, ds3, rfl, rfl, hS3, hA3, l1, l2⟩ := tup_of hx y
    obtain ⟨u, v, z, d1, d2, d3, rfl, rfl, r1, r2, r3⟩ := hA3.three (by omega)
    refine ⟨fun σ H2 => σ = [some (.ref ta), some (.ref a), some (.ref rt), some (.ref c1), some (.ref c2), some u, some v, some z, none, none] ∧ H1 = H2, ?_, ?_⟩
    · exact ⟨_, rfl, ta, _, rfl, same_tup s1 hS3, rfl, _, _, rfl, _, _, rfl, _, _, rfl, rfl, rfl, rfl⟩
    rintro σ H2 ⟨rfl, rfl⟩
    have inv : ∀ t : Sg, PyData.tuple [d1, d2, d3] = eSg t → d1 = .int t.p ∧ d2 = .int t.s ∧ d3 = .tuple (t.L.map eP) := fun t e => by
      unfold eSg at e
      injection e with e
      injection e with e1 e
      injection e with e2 e
      injection e with e3 _
      exact ⟨e1, e2, e3⟩
    -- place, state
    refine ⟨_, rfl, _, rfl, rt, rs, rfl, .inr (same_tup s1 hrt), _, _, rfl, rfl, u, d1, _, _, rfl, r1.go s1, _, rfl, ?_⟩
    by_cases b1 : betD 0 ((rs.length : Int) - 1) d1 = true
    case neg =>
      refine ite2 (fun _ => iteT (no s1 fun t e o => b1 ?_)) (fun w => absurd w (by rw [eq_false_of_ne_true b1]; decide))
      have p0 := o.p0
      have p1 := o.p1
      rw [(inv t e).1, betD, decide_eq_true p0, lrs, decide_eq_true p1]
      rfl
    refine ite2 (fun w => absurd w (by rw [b1]; decide)) (fun _ => ?_)
    refine ⟨_, rfl, _, rfl, c1, us, rfl, .inr (same_tup s1 hc1), _, _, rfl, rfl, v, d2, _, _, rfl, r2.go s1, _, rfl, ?_⟩
    by_cases b2 : betD 0 ((us.length : Int) - 1) d2 = true
    case neg =>
      refine ite2 (fun _ => no s1 fun t e o => b2 ?_) (fun w => absurd w (by rw [eq_false_of_ne_true b2]; decide))
      have p0 := o.s0
      have p1 := o.s1
      rw [(inv t e).2.1, betD, decide_eq_true p0, lus, decide_eq_true p1]
      rfl
    refine ite2 (fun w => absurd w (by rw [b2]; decide)) (fun _ => ?_)
    -- leads
    refine ⟨_, rfl, _, rfl, c2, ws, rfl, .inr (same_tup s1 hc2), z, d3, _, _, rfl, r3.go s1, _, rfl, ?_⟩
    by_cases b3 : tupD 1 (ws.length : Int) d3 = true
    case neg =>
      refine ite2 (fun _ => iteT (no s1 fun t e o => b3 ?_)) (fun w => absurd w (by rw [eq_false_of_ne_true b3]; decide))
      have p0 := o.ne
      have p1 := o.le
      rw [(inv t e).2.2, tupD, List.length_map, decide_eq_true (by omega), lws, decide_eq_true (by omega)]
      rfl
    refine ite2 (fun w => absurd w (by rw [b3]; decide)) (fun _ => ?_)
    obtain ⟨la, ys4, ds, rfl, rfl, hS4, hA4, k1, k2⟩ := tup_of r3 b3
    have lds : ds.length ≤ 300 := by omega
    have ly : ys4.length = ds.length := hA4.len
    refine ⟨_, rfl, la, rfl, ⟨_, same_tup s1 hS4⟩, fun D nD => ?_⟩
    refine lc_tupO (xs := ys4) (fun i H' => Same H1 H' ∧ H' D = some (.lst (((ds.take i).map (tupD 2 2)).map V.bl))) ⟨same_upd nD, upd_same⟩ (fun i H' h => same_tup (s1.trans h.1) hS4) ?_ ?_
    · rintro i w H' hw ⟨sm, hD⟩
      obtain ⟨e, he, re⟩ := hA4.at hw
      refine ⟨rfl, ?_⟩
      refine ⟨_, rfl, w, e, _, _, rfl, re.go (s1.trans sm), _, hD, ?_, same_new sm nD, ?_⟩
      · rw [List.length_map, List.length_map]
        have := List.length_take_le' i ds
        exact room (by omega)
      · rw [upd_same, take_all he, List.map_append]
        rfl
    rintro H2 ⟨s2, hD⟩
    rw [ly, List.take_length] at hD
    have s12 := s1.trans s2
    refine ⟨D, _, rfl, SqL.of hD, _, rfl, ?_⟩
    rw [all_map]
    by_cases b4 : ds.all (tupD 2 2) = true
    case neg =>
      refine ite2 (fun _ => no s12 fun t e o => b4 ?_) (fun w => absurd w (by rw [eq_false_of_ne_true b4]; decide))
      have e3 := (inv t e).2.2
      injection e3 with e3
      rw [e3, List.all_map]
      exact List.all_eq_true.mpr fun _ _ => rfl
    refine ite2 (fun w => absurd w (by rw [b4]; decide)) (fun _ => ?_)
    have pairs : ∀ e ∈ ds, ∃ f g, e = .tuple [f, g] := fun e he => two_of (List.all_eq_true.mp b4 e he)
    -- their rivals, numbers
    refine ⟨_, rfl, la, rfl, ⟨_, same_tup s12 hS4⟩, fun D2 nD2 => ?_⟩
    refine lc_tupO (xs := ys4) (fun i H' => Same H2 H' ∧ H' D2 = some (.lst (((ds.take i).map (rivB C)).map V.bl))) ⟨same_upd nD2, upd_same⟩ (fun i H' h => same_tup (s12.trans h.1) hS4) ?_ ?_
    · rintro i w H' hw ⟨sm, hD2⟩
      obtain ⟨e, he, re⟩ := hA4.at hw
      obtain ⟨f, g, rfl⟩ := pairs e (List.mem_of_getElem? he)
      have re2 := re.go (s12.trans sm)
      cases re2 with
      | @tup pa ps _ hp hpa =>
        cases hpa with
        | @cons pv _ _ _ hf hpa =>
          cases hpa with
          | @cons qv _ _ _ hg hpn =>
            cases hpn
            have fin : ∀ {bb : Bool}, bb = rivB C (.tuple [f, g]) → ∃ acc, H' D2 = some (.lst acc) ∧ acc.length < sizeLine ∧ Same H2 (upd H' D2 (.lst (acc ++ [V.bl bb]))) ∧ (upd H' D2 (.lst (acc ++ [V.bl bb]))) D2 = some (.lst (((ds.take (i + 1)).map (rivB C)).map V.bl)) := fun e => by
              refine ⟨_, hD2, ?_, same_new sm nD2, ?_⟩
              · rw [List.length_map, List.length_map]
                have := List.length_take_le' i ds
                exact room (by omega)
              · rw [upd_same, take_all he, List.map_append, e]
                rfl
            refine ⟨rfl, ?_⟩
            refine ⟨_, rfl, pa, _, 0, pv, rfl, rfl, hp, rfl, _, rfl, c2, ws, rfl, .inr (same_tup (s12.trans sm) hc2), _, _, rfl, rfl, pv, f, _, _, rfl, hf, _, rfl, ?_⟩
            by_cases b5 : betD 0 ((ws.length : Int) - 1) f = true
            · refine ite2 (fun _ => ?_) (fun w => absurd b5 w)
              refine ⟨_, rfl, pa, _, 1, qv, rfl, rfl, hp, rfl, qv, g, rfl, hg, fin ?_⟩
              unfold rivB
              rw [← lws]
              show _ = (betD 0 _ f && _)
              rw [b5, Bool.true_and]
            · refine ite2 (fun w => absurd w b5) (fun _ => fin ?_)
              unfold rivB
              rw [← lws]
              show _ = (betD 0 _ f && _)
              rw [eq_false_of_ne_true b5, Bool.false_and]
    rintro H3 ⟨s3, hD2⟩
    rw [ly, List.take_length] at hD2
    have s13 := s12.trans s3
    refine ⟨D2, _, rfl, SqL.of hD2, _, rfl, ?_⟩
    rw [all_map]
    by_cases b5 : ds.all (rivB C) = true
    case neg =>
      refine ite2 (fun _ => no s13 fun t e o => b5 ?_) (fun w => absurd w (by rw [eq_false_of_ne_true b5]; decide))
      have e3 := (inv t e).2.2
      injection e3 with e3
      rw [e3, List.all_map]
      refine List.all_eq_true.mpr fun p hp => ?_
      have g := o.rg p hp
      show (betD 0 _ (.int p.1) && decide (kindOf (.int p.2) = "int")) = true
      rw [betD, decide_eq_true g.1, decide_eq_true g.2]
      rfl
    refine ite2 (fun w => absurd w (by rw [b5]; decide)) (fun _ => ?_)
    obtain ⟨L, rfl, hL⟩ := lift_map (f := eP) (P := fun p : Int × Int => 0 ≤ p.1 ∧ p.1 ≤ (C.N.C.length : Int) - 1) ds fun e he => riv_of (pairs e he) (List.all_eq_true.mp b5 e he)
    rw [List.length_map] at k1 k2 lds ly
    -- ascending
    refine ⟨_, rfl, la, ys4, rfl, .inr (same_tup s13 hS4), _, _, rfl, rfl, _, rfl, by omega, by omega, fun D3 nD3 => ?_⟩
    rw [show ((ys4.length : Int) - 1).toNat = L.length - 1 by omega]
    refine lc_range (lo := 0) (n := L.length - 1) (fun i H' => Same H3 H' ∧ H' D3 = some (.lst (((List.range i).map fun j => decide ((L.getD j (0, 0)).1 < (L.getD (j + 1) (0, 0)).1)).map V.bl))) ⟨same_upd nD3, upd_same⟩ ?_ ?_
    · rintro i H' hi ⟨sm, hD3⟩
      have s4 := s13.trans sm
      obtain ⟨w1, hw1, q1⟩ := rpAll_get (hA4.go s4) (List.getElem?_eq_getElem (show i < L.length by omega))
      obtain ⟨w2, hw2, q2⟩ := rpAll_get (hA4.go s4) (List.getElem?_eq_getElem (show i + 1 < L.length by omega))
      obtain ⟨p1, rfl, g1⟩ := pr_top q1
      obtain ⟨p2, rfl, g2⟩ := pr_top q2
      have hla := same_tup s4 hS4
      refine ⟨rfl, ?_⟩
      refine ⟨_, rfl, _, rfl, la, _, _, _, rfl, rfl, hla, (by rw [Int.zero_add]; exact atI_nat hw1), p1, _, 0, _, rfl, rfl, g1, rfl, ?_⟩
      refine ⟨_, rfl, _, rfl, _, _, rfl, rfl, la, _, _, _, rfl, rfl, hla, (by rw [show (0 + (i : Int)) + 1 = ((i + 1 : Nat) : Int) by omega]; exact atI_nat hw2), p2, _, 0, _, rfl, rfl, g2, rfl, _, _, rfl, rfl, _, hD3, ?_, same_new sm nD3, ?_⟩
      · rw [List.length_map, List.length_map, List.length_range]
        exact room (by omega)
      · rw [upd_same, List.range_succ, List.map_append, List.map_append, List.map_singleton, List.map_singleton, List.getD_eq_getElem?_getD, List.getD_eq_getElem?_getD, List.getElem?_eq_getElem (show i < L.length by omega), List.getElem?_eq_getElem (show i + 1 < L.length by omega)]
        rfl
    rintro H4 ⟨s4, hD3⟩
    have s14 := s13.trans s4
    refine ⟨D3, _, rfl, SqL.of hD3, ?_⟩
    rw [all_map]
    have st : ∃ i j : Int, d1 = .int i ∧ d2 = .int j ∧ 0 ≤ i ∧ i ≤ (C.R.length : Int) - 1 ∧ 0 ≤ j ∧ j ≤ (C.M.C.length : Int) - 1 := by
      rw [lrs] at b1
      rw [lus] at b2
      obtain ⟨i, rfl, i0, i1⟩ := bet_of b1
      obtain ⟨j, rfl, j0, j1⟩ := bet_of b2
      exact ⟨i, j, rfl, rfl, i0, i1, j0, j1⟩
    obtain ⟨i, j, rfl, rfl, i0, i1, j0, j1⟩ := st
    by_cases b6 : (List.range (L.length - 1)).all (fun j => decide ((L.getD j (0, 0)).1 < (L.getD (j + 1) (0, 0)).1)) = true
    · rw [b6]
      have yes : stdB C (.tuple [.int i, .int j, .tuple (L.map eP)]) = true := stdB_true ⟨⟨i, j, L⟩, rfl, ⟨i0, i1, j0, j1, by show 1 ≤ L.length; omega, by show L.length ≤ _; omega, hL, asc_of b6⟩⟩
      have := q H4 s14
      rwa [yes] at this
    · rw [eq_false_of_ne_true b6]
      refine no s14 fun t e o => b6 ?_
      have e3 := (inv t e).2.2
      injection e3 with e3
      have eL : L = t.L := eP_inj e3
      rw [eL]
      exact asc_to o.asc
end
end My
/-! ### {x: v for x in ..}, the keys data told by an encoding -/
namespace My
open PySem PySem.Spec PyProof.Rows L2 PySem.Builtin.Str
section
variable {X : Cx}
/-- a turn of such a comprehension -/
def stepN (P : Program) (w : World) (K : PySem.W.Frag) (tt : TT) (tk tv : TE) (D : Addr) (Nx : Hp → Prop) : L2.St → Hp → Prop := fun σ H => tt σ H fun b H1 =>
  if b = true then tk σ H1 fun y H2 => tv σ H2 fun z H3 => ∃ H4, EPut P w K H3 (.ref D) y z H4 ∧ Nx H4 else Nx H1
def tNDc (P : Program) (w : World) (K : PySem.W.Frag) (wi : TI) (g : TG) (tt : TT) (tk tv : TE) (vs : List Nat) : TE := fun σ H Q => wi σ H fun J H1 => ∀ D, H1 D = none → ∃ W : Nat → Nat → Hp → Prop, (∃ m, W 0 m (upd H1 D (NdO P w D []))) ∧
  ∀ i m H, W i m H → (J.stop i H ∧ Q (.ref D) H) ∨ (J.go i H ∧ ∃ Nx : Hp → Prop, (∀ H', Nx H' → ∃ m', m' < m ∧ W (i + 1) m' H') ∧ ∀ x H', J.yld i H x H' → g x (wipe σ vs) H' fun σ2 H2 => wipe σ2 vs = wipe σ vs ∧ stepN P w K tt tk tv D Nx σ2 H2)
theorem nd_store {pins : List (Addr × Obj)} {σ : L2.St} {H H' : Hp} {s : Shared} {A : Around} {E : Value → Shared → Prop} {D : Addr} {y v : V} {u r : Value} {Q : Unit → Shared → Prop} (hu : A.units + 9 < cLine) (I : Inv X pins σ H s) (p : EPut X.prog X.w X.K H (.ref D) y v H') (ru : RelV y u) (rr : RelV v r)
    (h : ∀ s', Inv X pins σ H' s' → Q () s') : wpAny (model X.prog X.w) A (dictSet D u r) Q E s := by
  obtain ⟨a, b, xs, d, ⟨ea, eb, n, hb, t, l⟩, hz, e4⟩ := p
  cases ea
  subst eb e4
  obtain rfl : u = Value.ref b := ru
  obtain ⟨z, ys, rel, dd⟩ := nd_of I n
  have few : ys.length ≤ sizeLine := by
    rw [← Paired.length rel]
    exact Nat.le_of_lt hz
  have roomy : (nestedKind X.prog X.w).room A := show A.units + 8 < cLine by omega
  refine wpAny_dictSet_heap (hsz := few) roomy (nk_of I hb t l) dd fun h' dd' sb => h _ ?_
  obtain ⟨q, es, ep, hq, h2, h3, h4, _, h5⟩ := dd'
  exact d_write I (by rw [n.here]; exact True.intro) sb ⟨q, hq⟩ (ndO_ok ⟨z, _, rel.put _ rr, h5, q, es, ep, hq, h2, h3, h4⟩)
/-- the new dict -/
theorem nd_laid {pins : List (Addr × Obj)} {σ : L2.St} {H : Hp} {s : Shared} (I : Inv X pins σ H s) : Inv X pins σ (upd H s.heap.objs.size (NdO X.prog X.w s.heap.objs.size [])) { s with heap := s.heap.push { cls := .type "dict", data := .dict #[] } } := by
  have zs : (s.heap.objs.size == PySem.sysModules) = false := by
    rw [beq_eq_false_iff_ne]
    exact Nat.ne_of_gt I.big
  refine I.laid (o := NdO X.prog X.w s.heap.objs.size []) (t' := s.toks) (fun b o e => Heap.get?_push_of_some _ e) (Nat.le_refl _) (ndO_ok ⟨zs, [], .nil, List.nodup_nil, _, #[], 0, Heap.get?_push_size _ rfl, ⟨rfl, rfl, rfl⟩, rfl, rfl⟩)
/-- the turns, and back -/
theorem ndc_loop {pins : List (Addr × Obj)} {σ : L2.St} {H3 : Hp} {s3 s4 : Shared} {Q : VK} {kx vx tg iter : Expr} {scope : Scope} {own : List (Str × Nat)} {pos : Pos} {g : TG} {tk tv : TE} {J : It} {fp : List Addr} {it D : Addr} {tn : Nat → Heap → Prop} {W : Nat → Nat → Hp → Prop} {m0 : Nat} {ce : Env}
    (hu : X.A.units + 9 < cLine) (calm : X.calm = true) (J3 : Inv X pins σ H3 s3) (T : Turn X.prog X.w X.K tg J fp it tn) (held : ∀ b ∈ fp, FpOk X pins H3 b ∧ b < s3.heap.objs.size) (cL : ce.locals = s3.heap.objs.size) (J4 : Inv (X.blk s3 H3 scope ce fp) [] (wipe σ (own.map (·.2))) H3 s4)
    (gg : PG (X.blk s3 H3 scope ce fp) tg g) (gk : PE (X.blk s3 H3 scope ce fp) kx tk) (gv : PE (X.blk s3 H3 scope ce fp) vx tv) (st4 : tn 0 s4.heap) (w0 : W 0 m0 H3)
    (turn : ∀ i m H, W i m H → (J.stop i H ∧ Q (.ref D) H) ∨ (J.go i H ∧ ∃ Nx : Hp → Prop, (∀ H', Nx H' → ∃ m', m' < m ∧ W (i + 1) m' H') ∧ ∀ x H', J.yld i H x H' → g x (wipe σ (own.map (·.2))) H' fun σ2 H2 => wipe σ2 (own.map (·.2)) = wipe σ (own.map (·.2)) ∧ stepN X.prog X.w X.K tYes tk tv D Nx σ2 H2)) :
    codeAny (model X.prog X.w) X.A (.compStart (.DictComp kx vx [⟨tg, iter, [], 0⟩] scope pos) 0 (.ref it) (.ref D) ce) (compPost (model X.prog X.w) X.A X.xe none (fun v s' => ∃ x H', Inv X pins σ H' s' ∧ RelV x v ∧ Q x H') (.ref D) s3.heap.objs.size) s4 := by
  have quiet : ∀ {σ' : L2.St} {H' : Hp} {s' : Shared}, Inv (X.blk s3 H3 scope ce fp) [] σ' H' s' → (∀ b ∈ fp, H' b = none) → ∀ b ∈ fp, FpOk (X.blk s3 H3 scope ce fp) [] H' b := fun {σ' H' s'} I' hn b hb =>
    ⟨hn b hb, (I'.ok.exf b hb).1, I'.ok.exfs b hb, .inl hb, (I'.ok.exf b hb).2, fun p hp => absurd hp (by simp [show (X.blk s3 H3 scope ce fp).pn = [] from rfl])⟩
  have all : codeAny (model X.prog X.w) X.A (.compLoop (.DictComp kx vx [⟨tg, iter, [], 0⟩] scope pos) 0 (.ref it) (.ref D) ce) (compPost (model X.prog X.w) X.A X.xe none (fun v s' => ∃ x H', Inv X pins σ H' s' ∧ RelV x v ∧ Q x H') (.ref D) s3.heap.objs.size) s4 := by
    refine compLoop_anyD (fun n s' => ∃ i G, Inv (X.blk s3 H3 scope ce fp) [] (wipe σ (own.map (·.2))) G s' ∧ tn i s'.heap ∧ (∀ b ∈ fp, G b = none) ∧ W i n G) ?_ m0 ⟨0, H3, J4, st4, fun b hb => (held b hb).1.1, w0⟩
    rintro n s5 ⟨i, H5, I5, st5, n5, w5⟩
    rcases turn i n H5 w5 with ⟨stop, qq⟩ | ⟨go, Nx, less, step⟩
    · refine thnF (T.done (X.blk s3 H3 scope ce fp) rfl rfl rfl calm i [] s5 _ H5 (fun _ _ => False) I5 (quiet I5 n5) st5 stop) fun r s6 ⟨er, I6⟩ => ?_
      subst er
      have back : Inv X pins σ H5 s6 := J3.call' (ch := fp) I6.os I6.base I6.hok I6.bare fun b hb => by
        obtain ⟨_, a2, a3, a4, a5, a6⟩ := (held b hb).1
        exact ⟨a4, a2, a5, a6⟩
      have gone : H5 s3.heap.objs.size = none := by
        rw [← cL]
        exact I6.free
      obtain ⟨m, ns, _⟩ := I6.loc
      refine ⟨m, by rw [← cL]; exact ns, fun h' sb => ?_⟩
      obtain ⟨f0, f1, f2, f3, f4, f5⟩ := J3.fpOk (Nat.le_refl _) gone
      exact ⟨.ref D, H5, back.turned (t' := s6.toks) (fun b o hb e => (sb.2 b hb).trans e) f0 f1 f3 f4 f5, rfl, qq⟩
    · refine thnF (T.item (X.blk s3 H3 scope ce fp) rfl rfl rfl calm i [] s5 _ H5 (fun _ _ => False) I5 (quiet I5 n5) st5 go) fun r s6 ⟨u, er, h6⟩ => ?_
      subst er
      refine thnF h6 fun _ s7 ⟨x, H7, I7, r7, y7, st7, n7⟩ => ?_
      refine thnF (gg.run _ s7 _ H7 x u _ (I7.pinned (quiet I7 n7) (T.obj _ _ st7)) r7 (step x H7 y7)) fun _ s8 ⟨σ8, H8, I8, e8, q8⟩ => ?_
      refine wpAny_pure ?_
      show if true = true then _ else _
      rw [if_pos rfl]
      refine thnF (gk.run _ s8 σ8 H8 _ I8 q8) fun kv s9 ⟨y, H9, I9, r9, q9⟩ => thnF (gv.run _ s9 σ8 H9 _ I9 q9) fun vv s10 ⟨z, H10, I10, r10, H11, put, nx⟩ => ?_
      refine nd_store (X := X.blk s3 H3 scope ce fp) hu I10 put r9 r10 fun s11 I11 => ?_
      obtain ⟨m, lt, w⟩ := less _ nx
      have pin : ∀ b ∈ fp, ∀ o, s7.heap.get? b = some o → s11.heap.get? b = some o ∧ H11 b = none := fun b hb o e => by
        have p := I11.pin (b, o) (List.mem_append_right _ (List.mem_append_right _ (mem_pinsAt hb e)))
        exact ⟨p.1, p.2.1⟩
      have ll : (wipe σ (own.map (·.2))).length = σ8.length := by
        rw [← e8]
        exact wipe_length _ _
      refine ⟨m, lt, i + 1, H11, (I11.unpinned (pins := [])).weak ll (fun j v e => ?_), T.keep _ _ _ st7 fun b hb o e => (pin b hb o e).1, fun b hb => ?_, w⟩
      · rw [← e8] at e
        exact (wipe_some e).1
      · obtain ⟨o, e, _⟩ := T.obj _ _ st7 b hb
        exact (pin b hb o e).2
  exact codeAny_compStart_dict all (T.self X.A 0 _ _ _ st4 all)
theorem pe_ndc {kx vx tg iter : Expr} {scope : Scope} {own : List (Str × Nat)} {pos : Pos} {wi : TI} {g : TG} {tk tv : TE} (hu : X.A.units + 9 < cLine) (calm : X.calm = true) (nod : X.N.Nodup) (hi : PI X tg iter wi) (ok : BlkOk X.N X.env.scope scope own)
    (hg : ∀ (s : Shared) (H : Hp) (C : Addr) (cl : List (Str × Addr)) (fp : List Addr), PG (X.blk s H scope (compEnvC scope cl C X.env) fp) tg g) (hk : ∀ (s : Shared) (H : Hp) (C : Addr) (cl : List (Str × Addr)) (fp : List Addr), PE (X.blk s H scope (compEnvC scope cl C X.env) fp) kx tk)
    (hv : ∀ (s : Shared) (H : Hp) (C : Addr) (cl : List (Str × Addr)) (fp : List Addr), PE (X.blk s H scope (compEnvC scope cl C X.env) fp) vx tv) (hs : ∀ x, foldedSetIterable iter X.env x = pure x := by intro _; rfl) : PE X (.DictComp kx vx [⟨tg, iter, [], 0⟩] scope pos) (tNDc X.prog X.w X.K wi g tYes tk tv (own.map (·.2))) := by
  refine ⟨fun pins s σ H Q I h => ?_⟩
  rw [arm_eval_DictComp]
  have cells : ∀ y ∈ scope.names, y.2 = .free → ∃ c, X.env.cells.lookup y.1 = some c := fun y hy e => (ok.free y hy e).elim (fun k => I.ok.has _ (.inl k)) fun k => I.ok.has _ (.inr k)
  refine wpAny_comprehension_free rfl hs (closure_ok cells) ok.kind (fun y hy e => by rw [ok.uniq y hy, e]) ?_
  refine thn (hi.run pins s σ H _ I h) fun xv s1 hx => thn hx fun itv s2 ⟨it, fp, tn, J, H2, e, I2, T, st2, f2, q⟩ => ?_
  subst e
  refine wpAny_newObj_type (newEnv_comp ?_)
  have nD : H2 s2.heap.objs.size = none := I2.hok.fresh (Nat.le_refl _)
  obtain ⟨W, ⟨m0, w0⟩, turn⟩ := q _ nD
  have old : ∀ b ∈ fp, b < s2.heap.objs.size := fun b hb => (T.obj _ _ st2 b hb).elim fun o e => Heap.lt_size e.1
  have J3 := nd_laid I2
  have held : ∀ b ∈ fp, FpOk X pins (upd H2 s2.heap.objs.size (NdO X.prog X.w s2.heap.objs.size [])) b ∧ b < (s2.heap.push { cls := .type "dict", data := .dict #[] }).objs.size := fun b hb => by
    refine ⟨⟨?_, (f2 b hb).2⟩, ?_⟩
    · rw [upd_ne (Nat.ne_of_lt (old b hb))]
      exact (f2 b hb).1
    · rw [Heap.size_push]
      exact Nat.lt_succ_of_lt (old b hb)
  have stA : tn 0 (s2.heap.push { cls := .type "dict", data := .dict #[] }) := T.keep _ _ _ st2 fun b _ o e => Heap.get?_push_of_some _ e
  generalize e3 : ({ s2 with heap := s2.heap.push { cls := .type "dict", data := .dict #[] } } : Shared) = s3 at J3 ⊢
  have h3 : s3.heap = s2.heap.push { cls := .type "dict", data := .dict #[] } := by rw [← e3]
  rw [← h3] at held stA
  generalize eH : upd H2 s2.heap.objs.size (NdO X.prog X.w s2.heap.objs.size []) = H3 at J3 held w0
  have J4 := block_start J3 ok nod held
  have gg := hg s3 H3 s3.heap.objs.size (cellsFrom (s3.heap.objs.size + 1) scope.names (cloFrom X.env.cells scope.names [])) fp
  have gk := hk s3 H3 s3.heap.objs.size (cellsFrom (s3.heap.objs.size + 1) scope.names (cloFrom X.env.cells scope.names [])) fp
  have gv := hv s3 H3 s3.heap.objs.size (cellsFrom (s3.heap.objs.size + 1) scope.names (cloFrom X.env.cells scope.names [])) fp
  refine ndc_loop (ce := compEnvC scope (cellsFrom (s3.heap.objs.size + 1) scope.names (cloFrom X.env.cells scope.names [])) s3.heap.objs.size X.env) hu calm J3 T held rfl J4 gg gk gv ?_ w0 turn
  exact T.keep _ _ _ stA fun b _ o e => pushCells_keeps _ _ _ _ (Heap.get?_push_of_some _ e)
end
end My
/-! ### shows_never -/
namespace My
open PySem PySem.Spec PyProof.Rows L2 PySem.Builtin.Str
abbrev sShowsNever : Stmt := topS 50
theorem scShowsNever : FnScope ["one", "other", "rule", "thing", "contest", "told", "standing", "at", "part", "later"] ["one", "other", "rule", "thing"] (defScope sShowsNever) := ⟨rfl, rfl, rfl, by decide +kernel, rfl, by decide +kernel, by decide +kernel⟩
structure NvTxt (K : PySem.W.Frag) (mg : Str → Option Value) (m1 m2 m3 m4 m5 m6 m7 m8 m9 m10 m11 m12 : Addr) (n1 n2 n3 n4 n5 n6 n7 n8 n9 n10 n11 n12 : FuncData) (t1 t2 t3 t4 t5 : Tok) (CM a1 a3 : Addr) (b1 b3 : FuncData) (r1 r2 r3 r4 r5 p1 : Addr) (v1 v2 v3 v4 v5 q1 : FuncData) (CX CR CI : Addr) (mR mW : Addr) (nR nW : FuncData) (g1 g2 g3 g4 g5 : Addr) (e1 e2 e3 e4 e5 : FuncData) (CG fF : Addr) (x1 x2 : Addr) (y1 y2 : FuncData) : Prop where
  co : CoTxt K mg m1 m2 m3 m4 m5 m6 m7 m8 m9 m10 m11 m12 n1 n2 n3 n4 n5 n6 n7 n8 n9 n10 n11 n12 t1 t2 t3 t4 t5 CM a1 a3 b1 b3 r1 r2 r3 r4 r5 p1 v1 v2 v3 v4 v5 q1 CX CR CI
  look : LookTxt K mg m1 m2 m3 m4 mW m7 mR n1 n2 n3 n4 nW n7 nR t1 t2
  lu : LuTxt K mg g1 g2 g3 g4 g5 e1 e2 e3 e4 e5 CG fF
  st : StTxt K mg m1 m2 m3 m4 mW m7 mR n1 n2 n3 n4 nW n7 nR t1 t2 x1 y1
  list : mg "list" = none
  FShowsNever : Fun K "shows_never" "shows_never" sShowsNever x2 y2
  bShowsNever : Binds K y2 ["one", "other", "rule", "thing"] []
  gShowsNever : mg "shows_never" = some (.ref x2)
/-- standings that show it -/
structure Nv (C : Ct) (ts : List Sg) : Prop where
  ok : ∀ t ∈ ts, StdOk C t
  nd : ts.Nodup
  first : FIRSTg ∈ ts
  cl : ∀ t ∈ ts, ∀ i, i < C.M.z.length → ∀ u ∈ succOf C i t, u ∈ ts
open Classical in
noncomputable def nvB (C : Ct) (dt : PyData) : Bool := decide (∃ ts, dt = .list (ts.map eSg) ∧ Nv C ts)
theorem nvB_true {C : Ct} {dt : PyData} (h : ∃ ts, dt = .list (ts.map eSg) ∧ Nv C ts) : nvB C dt = true := @decide_eq_true _ (Classical.propDecidable _) h
theorem nvB_false {C : Ct} {dt : PyData} (h : ¬ ∃ ts, dt = .list (ts.map eSg) ∧ Nv C ts) : nvB C dt = false := @decide_eq_false _ (Classical.propDecidable _) h
theorem eSg_inj : ∀ {l m : List Sg}, l.map eSg = m.map eSg → l = m
  | [], [], _ => rfl
  | [], _ :: _, h => by simp at h
  | _ :: _, [], h => by simp at h
  | a :: l, b :: m, h => by
    rw [List.map_cons, List.map_cons] at h
    injection h with h1 h2
    rw [eSg_inj h2, enc_sg.inj a b (by rw [h1])]
theorem StdOk.sok {C : Ct} {t : Sg} (h : StdOk C t) (bd : Bd 200 t.L) (few : C.N.C.length ≤ 60) : Sok C t := by
  refine ⟨h.p0, h.p1, h.s0, h.s1, ⟨?_, fun k hk => ?_⟩, h.asc, bd, Nat.le_trans h.le few⟩
  · unfold keysI
    rw [List.nodup_iff_pairwise_ne, List.pairwise_map]
    exact h.asc.imp fun lt e => by omega
  · obtain ⟨e, he, rfl⟩ := List.mem_map.mp hk
    have := h.rg e he
    omega
theorem addTs_nd : ∀ {ms l : List Sg}, (l ++ ms).Nodup → addTs l ms = l ++ ms
  | [], l, _ => (List.append_nil l).symm
  | t :: ms, l, h => by
    have nt : t ∉ l := fun z => by
      have := (List.nodup_append.mp h).2.2 t z t (.head _)
      exact this rfl
    show addTs (addT l t) ms = _
    have e : addT l t = l ++ [t] := by
      unfold addT
      rw [if_neg nt]
    rw [e, addTs_nd (by rw [List.append_assoc]; exact h), List.append_assoc]
    rfl
theorem addTs_eq : ∀ {ms l : List Sg}, (addTs l ms).length = l.length + ms.length → addTs l ms = l ++ ms
  | [], l, _ => (List.append_nil l).symm
  | t :: ms, l, h => by
    have h1 : (addTs (addT l t) ms).length = l.length + (ms.length + 1) := h
    have h2 := addTs_len (ms := ms) (l := addT l t)
    have h3 := addT_len l t
    have e : addT l t = l ++ [t] := by
      unfold addT at h3 h2 ⊢
      split
      · rename_i z
        rw [if_pos z] at h2
        unfold addT at h1
        rw [if_pos z] at h1
        omega
      · rfl
    show addTs (addT l t) ms = _
    rw [e] at h1 ⊢
    rw [addTs_eq (by rw [h1, List.length_append, List.length_singleton]; omega), List.append_assoc]
    rfl
theorem succ_few {C : Ct} (h : Cok C) {i : Nat} (t : Sg) : (succOf C i t).length ≤ 3 := by
  unfold succOf
  cases placeOn C.R i t.p with
  | none => exact Nat.zero_le _
  | some p' =>
    refine Nat.le_trans (List.length_filterMap_le _ _) ?_
    cases e : chP C.M i t.s with
    | nil => exact Nat.zero_le _
    | cons p r =>
      obtain ⟨cs, hcs, ps, hps, _, e2⟩ := ch_mem h.m (at_ := i) (s := t.s) (p := p) (by rw [e]; exact .head _)
      rw [← e, e2]
      exact (h.m.ch cs hcs ps hps).2
def spShowsNever (K : PySem.W.Frag) (CM CX CR : Addr) : Sp := fun vs H Q E => ∃ (x y r t : V) (d1 d2 d3 dt : PyData), vs = [x, y, r, t] ∧ Rp K H x d1 ∧ Rp K H y d2 ∧ Rp K H r d3 ∧ Rp K H t dt ∧ (∀ ds, dt = .list ds → ds.length ≤ 100000) ∧ (∀ ts : List Sg, dt = .list (ts.map eSg) → ∀ t ∈ ts, Bd 200 t.L) ∧
  ConR CM CX CR d1 d2 d3 (fun c => ∀ H', Same H H' → E (.ref c) none H') fun C => C.N.C.length ≤ 60 ∧ ∀ H', Same H H' → Q (.bl (nvB C dt)) H'
theorem pc_einK {X : Cx} {P : Program} {w : World} {K : PySem.W.Frag} {o i : Expr} {td ty : TE} (h1 : X.prog = P) (h2 : X.w = w) (h3 : X.K = K) (hu : X.A.units + 9 < cLine) (hi : PE X i ty) (ho : PE X o td) : PC X .In i o (tEIn P w K ty td) := by
  subst h1 h2 h3
  exact pc_ein hu hi ho
section
variable {P : Program} {w : World} {K : PySem.W.Frag} {mg : Str → Option Value} {base : Heap} {m1 m2 m3 m4 m5 m6 m7 m8 m9 m10 m11 m12 : Addr} {n1 n2 n3 n4 n5 n6 n7 n8 n9 n10 n11 n12 : FuncData} {t1 t2 t3 t4 t5 : Tok} {CM a1 a3 : Addr} {b1 b3 : FuncData} {r1 r2 r3 r4 r5 p1 : Addr} {v1 v2 v3 v4 v5 q1 : FuncData} {CX CR CI mR mW : Addr} {nR nW : FuncData} {g1 g2 g3 g4 g5 : Addr} {e1 e2 e3 e4 e5 : FuncData} {CG fF x1 x2 : Addr} {y1 y2 : FuncData}
theorem ok_showsNever (T : NvTxt K mg m1 m2 m3 m4 m5 m6 m7 m8 m9 m10 m11 m12 n1 n2 n3 n4 n5 n6 n7 n8 n9 n10 n11 n12 t1 t2 t3 t4 t5 CM a1 a3 b1 b3 r1 r2 r3 r4 r5 p1 v1 v2 v3 v4 v5 q1 CX CR CI mR mW nR nW g1 g2 g3 g4 g5 e1 e2 e3 e4 e5 CG fF x1 x2 y1 y2) {k : Nat} : FnOk P w K mg base (L2.CX P w) (k + 9) x2 y2 ["one", "other", "rule", "thing"] (spShowsNever K CM CX CR) := by
  have GC : FnOk P w K mg base (L2.CX P w) (k + 8) r4 v4 ["one", "other", "rule"] (spContestOf K CM CX CR) := ok_contestOf T.co T.look (k := k)
  have GU : FnOk P w K mg base CX0 (k + 8) g1 e1 ["contest", "standing", "at"] (spSucc K) := ok_succ T.lu.lv.su (k := k + 7)
  have GI : FnOk P w K mg base CX0 (k + 8) x1 y1 ["thing", "contest"] (spIsStd K) := ok_isStd T.st (k := k + 5)
  refine T.FShowsNever.okX scShowsNever (fun vs H Q E h => ?_) (fun cdv A outer s H vs Q E hr h => ?_)
  · obtain ⟨x, y, r, t, d1, d2, d3, dt, rfl, _⟩ := h
    rfl
  · obtain ⟨x, y, r, t, d1, d2, d3, dt, rfl, hx, hy, hr3, ht, sl, sb, h⟩ := h
    have hu16 : (A.deeper (envOfC "shows_never" (defScope sShowsNever) s.heap.objs.size x2 cdv)).units + 16 < cLine := by have := hr.un; omega
    have hu9 : (A.deeper (envOfC "shows_never" (defScope sShowsNever) s.heap.objs.size x2 cdv)).units + 9 < cLine := by omega
    refine ⟨_, (Evl.pss_cut (ps_set (i := 4) scShowsNever.nd rfl (.inr rfl) (pe_call GC hr (by rfl) T.co.gContestOf T.co.FContestOf.kp T.co.bContestOf .nil (passes_call (takes_of rfl rfl rfl rfl) (fun _ _ _ _ h => h)) (pa_cons (pv 0) (pa_cons (pv 1) (pa_cons (pv 2) pa_nil)))))
 (pss_cons (ps_if (PW.pt (pw_or (pt_cmpR op_neTy (pe_callTy call_type1 (by rfl) T.look.type (by decide +kernel) (pa_cons (pv 3) pa_nil)) (pe_bltn (v := .ty "list") (by rfl) T.list (by decide +kernel) rfl) (nomark _)) (pw_or1 (pt_not (pt_val (pe_callB (cr_all rfl) (by rfl) T.look.all (by decide +kernel) (pa_cons (pe_lc (own := [("part", 8)]) (g := gName 8) (tt := tYes) (by rfl) scShowsNever.nd (pi_list (pv 3)) (blkOk_by (N := ["one", "other", "rule", "thing", "contest", "told", "standing", "at", "part", "later"]) (sc := defScope sShowsNever) (by decide +kernel)) (fun _ _ _ _ _ => pg_name (i := 8) scShowsNever.nd rfl (Or.inl rfl)) (fun _ _ _ _ _ => pts_nil) (fun _ _ _ _ _ => (pe_call GI hr (by rfl) T.st.gIsStd T.st.FIsStd.kp T.st.bIsStd .nil pass0 (pa_cons (pv 8) (pa_cons (pv 4) pa_nil))))) pa_nil))))))) (pss_one (ps_ret pe_bl)) pss_nil)
 (Evl.pss_cut (ps_set (i := 5) scShowsNever.nd rfl (.inr rfl) (pe_ndc (own := [("part", 8)]) (g := gName 8) hu9 (by rfl) scShowsNever.nd (pi_list (pv 3)) (blkOk_by (N := ["one", "other", "rule", "thing", "contest", "told", "standing", "at", "part", "later"]) (sc := defScope sShowsNever) (by decide +kernel)) (fun _ _ _ _ _ => pg_name (i := 8) scShowsNever.nd rfl (Or.inl rfl)) (fun _ _ _ _ _ => (pv 8)) (fun _ _ _ _ _ => pe_bl)))
 (pss_cons (ps_if (PW.pt (pw_or (pt_cmpR op_ne (pe_callB cr_lenN (by rfl) T.lu.len PySem.boot_len (pa_cons (pv 5) pa_nil)) (pe_callB call_len_seq (by rfl) T.lu.len PySem.boot_len (pa_cons (pv 3) pa_nil)) (nomark _)) (pw_or1 (pt_cmp (pc_enotin hu9 (pe_glob (v := .ref fF) (by rfl) T.lu.gFirst rfl) (pv 5)))))) (pss_one (ps_ret pe_bl)) pss_nil)
 (Evl.pss_cut (ps_for (passes_of rfl) rfl (pi_list (pv 3)) (pg_name (i := 6) scShowsNever.nd rfl (.inl rfl))
 (pss_one (ps_for (passes_of rfl) rfl (pi_range1 (by rfl) T.look.range (pa_cons (pe_callB call_len_str (by rfl) T.lu.len PySem.boot_len (pa_cons (pe_ix ix_tup (pv 4) pe_int (fun _ _ => rfl)) pa_nil)) pa_nil)) (pg_name (i := 7) scShowsNever.nd rfl (.inl rfl))
 (pss_one (ps_if (pt_not (pt_val (pe_callB (cr_all rfl) (by rfl) T.look.all (by decide +kernel) (pa_cons (pe_lc (own := [("later", 9)]) (g := gName 9) (tt := tYes) (by rfl) scShowsNever.nd (pi_list (pe_call GU hr (by rfl) T.lu.lv.su.gSucc T.lu.lv.su.FSucc.kp T.lu.lv.su.bSucc .nil pass0 (pa_cons (pv 4) (pa_cons (pv 6) (pa_cons (pv 7) pa_nil))))) (blkOk_by (N := ["one", "other", "rule", "thing", "contest", "told", "standing", "at", "part", "later"]) (sc := defScope sShowsNever) (by decide +kernel)) (fun _ _ _ _ _ => pg_name (i := 9) scShowsNever.nd rfl (Or.inl rfl)) (fun _ _ _ _ _ => pts_nil) (fun _ _ _ _ _ => (pe_cmp (pc_einK (P := P) (w := w) (K := K) rfl rfl rfl hu9 (pv 9) (pv 5))))) pa_nil)))) (pss_one (ps_ret pe_bl)) pss_nil)))))
 (pss_one (ps_ret pe_bl))))))), ?_⟩
    have nv : ∀ ts : List Sg, dt = .list (ts.map eSg) → ∀ us : List Sg, dt = .list (us.map eSg) → ts = us := fun ts e us f => by
      rw [e] at f
      injection f with f
      exact eSg_inj f
    rcases h.either with hbad | ⟨C, hC, mk, few, q⟩
    · refine ⟨fun _ _ => False, ?_, fun _ _ z => z.elim⟩
      exact ⟨_, rfl, _, rfl, _, rfl, x, y, r, d1, d2, d3, rfl, hx, hy, hr3, hbad.mono (fun _ e => e) (fun _ _ z => z.elim)⟩
    have no : ∀ {H'}, Same H H' → (∀ ts, dt = .list (ts.map eSg) → Nv C ts → False) → Q (.bl false) H' := fun s g => by
      have := q _ s
      rwa [nvB_false fun ⟨ts, e, o⟩ => g ts e o] at this
    have room : ∀ {m : Nat}, m ≤ 100000 → m ≤ sizeLine := fun h => Nat.le_trans h (by decide)
    have roomL : ∀ {m : Nat}, m ≤ 100000 → m < sizeLine := fun h => Nat.lt_of_le_of_lt h (by decide)
    refine ⟨fun σ H1 => ∃ ct, σ = [some x, some y, some r, some t, some (.ref ct), none, none, none, none, none] ∧ Same H H1 ∧ Rp K H1 (.ref ct) (eCt C), ?_, ?_⟩
    · exact ⟨_, rfl, _, rfl, _, rfl, x, y, r, d1, d2, d3, rfl, hx, hy, hr3, mk _ _ fun H1 ct s1 nt hct => ⟨ct, rfl, s1, hct⟩⟩
    rintro σ H1 ⟨ct, rfl, s1, hct⟩
    have ht1 := ht.go s1
    refine ⟨_, rfl, _, _, rfl, ht1.ty, _, _, rfl, rfl, tyB_ty ht1.ty, TypeEq.meta_list, _, rfl, ?_⟩
    by_cases hk : kindOf dt = "list"
    case neg =>
      rw [decide_eq_false hk]
      exact iteT (iteT (no s1 fun ts e _ => hk (by rw [e]; rfl)))
    rw [decide_eq_true hk]
    refine iteF ?_
    cases ht1 with
    | @lst la xs ds hS hA =>
      have lds := sl ds rfl
      have lxs : xs.length = ds.length := hA.len
      refine ⟨_, rfl, la, rfl, ⟨_, hS⟩, fun D nD => ?_⟩
      refine lc_lstO (xs := xs) (fun i H' => Same H1 H' ∧ H' D = some (.lst (((ds.take i).map (stdB C)).map V.bl))) ⟨same_upd nD, upd_same⟩ (fun i H' h => same_lst h.1 hS) ?_ ?_
      · rintro i w H' hw ⟨sm, hD⟩
        obtain ⟨e, he, re⟩ := hA.at hw
        refine ⟨rfl, ?_⟩
        refine ⟨_, rfl, _, rfl, w, .ref ct, e, C, rfl, re.go sm, hct.go sm, hC, fun H5 s5 => ⟨_, s5 _ _ hD, ?_, same_new (sm.trans s5) nD, ?_⟩⟩
        · rw [List.length_map, List.length_map]
          have := List.length_take_le' i ds
          exact roomL (by omega)
        · rw [upd_same, take_all he, List.map_append]
          rfl
      rintro H2 ⟨s2, hD⟩
      rw [lxs, List.take_length] at hD
      have s12 := s1.trans s2
      refine ⟨D, _, rfl, SqL.of hD, _, rfl, ?_⟩
      rw [all_map]
      by_cases b4 : ds.all (stdB C) = true
      case neg =>
        refine ite2 (fun _ => no s12 fun ts e o => b4 ?_) (fun w => absurd w (by rw [eq_false_of_ne_true b4]; decide))
        injection e with e
        rw [e, List.all_map]
        exact List.all_eq_true.mpr fun t ht => stdB_true ⟨t, rfl, o.ok t ht⟩
      refine ite2 (fun w => absurd w (by rw [b4]; decide)) (fun _ => ?_)
      obtain ⟨ts, rfl, hts⟩ := lift_map (f := eSg) (P := StdOk C) ds fun e he => stdB_of (List.all_eq_true.mp b4 e he)
      rw [List.length_map] at lds lxs
      have sok : ∀ t ∈ ts, Sok C t := fun t ht => (hts t ht).sok (sb ts rfl t ht) few
      have uq : ∀ us, PyData.list (ts.map eSg) = .list (us.map eSg) → us = ts := fun us e => nv us e ts rfl
      have hS2 := same_lst s2 hS
      have hA2 := hA.go s2
      have hct2 := hct.go s2
      -- told
      refine ⟨fun σ H3 => ∃ td, σ = [some x, some y, some r, some (.ref la), some (.ref ct), some (.ref td), none, none, none, none] ∧ Same H2 H3 ∧ ED P w K eSg H3 td (vT (addTs [] ts)), ?_, ?_⟩
      · refine ⟨_, rfl, la, rfl, ⟨_, hS2⟩, fun D nD => ?_⟩
        refine lc_lstO (xs := xs) (fun i H' => Same H2 H' ∧ ED P w K eSg H' D (vT (addTs [] (ts.take i)))) ⟨same_upd nD, ED.nil upd_same⟩ (fun i H' h => same_lst h.1 hS2) ?_ ?_
        · rintro i w H' hw ⟨sm, ed⟩
          obtain ⟨e, he, re⟩ := hA2.at hw
          rw [List.getElem?_map] at he
          obtain ⟨t, ht, rfl⟩ := Option.map_eq_some_iff.mp he
          have rt := re.go sm
          obtain ⟨b, _, _, rfl, _⟩ := sg_top rt
          have ll : (vT (addTs [] (ts.take i))).length < sizeLine := by
            unfold vT
            rw [List.length_map]
            have := addTs_len (ms := ts.take i) (l := [])
            rw [List.length_nil, List.length_take] at this
            exact roomL (by omega)
          obtain ⟨φ, put, ed2⟩ := ed.put enc_sg rt ll (.bl true)
          refine ⟨rfl, ?_⟩
          refine ⟨_, rfl, _, put, same_new sm nD, ?_⟩
          rw [vT_add] at ed2
          rw [List.take_succ, ht, Option.toList_some, addTs_app]
          exact ed2
        · rintro H3 ⟨s3, ed⟩
          rw [lxs, List.take_length] at ed
          exact ⟨D, rfl, s3, ed⟩
      rintro σ H3 ⟨td, rfl, s3, ed⟩
      have s13 := s12.trans s3
      have hS3 := same_lst s3 hS2
      have la2 := addTs_len (ms := ts) (l := [])
      rw [List.length_nil, Nat.zero_add] at la2
      have lv : (vT (addTs [] ts)).length = (addTs [] ts).length := List.length_map _
      refine ⟨_, rfl, td, Sg, eSg, _, rfl, ed.r, enc_sg, (by rw [lv]; exact room (by omega)), _, rfl, la, xs, rfl, .inl hS3, rfl, _, rfl, ?_⟩
      rw [lv, lxs]
      by_cases b5 : (addTs [] ts).length = ts.length
      case neg =>
        rw [decide_eq_false (fun z => b5 (by injection z with z; omega))]
        refine iteT (iteT (no s13 fun us e o => b5 ?_))
        rw [addTs_nd (l := []) (by rw [List.nil_append, ← uq us e]; exact o.nd), List.nil_append]
      rw [b5, decide_eq_true rfl]
      have nd : ts.Nodup := by
        have := addTs_nodup (ms := ts) (l := []) List.nodup_nil
        rw [addTs_eq (l := []) (by rw [List.length_nil, Nat.zero_add]; exact b5), List.nil_append] at this
        exact this
      rw [addTs_nd (l := []) (by rw [List.nil_append]; exact nd), List.nil_append] at ed
      have has : ∀ u, (getA (vT ts) u).isSome = decide (u ∈ ts) := fun u => by
        rw [Bool.eq_iff_iff, getA_isSome, decide_eq_true_eq]
        have : keysA (vT ts) = ts := by
          unfold keysA vT
          rw [List.map_map]
          exact List.map_id _
        rw [this]
      refine iteF ⟨_, rfl, _, ed.r.in_ enc_sg (T.lu.first _), _, rfl, ?_⟩
      rw [has]
      by_cases b6 : FIRSTg ∈ ts
      case neg =>
        rw [decide_eq_false b6]
        refine iteT (no s13 fun us e o => b6 ?_)
        rw [← uq us e]
        exact o.first
      rw [decide_eq_true b6]
      refine iteF ?_
      -- closed
      obtain ⟨ca, _, _, _, _, _, _, ec, hca, _⟩ := ct_top hct2
      cases ec
      have zs := (ltr_pos hC.m.ltr).2
      refine ⟨fun σ H4 => Same H3 H4 ∧ ∀ t ∈ ts, ∀ k, k < C.M.z.length → ∀ u ∈ succOf C k t, u ∈ ts, ?_, ?_⟩
      · refine ⟨_, rfl, la, rfl, ⟨_, hS3⟩, ?_⟩
        refine for_list (K := K) (a := la) (xs := xs) (fun i σ H' => ∃ v6 v7 : Option V, σ = [some x, some y, some r, some (.ref la), some (.ref ct), some (.ref td), v6, v7, none, none] ∧ Same H3 H' ∧ ∀ t ∈ ts.take i, ∀ k, k < C.M.z.length → ∀ u ∈ succOf C k t, u ∈ ts) ⟨none, none, rfl, Same.refl _, fun t h => by simp at h⟩ (fun i σ H' _ h => by
          obtain ⟨_, _, _, h, _⟩ := h
          exact same_lst h hS3) ?_ ?_
        · rintro i w σ H4 hw ⟨v6, v7, rfl, s4, cl⟩
          obtain ⟨e, he, re⟩ := hA2.at hw
          rw [List.getElem?_map] at he
          obtain ⟨t, ht, rfl⟩ := Option.map_eq_some_iff.mp he
          have mt := List.mem_of_getElem? ht
          have s24 := s3.trans s4
          refine ⟨_, rfl, ct, _, 1, _, rfl, rfl, same_tup s24 hca, rfl, C.M.z, rfl, (room (by omega)), (C.M.z.length : Int), rfl, by omega, by omega, ?_⟩
          rw [Int.toNat_natCast]
          refine for_range (lo := 0) (n := C.M.z.length) (fun k σ H' => ∃ v7 : Option V, σ = [some x, some y, some r, some (.ref la), some (.ref ct), some (.ref td), some w, v7, none, none] ∧ Same H3 H' ∧ ∀ j, j < k → ∀ u ∈ succOf C j t, u ∈ ts) ⟨v7, rfl, s4, fun j h => absurd h (Nat.not_lt_zero j)⟩ ?_ ?_
          · rintro k σ H5 hk ⟨v7, rfl, s5, clk⟩
            have s25 := s3.trans s5
            refine ⟨_, rfl, _, rfl, _, rfl, .ref ct, w, C, t, k, (by rw [Int.zero_add]; rfl), hct2.go s25, hC, re.go s25, sok t mt, hk, fun H6 l us s6 nl hl hus => ?_⟩
            refine ⟨l, rfl, ⟨_, SqL.of hl⟩, fun D9 n9 => ?_⟩
            have lus : us.length = (succOf C k t).length := by rw [hus.len, List.length_map]
            have ls3 := succ_few hC (i := k) t
            refine lc_lstO (xs := us) (fun m H' => Same H6 H' ∧ H' D9 = some (.lst ((((succOf C k t).take m).map (fun u => decide (u ∈ ts))).map V.bl))) ⟨same_upd n9, upd_same⟩ (fun m H' h => SqL.of (h.1 _ _ hl)) ?_ ?_
            · rintro m v H' hv ⟨sm, hD9⟩
              obtain ⟨e, he, rv⟩ := hus.at hv
              rw [List.getElem?_map] at he
              obtain ⟨u, hu, rfl⟩ := Option.map_eq_some_iff.mp he
              have rv2 := rv.go sm
              obtain ⟨b, _, _, rfl, _⟩ := sg_top rv2
              refine ⟨rfl, ?_⟩
              refine ⟨_, rfl, _, rfl, _, (ed.same enc_sg ((s5.trans s6).trans sm)).r.in_ enc_sg rv2, _, hD9, ?_, same_new sm n9, ?_⟩
              · rw [List.length_map, List.length_map]
                have := List.length_take_le' m (succOf C k t)
                exact roomL (by omega)
              · rw [upd_same, take_all hu, List.map_append, has]
                rfl
            rintro H7 ⟨s7, hD9⟩
            rw [lus, List.take_length] at hD9
            have s37 := (s5.trans s6).trans s7
            refine ⟨D9, _, rfl, SqL.of hD9, _, rfl, ?_⟩
            rw [all_map]
            by_cases b7 : (succOf C k t).all (fun u => decide (u ∈ ts)) = true
            case neg =>
              refine ite2 (fun _ => no (s13.trans s37) fun us e o => b7 ?_) (fun w => absurd w (by rw [eq_false_of_ne_true b7]; decide))
              refine List.all_eq_true.mpr fun u hu => decide_eq_true ?_
              rw [← uq us e] at mt ⊢
              exact o.cl t mt k hk u hu
            refine ite2 (fun w => absurd w (by rw [b7]; decide)) (fun _ => ⟨_, rfl, s37, fun j hj u hu => ?_⟩)
            by_cases z : j < k
            · exact clk j z u hu
            · obtain rfl : j = k := by omega
              exact of_decide_eq_true (List.all_eq_true.mp b7 u hu)
          · rintro σ H5 ⟨v7, rfl, s5, clk⟩
            refine ⟨_, v7, rfl, s5, fun t2 h2 => ?_⟩
            rw [List.take_succ, ht, Option.toList_some] at h2
            rcases List.mem_append.mp h2 with h | h
            · exact cl t2 h
            · rw [List.mem_singleton.mp h]
              exact clk
        · rintro σ H4 ⟨v6, v7, rfl, s4, cl⟩
          rw [lxs, List.take_length] at cl
          exact ⟨s4, cl⟩
      rintro σ H4 ⟨s4, cl⟩
      have yes : nvB C (.list (ts.map eSg)) = true := nvB_true ⟨ts, rfl, hts, nd, b6, cl⟩
      have := q H4 (s13.trans s4)
      rwa [yes] at this
    | _ => exact absurd hk (by simp [kindOf])
end
end My
/-! ### counting -/
namespace My
open PySem PySem.Spec PyProof.Rows L2 PySem.Builtin.Str
theorem len_of_sub {α : Type} [DecidableEq α] : ∀ {l m : List α}, l.Nodup → (∀ x ∈ l, x ∈ m) → l.length ≤ m.length
  | [], _, _, _ => Nat.zero_le _
  | x :: l, m, nd, h => by
    have nd2 := List.nodup_cons.mp nd
    have hx := h x (.head _)
    have ih := len_of_sub (l := l) (m := m.erase x) nd2.2 fun y hy => (List.mem_erase_of_ne (fun z => nd2.1 (by rw [← z]; exact hy))).mpr (h y (.tail _ hy))
    rw [List.length_erase_of_mem hx] at ih
    have := List.length_pos_of_mem hx
    rw [List.length_cons]
    omega
end My
/-! ### more standings than the limit -/
namespace My
open PySem PySem.Spec PyProof.Rows L2 PySem.Builtin.Str
def grtM (m : Int) : Mc := ⟨2, "abc", [[[(-m, 0)], [(1, 0)], [(0, 0)]]]⟩
def grtN : Mc := ⟨2, "abc", [[[(0, 0)], [(0, 0)], [(0, 0)]]]⟩
def grtC (m : Int) : Ct := ⟨grtM m, grtN, [[some 0, some 0, some 0]]⟩
def grtT (l : Int) : Sg := ⟨0, 0, [(0, l)]⟩
theorem gain_at (pay t i v : Int) (P : Int → List (Int × Int)) (h : P i = [(pay, t)]) : gainOf P [(i, v)] = [(t, pay - v)] := by
  show bestOn P (fun v p => p - v) [(i, v)] [] = _
  simp [bestOn, bestIn, h, upMax, putI, getI]
theorem grt_over {m : Int} (h : 0 ≤ m) : (grtC m).over = m := by
  have e1 : paysL (grtC m).N = [0, 0, 0] := rfl
  have e2 : paysL (grtC m).M = [-m, 1, 0] := rfl
  unfold Ct.over
  rw [e1, e2]
  simp only [maxL, minL, List.foldl]
  omega
theorem grt_below {m : Int} (h : 0 ≤ m) : (grtC m).below = 1 := by
  have e1 : paysL (grtC m).N = [0, 0, 0] := rfl
  have e2 : paysL (grtC m).M = [-m, 1, 0] := rfl
  unfold Ct.below
  rw [e1, e2]
  simp only [maxL, minL, List.foldl]
  omega
theorem grt_go {m pay l : Int} (i : Nat) (hn : chP grtN i 0 = [(0, 0)]) (h : 0 ≤ m) : goOn (grtC m) i (grtT l) 0 (pay, 0) = if 2 ≤ -(2 * (pay + l)) then none else some ⟨0, 0, [((0 : Int), 2 * (pay + l))].filter fun e => keepB 2 m e.2⟩ := by
  have e1 : nearG (grtC m) i (grtT l) = [((0 : Int), 0 - l)] := gain_at 0 0 0 l _ hn
  have e2 : aheadOf (grtC m).M.b pay (nearG (grtC m) i (grtT l)) = [((0 : Int), 2 * (pay + l))] := by
    rw [e1]
    have e3 : (grtC m).M.b = 2 := rfl
    rw [e3]
    simp [aheadOf, keysI, sortI, insI, getI]
  unfold goOn
  rw [e2, grt_over h, grt_below h]
  have e3 : (grtC m).M.b = 2 := rfl
  rw [e3]
  simp only [List.any_cons, List.any_nil, Bool.or_false, vainB, decide_eq_true_eq]
  by_cases z : (1 : Int) * 2 ≤ -(2 * (pay + l)) * (2 - 1)
  · rw [if_pos z, if_pos (by omega)]
  · rw [if_neg z, if_neg (by omega)]
theorem grt_keep {m x : Int} (h : x ≤ 2 * m) : [((0 : Int), x)].filter (fun e => keepB 2 m e.2) = [((0 : Int), x)] := by
  have : keepB 2 m x = true := decide_eq_true (by omega)
  simp [this]
theorem grt_succ0 {m l : Int} (hl : l + 1 ≤ m) (h0 : 0 ≤ l) : succOf (grtC m) 0 (grtT l) = [] := by
  show ([(-m, (0 : Int))].filterMap (goOn (grtC m) 0 (grtT l) 0)) = []
  rw [List.filterMap_cons, grt_go 0 rfl (by omega), if_pos (by omega)]
  rfl
theorem grt_succ1 {m l : Int} (hl : l + 1 ≤ m) (h0 : 0 ≤ l) : succOf (grtC m) 1 (grtT l) = [grtT (2 * (1 + l))] := by
  show ([((1 : Int), (0 : Int))].filterMap (goOn (grtC m) 1 (grtT l) 0)) = _
  rw [List.filterMap_cons, grt_go 1 rfl (by omega), if_neg (by omega), grt_keep (by omega)]
  rfl
theorem grt_succ2 {m l : Int} (hl : l + 1 ≤ m) (h0 : 0 ≤ l) : succOf (grtC m) 2 (grtT l) = [grtT (2 * (0 + l))] := by
  show ([((0 : Int), (0 : Int))].filterMap (goOn (grtC m) 2 (grtT l) 0)) = _
  rw [List.filterMap_cons, grt_go 2 rfl (by omega), if_neg (by omega), grt_keep (by omega)]
  rfl
theorem grt_inj {a b : Int} (h : grtT a = grtT b) : a = b := by
  have e := congrArg Sg.L h
  have e2 : [((0 : Int), a)] = [((0 : Int), b)] := e
  injection e2 with e2 _
  injection e2
theorem grt_first : FIRSTg = grtT 0 := rfl
/-- which standings stand at a level, which were seen -/
def Lo (n k : Nat) : Prop := (n = 0 ∧ k = 0) ∨ (0 < n ∧ 2 ^ (n - 1) ≤ k ∧ k < 2 ^ n)
theorem grt_lvl {m : Int} (hm : 10000 ≤ m) : ∀ n, n ≤ 11 → (∀ t, t ∈ keysA (lvl (grtC m) n) ↔ ∃ k, Lo n k ∧ t = grtT (2 * (k : Int))) ∧ ∀ t, t ∈ seenN (grtC m) n ↔ ∃ k : Nat, k < 2 ^ n ∧ t = grtT (2 * (k : Int))
  | 0, _ => by
    refine ⟨fun t => ⟨fun h => ⟨0, .inl ⟨rfl, rfl⟩, ?_⟩, ?_⟩, fun t => ⟨fun h => ⟨0, by decide, ?_⟩, ?_⟩⟩
    · exact List.mem_singleton.mp (show t ∈ [FIRSTg] from h)
    · rintro ⟨k, h, rfl⟩
      rcases h with ⟨_, rfl⟩ | ⟨h, _⟩
      · exact .head _
      · exact absurd h (Nat.lt_irrefl _)
    · exact List.mem_singleton.mp (show t ∈ [FIRSTg] from h)
    · rintro ⟨k, h, rfl⟩
      obtain rfl : k = 0 := by omega
      exact .head _
  | n + 1, hn => by
    obtain ⟨ih1, ih2⟩ := grt_lvl hm n (by omega)
    have p12 : 2 ^ n ≤ 1024 := Nat.le_trans (Nat.pow_le_pow_right (by decide) (show n ≤ 10 by omega)) (by decide)
    have two : 2 ^ (n + 1) = 2 * 2 ^ n := by rw [Nat.pow_succ, Nat.mul_comm]
    have bd : ∀ k, Lo n k → k < 2 ^ n := fun k h => by
      rcases h with ⟨rfl, rfl⟩ | h
      · decide
      · exact h.2.2
    have lo : ∀ k, Lo n k → 2 ^ n ≤ 2 * k ∨ (n = 0 ∧ k = 0) := fun k h => by
      rcases h with h | ⟨h1, h2, _⟩
      · exact .inr h
      · have e : 2 ^ n = 2 * 2 ^ (n - 1) := by
          conv => lhs; rw [show n = n - 1 + 1 by omega, Nat.pow_succ, Nat.mul_comm]
        exact .inl (by omega)
    have hi : ∀ k, 2 ^ n ≤ k → k < 2 * 2 ^ n → Lo n (k / 2) := fun k h1 h2 => by
      by_cases z : n = 0
      · subst z
        refine .inl ⟨rfl, ?_⟩
        have : 2 ^ 0 = 1 := rfl
        omega
      · have e : 2 ^ n = 2 * 2 ^ (n - 1) := by
          conv => lhs; rw [show n = n - 1 + 1 by omega, Nat.pow_succ, Nat.mul_comm]
        exact .inr ⟨by omega, by omega, by omega⟩
    have key : ∀ t, t ∈ keysA (lvl (grtC m) (n + 1)) ↔ ∃ k, Lo (n + 1) k ∧ t = grtT (2 * (k : Int)) := fun t => by
      rw [next_mem]
      constructor
      · rintro ⟨ns, u, hu, i, hi3, ht⟩
        obtain ⟨k, hk, rfl⟩ := (ih1 u).mp hu
        have kb := bd k hk
        have l1 : 2 * (k : Int) + 1 ≤ m := by omega
        have fresh : ∀ j : Nat, t = grtT (2 * (j : Int)) → j = 2 * k ∨ j = 2 * k + 1 → ∃ k, Lo (n + 1) k ∧ t = grtT (2 * (k : Int)) := fun j e hj => by
          refine ⟨j, .inr ⟨by omega, ?_, by omega⟩, e⟩
          have : ¬ j < 2 ^ n := fun z => ns ((ih2 t).mpr ⟨j, z, e⟩)
          rw [show n + 1 - 1 = n by omega]
          omega
        have hi4 : i < 3 := hi3
        match i, hi4, ht with
        | 0, _, ht =>
          rw [grt_succ0 l1 (by omega)] at ht
          cases ht
        | 1, _, ht =>
          rw [grt_succ1 l1 (by omega)] at ht
          exact fresh (2 * k + 1) (by rw [List.mem_singleton.mp ht]; congr 1; omega) (.inr rfl)
        | 2, _, ht =>
          rw [grt_succ2 l1 (by omega)] at ht
          exact fresh (2 * k) (by rw [List.mem_singleton.mp ht]; congr 1; omega) (.inl rfl)
        | i + 3, h, _ => omega
      · rintro ⟨k, hk, rfl⟩
        rcases hk with ⟨z, _⟩ | ⟨_, k1, k2⟩
        · omega
        rw [show n + 1 - 1 = n by omega] at k1
        rw [two] at k2
        have hk2 := hi k k1 k2
        have kb := bd _ hk2
        have l1 : 2 * ((k / 2 : Nat) : Int) + 1 ≤ m := by omega
        refine ⟨fun z => ?_, grtT (2 * ((k / 2 : Nat) : Int)), (ih1 _).mpr ⟨_, hk2, rfl⟩, ?_⟩
        · obtain ⟨j, hj, e⟩ := (ih2 _).mp z
          have := grt_inj e
          omega
        · by_cases odd : k % 2 = 1
          · refine ⟨1, by show 1 < 3; decide, ?_⟩
            rw [grt_succ1 l1 (by omega), List.mem_singleton]
            congr 1
            omega
          · refine ⟨2, by show 2 < 3; decide, ?_⟩
            rw [grt_succ2 l1 (by omega), List.mem_singleton]
            congr 1
            omega
    refine ⟨key, fun t => ?_⟩
    rw [seen_succ, List.mem_append, ih2, key]
    constructor
    · rintro (⟨k, h, e⟩ | ⟨k, h, e⟩)
      · exact ⟨k, by omega, e⟩
      · rcases h with ⟨z, _⟩ | ⟨_, _, h⟩
        · omega
        · exact ⟨k, h, e⟩
    · rintro ⟨k, h, e⟩
      by_cases z : k < 2 ^ n
      · exact .inl ⟨k, z, e⟩
      · refine .inr ⟨k, .inr ⟨by omega, ?_, h⟩, e⟩
        rw [show n + 1 - 1 = n by omega]
        omega
theorem grt_pre {m : Int} (hm : 10000 ≤ m) : Pre (grtC m) 11 := fun n hn => by
  obtain ⟨a, _⟩ := grt_lvl hm n (by omega)
  obtain ⟨b, _⟩ := grt_lvl hm (n + 1) (by omega)
  constructor
  · unfold wonN
    rw [List.any_eq_false]
    intro t ht
    obtain ⟨k, _, rfl⟩ := (a t).mp ht
    exact fun z => nomatch z
  · intro z
    have : grtT (2 * ((2 ^ n : Nat) : Int)) ∈ keysA (lvl (grtC m) (n + 1)) := (b _).mpr ⟨2 ^ n, .inr ⟨by omega, by rw [show n + 1 - 1 = n by omega]; exact Nat.le_refl _, by rw [Nat.pow_succ]; have := Nat.pos_of_ne_zero (show 2 ^ n ≠ 0 from fun z => absurd z (Nat.ne_of_gt (Nat.pow_pos (by decide)))); omega⟩, rfl⟩
    rw [z] at this
    cases this
theorem grt_tot {m : Int} (hm : 10000 ≤ m) : 2048 ≤ tot (grtC m) 11 := by
  obtain ⟨_, b⟩ := grt_lvl hm 11 (Nat.le_refl _)
  have nd : ((List.range 2048).map fun k : Nat => grtT (2 * (k : Int))).Nodup := by
    rw [List.nodup_iff_pairwise_ne, List.pairwise_map]
    exact (List.nodup_iff_pairwise_ne.mp List.nodup_range).imp fun {a b} ne e => by
      have := grt_inj e
      omega
  have := len_of_sub nd (m := seenN (grtC m) 11) fun t ht => by
    obtain ⟨k, hk, rfl⟩ := List.mem_map.mp ht
    exact (b _).mpr ⟨k, List.mem_range.mp hk, rfl⟩
  rw [List.length_map, List.length_range] at this
  exact this
theorem grt_lim {m : Int} (hm : 10000 ≤ m) {CI CG : Addr} {er : Addr → Prop} {ok : Nat → Prop} (he : er CG) : LimR (grtC m) (.int 2000) CI CG er ok :=
  .inr ⟨2000, rfl, by decide, by decide, fun _ _ _ => he, fun n en le => by
    have h1 := pre_ends en (grt_pre hm)
    have h2 := grt_tot hm
    have h3 := tot_mono (C := grtC m) h1
    omega⟩
end My
/-! ### acts -/
namespace My
open PySem PySem.Spec PyProof.Rows L2 PySem.Builtin.Str
/-- all but the pen stays, the pen stands, the tables stand -/
def Go (TT : List (Addr × Str)) (p : Addr) (n : Nat) (H H' : Hp) : Prop := ButN p H H' ∧ Pen H' p n ∧ LamX.Tabs TT H'
section
variable {TT : List (Addr × Str)} {p : Addr} {n m : Nat} {H H1 H2 : Hp}
theorem Go.pen (g : Go TT p n H H1) : Pen H1 p n := g.2.1
theorem Go.same (g : Go TT p n H H1) (s : Same H1 H2) : Go TT p n H H2 := ⟨g.1.trans (butN_same s), g.2.1.same s, tabs_same g.2.2 s⟩
theorem Go.but (g : Go TT p n H H1) (b : But p H1 H2) (h : Pen H2 p m) : Go TT p m H H2 := ⟨g.1.trans (butN_but b), h, tabs_pen g.2.2 g.pen b⟩
theorem Go.mono (g : Go TT p n H H1) (h : n ≤ m) : Go TT p m H H1 := ⟨g.1, g.2.1.mono h, g.2.2⟩
theorem Go.ext (g : Go TT p n H H1) (s : LamX.ExtN H1 H2) (t : LamX.Tabs TT H2) : Go TT p n H H2 := ⟨g.1.trans (butN_ext s), g.2.1.ext s, t⟩
end
theorem pen_upd {H : Hp} {p g : Addr} {n : Nat} {o0 o : HO} (h : Pen H p n) (ng : g ≠ p) (hg : H g = some o0) (no : ∀ is : List Int, o0 ≠ .lst (is.map V.int)) : Pen (upd H g o) p n := by
  obtain ⟨c, hPc⟩ := h.at
  obtain ⟨cs, _, _, _, hc, _⟩ := hPc.ex
  have nc : g ≠ c := fun z => by
    rw [← z, hg] at hc
    exact no cs (Option.some.inj hc)
  exact (hPc.keep (fun o e => by rw [upd_ne ng.symm]; exact e) (fun o e => by rw [upd_ne nc.symm]; exact e)).pen
theorem tabs_upd {T : List (Addr × Str)} {H : Hp} {g : Addr} {o0 o : HO} (h : LamX.Tabs T H) (hg : H g = some o0) (no : ∀ ps, o0 ≠ .tbl ps) (no2 : ∀ c q, o0 ≠ LamX.CodeO c q) : LamX.Tabs T (upd H g o) := fun x hx => by
  obtain ⟨ps, h1, h2, h3⟩ := h x hx
  have n1 : x.1 ≠ g := fun z => by
    rw [z, hg] at h1
    exact no ps (Option.some.inj h1)
  refine ⟨ps, by rw [upd_ne n1]; exact h1, h2, fun pos cv hc => ?_⟩
  obtain ⟨c, e1, e2⟩ := h3 pos cv hc
  have n2 : c ≠ g := fun z => by
    rw [z, hg] at e2
    exact no2 _ _ (Option.some.inj e2)
  exact ⟨c, e1, by rw [upd_ne n2]; exact e2⟩
/-- nothing, or a table -/
def Fresh (H : Hp) (g : Addr) : Prop := ∀ o, H g = some o → ∃ ps, o = .tbl ps
theorem Go.fresh {TT : List (Addr × Str)} {p g : Addr} {n : Nat} {H H1 : Hp} (h : Go TT p n H H1) (e : H1 g = none) : Fresh H g := fun o eo => Classical.byContradiction fun nt => by
  have := h.1 g o (new_ne h.pen e) eo fun ps z => nt ⟨ps, z⟩
  rw [e] at this
  cases this
/-- a fresh list of texts is changed -/
theorem Go.updS {TT : List (Addr × Str)} {p g : Addr} {n : Nat} {H H1 : Hp} {z : Str} {xs ys : List V} (h : Go TT p n H H1) (ng : g ≠ p) (n0 : Fresh H g) (hg : H1 g = some (.lst (.str z :: xs))) : Go TT p n H (upd H1 g (.lst ys)) := by
  refine ⟨fun b o nb e nt => ?_, pen_upd h.pen ng hg fun is z => ?_, tabs_upd h.2.2 hg (fun _ z => nomatch z) (fun _ _ z => nomatch z)⟩
  · rw [upd_ne (fun z => by
      obtain ⟨ps, e2⟩ := n0 o (by rw [← z]; exact e)
      exact nt ps e2)]
    exact h.1 b o nb e nt
  · cases is with
    | nil => cases z
    | cons j js => cases z
theorem word0 : wordOf 0 = "machine" := by decide +kernel
theorem word3 : wordOf 3 = "rule" := by decide +kernel
theorem word8 : wordOf 8 = "match" := by decide +kernel
theorem word9 : wordOf 9 = "great" := by decide +kernel
theorem word10 : wordOf 10 = "limit" := by decide +kernel
/-- an act's ends, as the law's words -/
def wX (C0 C1 C2 C3 C4 C5 C6 C7 C8 C9 C10 C11 : Addr) (Q : VK) : XK := fun cls d H' => ∃ i, i < 12 ∧ cls = .ref ([C0, C1, C2, C3, C4, C5, C6, C7, C8, C9, C10, C11].getD i 0) ∧ d = none ∧ ∀ H'' : Hp, Same H' H'' → Q (.str (wordOf i)) H''
def wQ (Q : VK) : VK := fun _ H' => ∀ H'' : Hp, Same H' H'' → Q (.str "fine") H''
theorem conr_mk {CM CX CR : Addr} {d e : PyData} {C : Ct} {er : Addr → Prop} {ok : Ct → Prop} (hC : Cok C) (hd : Side d C.M) (he : Side e C.N) (rd : rulD (ruleD C) = true) (h : ok C) : ConR CM CX CR d e (ruleD C) er ok :=
  .inr ⟨C.M, ⟨hd.1.ok, hd.2.elim (fun h => .inl ⟨h.2, h.1⟩) fun h => .inr ⟨h.2.1, h.2.2.1, h.2.2.2.1⟩⟩, .inr ⟨C.N, ⟨he.1.ok, he.2.elim (fun h => .inl ⟨h.2, h.1⟩) fun h => .inr ⟨h.2.1, h.2.2.1, h.2.2.2.1⟩⟩, .inr ⟨hC.bb.symm, hC.zz.symm, .inr ⟨C.R, rfl, rd, hC, h⟩⟩⟩⟩
structure WT (K : PySem.W.Frag) (mg : Str → Option Value) (fW : Addr) (dW : FuncData) : Prop where
  FWord : Fun K "_law_x_word" "_law_x_word" sWord fW dW
  bWord : Binds K dW ["act"] []
  gWord : mg "_law_x_word" = some (.ref fW)
section
variable {K : PySem.W.Frag} {mg : Str → Option Value} {m1 m2 m3 m4 m5 m6 m7 m8 m9 m10 m11 m12 : Addr} {n1 n2 n3 n4 n5 n6 n7 n8 n9 n10 n11 n12 : FuncData} {t1 t2 t3 t4 t5 t6 : Tok} {CM a1 a3 : Addr} {b1 b3 : FuncData} {r1 r2 r3 r4 r5 p1 : Addr} {v1 v2 v3 v4 v5 q1 : FuncData} {CX CR CI mR mW : Addr} {nR nW : FuncData} {g1 g2 g3 g4 g5 : Addr} {e1 e2 e3 e4 e5 : FuncData} {CG fF p7 p8 : Addr} {q7 q8 : FuncData}
theorem part_binds (T : PaTxt K mg m1 m2 m3 m4 m5 m6 m7 m8 m9 m10 m11 m12 n1 n2 n3 n4 n5 n6 n7 n8 n9 n10 n11 n12 t1 t2 t3 t4 t5 t6 CM a1 a3 b1 b3 r1 r2 r3 r4 r5 p1 v1 v2 v3 v4 v5 q1 CX CR CI mR mW nR nW g1 g2 g3 g4 g5 e1 e2 e3 e4 e5 CG fF p7 p8 q7 q8) : ∃ ds, Vals [V.int 2000] ds ∧ Binds K q7 ["one", "other", "rule", "limit"] ds :=
  T.FParted.binds0 3 (by simp) rfl (fun D doc pm an cdv ct us ks h1 h2 => match us, ks, h1, h2 with
    | [_, _, _], [_], _, _ => ⟨_, _, _, _, _, _, rfl, rfl, rfl⟩)
theorem part_kbinds (T : PaTxt K mg m1 m2 m3 m4 m5 m6 m7 m8 m9 m10 m11 m12 n1 n2 n3 n4 n5 n6 n7 n8 n9 n10 n11 n12 t1 t2 t3 t4 t5 t6 CM a1 a3 b1 b3 r1 r2 r3 r4 r5 p1 v1 v2 v3 v4 v5 q1 CX CR CI mR mW nR nW g1 g2 g3 g4 g5 e1 e2 e3 e4 e5 CG fF p7 p8 q7 q8) : KBn K q7 ["one", "other", "rule", "limit"] 3 ["limit"] (fun us ws => us ++ ws) (fun vs zs => vs ++ zs) := by
  obtain ⟨mv, h⟩ := T.FParted.kbinds0 (ps := ["one", "other", "rule", "limit"]) 3 ["limit"] [] (fun us _ ws => us ++ ws) (by simp) (fun _ h => nomatch h) (fun r1 _ r3 => r1.append r3) (fun D doc pm an cdv ct us mv ws h1 h2 h3 => match us, mv, ws, h1, h2, h3 with
    | [_, _, _], [], [_], _, _, _ => rfl)
  exact h
theorem lvs_binds (T : PaTxt K mg m1 m2 m3 m4 m5 m6 m7 m8 m9 m10 m11 m12 n1 n2 n3 n4 n5 n6 n7 n8 n9 n10 n11 n12 t1 t2 t3 t4 t5 t6 CM a1 a3 b1 b3 r1 r2 r3 r4 r5 p1 v1 v2 v3 v4 v5 q1 CX CR CI mR mW nR nW g1 g2 g3 g4 g5 e1 e2 e3 e4 e5 CG fF p7 p8 q7 q8) : ∃ ds, Vals [V.int 2000] ds ∧ Binds K q8 ["one", "other", "rule", "limit"] ds :=
  T.FLevelsOf.binds0 3 (by simp) rfl (fun D doc pm an cdv ct us ks h1 h2 => match us, ks, h1, h2 with
    | [_, _, _], [_], _, _ => ⟨_, _, _, _, _, _, rfl, rfl, rfl⟩)
theorem lvs_kbinds (T : PaTxt K mg m1 m2 m3 m4 m5 m6 m7 m8 m9 m10 m11 m12 n1 n2 n3 n4 n5 n6 n7 n8 n9 n10 n11 n12 t1 t2 t3 t4 t5 t6 CM a1 a3 b1 b3 r1 r2 r3 r4 r5 p1 v1 v2 v3 v4 v5 q1 CX CR CI mR mW nR nW g1 g2 g3 g4 g5 e1 e2 e3 e4 e5 CG fF p7 p8 q7 q8) : KBn K q8 ["one", "other", "rule", "limit"] 3 ["limit"] (fun us ws => us ++ ws) (fun vs zs => vs ++ zs) := by
  obtain ⟨mv, h⟩ := T.FLevelsOf.kbinds0 (ps := ["one", "other", "rule", "limit"]) 3 ["limit"] [] (fun us _ ws => us ++ ws) (by simp) (fun _ h => nomatch h) (fun r1 _ r3 => r1.append r3) (fun D doc pm an cdv ct us mv ws h1 h2 h3 => match us, mv, ws, h1, h2, h3 with
    | [_, _, _], [], [_], _, _, _ => rfl)
  exact h
end
theorem Fun.okGC {P : Program} {w : World} {K : PySem.W.Frag} {mg : Str → Option Value} {base : Heap} {CX : CXT} {x qual : Str} {st : Stmt} {f : Addr} {fd : FuncData} {N ps : List Str} {k : Nat} {sp : Sp} {c : Value} (F : Fun K x qual st f fd) (hv : fd.code = c) (S : FnScope N ps (defScope st))
    (len : ∀ vs H Q E, sp vs H Q E → vs.length = ps.length)
    (hbody : ∀ (A : Around) (outer : List Env) (s : Shared) (H : Hp) (vs : List V) (Q : VK) (E : XK), A.guards = some [] → Room k (A.deeper (envOfC qual (defScope st) s.heap.objs.size f c)) → sp vs H Q E →
      ∃ t, PSs (cxOf CX P w K mg base N qual (defScope st) f c A outer s H E) (defBody st) t ∧ t { nx := fun _ H' => Q .non H', rt := Q } (start N vs) H) :
    FnG P w K mg base CX (k + 1) f fd ps sp := by
  obtain ⟨oc, od, kV, doc, pm, an, cdv, ct, osl, hfd, lk, hcode⟩ := F.ex
  subst hfd
  obtain rfl : cdv = c := hv
  refine ⟨len, fun A hgd room out st' G ar uu vv R W e0 hb rv hs => ?_⟩
  have hlen := len _ _ _ _ hs
  have kin := e0.mod.kin.keeps fun b o e => (e0.bs b o e).1
  have nolim := e0.mod.nolimit.keeps fun b o e => (e0.bs b o e).1
  refine codeAny_call_function room.depth (kin _ _ lk) rfl S.co S.gen rfl (PySem.W.codeRec_of kin hcode) (hb _ _ _ _ ?_)
  refine wpAny_newFunctionEnv_cells S.kind (fun ⟨n, v⟩ hmem => ?kinds) fun env' heq s2 x2 => ?_
  case kinds =>
    cases S.par n (List.of_mem_zip hmem).1 with
    | inl q => exact .inl q
    | inr q => exact .inr ⟨q, PySem.W.cellsFrom_some _ _ _ (.inl q)⟩
  subst heq
  refine ⟨nolim.keeps x2.toInCall.keep, codeAny_func ?_⟩
  obtain ⟨t, der, reading⟩ := hbody A out st' G vv R W hgd (room.deeper _) hs
  refine wpAny_mono (der.run [] s2 (start N vv) G _ (inv_start S room.hd e0 hlen rv x2) reading) (fun fl s3 end3 => ?_) fun _ _ end3 => end3
  cases fl with
  | next =>
    obtain ⟨_, G', J, q⟩ := end3
    exact ⟨V.non, G', J.os, J.bare, J.base, J.hok, rfl, q⟩
  | ret u =>
    obtain ⟨v, _, G', J, rv', q⟩ := end3
    exact ⟨v, G', J.os, J.bare, J.base, J.hok, rv', q⟩
  | brk => exact (let ⟨_, _, _, q⟩ := end3; False.elim q)
  | cont => exact (let ⟨_, _, _, q⟩ := end3; False.elim q)
theorem Fun.okC {P : Program} {w : World} {K : PySem.W.Frag} {mg : Str → Option Value} {base : Heap} {x qual : Str} {st : Stmt} {f : Addr} {fd : FuncData} {N ps : List Str} {k : Nat} {sp : Sp} {v : Value} (F : Fun K x qual st f fd) (hv : fd.code = v) (S : FnScope N ps (defScope st)) (len : ∀ vs H Q E, sp vs H Q E → vs.length = ps.length)
    (hbody : ∀ (A : Around) (outer : List Env) (s : Shared) (H : Hp) (vs : List V) (Q : VK) (E : XK), Room k (A.deeper (envOfC qual (defScope st) s.heap.objs.size f v)) → sp vs H Q E → ∃ t, PSs (cxOf CX0 P w K mg base N qual (defScope st) f v A outer s H E).nox (defBody st) t ∧ t { nx := fun _ H' => Q .non H', rt := Q } (start N vs) H) :
    FnOk P w K mg base CX0 (k + 1) f fd ps sp := by
  obtain ⟨oc, od, kV, doc, pm, an, c, ct, osl, hfd, lk, hc⟩ := F.ex
  subst hfd
  obtain rfl : c = v := hv
  refine fn_of lk hc S len fun A outer s H vs Q E hr h => ?_
  obtain ⟨t, d, q⟩ := hbody A outer s H vs Q E hr h
  exact ⟨t, d.nox, q⟩
/-- which error three arguments have due, in the law's words -/
inductive Wd (CM CX CR : Addr) (d1 d2 d3 : PyData) : Str → Prop
  | m (h : ∀ (er : Addr → Prop) (ok : Ct → Prop), er CM → ConR CM CX CR d1 d2 d3 er ok) : Wd CM CX CR d1 d2 d3 "machine"
  | x (h : ∀ (er : Addr → Prop) (ok : Ct → Prop), er CX → ConR CM CX CR d1 d2 d3 er ok) : Wd CM CX CR d1 d2 d3 "match"
  | r (h : ∀ (er : Addr → Prop) (ok : Ct → Prop), er CR → ConR CM CX CR d1 d2 d3 er ok) : Wd CM CX CR d1 d2 d3 "rule"
  | f (C : Ct) (few : C.N.C.length ≤ 60) (fit : ∀ n, tot C n ≤ 2000) (h : ∀ (er : Addr → Prop) (ok : Ct → Prop), ok C → ConR CM CX CR d1 d2 d3 er ok) : Wd CM CX CR d1 d2 d3 "fine"
theorem Wd.con {CM CX CR : Addr} {d1 d2 d3 : PyData} {w : Str} (h : Wd CM CX CR d1 d2 d3 w) {er : Addr → Prop} {ok : Ct → Prop} (e0 : w = "machine" → er CM) (e8 : w = "match" → er CX) (e3 : w = "rule" → er CR) (o : w = "fine" → ∀ C, C.N.C.length ≤ 60 → (∀ n, tot C n ≤ 2000) → ok C) : ConR CM CX CR d1 d2 d3 er ok := by
  cases h with
  | m h => exact h _ _ (e0 rfl)
  | x h => exact h _ _ (e8 rfl)
  | r h => exact h _ _ (e3 rfl)
  | f C few fit h => exact h _ _ (o rfl C few fit)
section
variable {K : PySem.W.Frag} {C0 C1 C2 C3 C4 C5 C6 C7 C8 C9 C10 C11 : Addr} {H : Hp} {x y r t : V} {d1 d2 d3 dt : PyData} {w : Str} {Q : VK}
theorem wd_err (fin : ∀ H3, Same H H3 → Q (.str w) H3) : (w = "machine" → ∀ H', Same H H' → wX C0 C1 C2 C3 C4 C5 C6 C7 C8 C9 C10 C11 Q (.ref C0) none H') ∧ (w = "match" → ∀ H', Same H H' → wX C0 C1 C2 C3 C4 C5 C6 C7 C8 C9 C10 C11 Q (.ref C8) none H') ∧ (w = "rule" → ∀ H', Same H H' → wX C0 C1 C2 C3 C4 C5 C6 C7 C8 C9 C10 C11 Q (.ref C3) none H') := by
  refine ⟨fun e H' s => ⟨0, by decide, rfl, rfl, fun H3 s3 => ?_⟩, fun e H' s => ⟨8, by decide, rfl, rfl, fun H3 s3 => ?_⟩, fun e H' s => ⟨3, by decide, rfl, rfl, fun H3 s3 => ?_⟩⟩
  · rw [word0, ← e]
    exact fin H3 (s.trans s3)
  · rw [word8, ← e]
    exact fin H3 (s.trans s3)
  · rw [word3, ← e]
    exact fin H3 (s.trans s3)
theorem nev_word (hx : Rp K H x d1) (hy : Rp K H y d2) (hr : Rp K H r d3) (h : Wd C0 C8 C3 d1 d2 d3 w) (fin : ∀ H3, Same H H3 → Q (.str w) H3) : spShowsNever K C0 C8 C3 [x, y, r, .non] H (wQ Q) (wX C0 C1 C2 C3 C4 C5 C6 C7 C8 C9 C10 C11 Q) := by
  obtain ⟨e0, e8, e3⟩ := wd_err (C0 := C0) (C1 := C1) (C2 := C2) (C3 := C3) (C4 := C4) (C5 := C5) (C6 := C6) (C7 := C7) (C8 := C8) (C9 := C9) (C10 := C10) (C11 := C11) fin
  refine ⟨x, y, r, .non, d1, d2, d3, .none, rfl, hx, hy, hr, .non, fun ds e => (nomatch e), fun ts e => (nomatch e), h.con e0 e8 e3 fun e C few _ => ⟨few, fun H' s H3 s3 => ?_⟩⟩
  rw [← e]
  exact fin H3 (s.trans s3)
theorem lev_word (hx : Rp K H x d1) (hy : Rp K H y d2) (hr : Rp K H r d3) (h : Wd C0 C8 C3 d1 d2 d3 w) (fin : ∀ H3, Same H H3 → Q (.str w) H3) : spShowsLevels K C0 C8 C3 [x, y, r, .non] H (wQ Q) (wX C0 C1 C2 C3 C4 C5 C6 C7 C8 C9 C10 C11 Q) := by
  obtain ⟨e0, e8, e3⟩ := wd_err (C0 := C0) (C1 := C1) (C2 := C2) (C3 := C3) (C4 := C4) (C5 := C5) (C6 := C6) (C7 := C7) (C8 := C8) (C9 := C9) (C10 := C10) (C11 := C11) fin
  refine ⟨x, y, r, .non, d1, d2, d3, .none, rfl, hx, hy, hr, .non, ⟨by decide, by decide, fun ds e => (nomatch e)⟩, h.con e0 e8 e3 fun e C _ _ H' s H3 s3 => ?_⟩
  rw [← e]
  exact fin H3 (s.trans s3)
/-- the word that is due with a limit -/
def lastW (w : Str) (dm : PyData) : Str := if w = "fine" ∧ betD 1 2000 dm = false then "limit" else w
theorem lim_word {Q' : Ct → Nat → Prop} (h : Wd C0 C8 C3 d1 d2 d3 w) (hd : betD 1 2000 dt = true → dt = .int 2000) (fin : ∀ H3, Same H H3 → Q (.str (lastW w dt)) H3) (ok : w = "fine" → betD 1 2000 dt = true → ∀ C n, Q' C n) :
    ConR C0 C8 C3 d1 d2 d3 (fun c => ∀ H', Same H H' → wX C0 C1 C2 C3 C4 C5 C6 C7 C8 C9 C10 C11 Q (.ref c) none H') fun C => LimR C dt C10 C9 (fun c => ∀ H', Same H H' → wX C0 C1 C2 C3 C4 C5 C6 C7 C8 C9 C10 C11 Q (.ref c) none H') (Q' C) := by
  have nf : w ≠ "fine" → lastW w dt = w := fun n => if_neg fun z => n z.1
  have fin2 : w ≠ "fine" → ∀ H3, Same H H3 → Q (.str w) H3 := fun n H3 s => by
    have := fin H3 s
    rwa [nf n] at this
  have err := fun n => wd_err (C0 := C0) (C1 := C1) (C2 := C2) (C3 := C3) (C4 := C4) (C5 := C5) (C6 := C6) (C7 := C7) (C8 := C8) (C9 := C9) (C10 := C10) (C11 := C11) (fin2 n)
  refine h.con (fun e => (err (by rw [e]; decide)).1 e) (fun e => (err (by rw [e]; decide)).2.1 e) (fun e => (err (by rw [e]; decide)).2.2 e) fun e C _ fit => ?_
  by_cases b : betD 1 2000 dt = true
  · rw [hd b]
    exact .inr ⟨2000, rfl, by decide, by decide, fun n _ lt => absurd lt (by have := fit n; omega), fun n _ _ => ok e b C n⟩
  · refine .inl ⟨eq_false_of_ne_true b, fun H' s => ⟨10, by decide, rfl, rfl, fun H3 s3 => ?_⟩⟩
    have := fin H3 (s.trans s3)
    unfold lastW at this
    rw [if_pos ⟨e, eq_false_of_ne_true b⟩] at this
    rw [word10]
    exact this
theorem par_word (hx : Rp K H x d1) (hy : Rp K H y d2) (hr : Rp K H r d3) (ht : Rp K H t dt) (h : Wd C0 C8 C3 d1 d2 d3 w) (hd : betD 1 2000 dt = true → dt = .int 2000) (fin : ∀ H3, Same H H3 → Q (.str (lastW w dt)) H3) : spParted K C0 C8 C3 C10 C9 [x, y, r, t] H (wQ Q) (wX C0 C1 C2 C3 C4 C5 C6 C7 C8 C9 C10 C11 Q) :=
  ⟨x, y, r, t, d1, d2, d3, dt, rfl, hx, hy, hr, ht, lim_word (C1 := C1) (C2 := C2) (C4 := C4) (C5 := C5) (C6 := C6) (C7 := C7) (C9 := C9) (C10 := C10) (C11 := C11) h hd fin fun e b C n H' v _ s H3 s3 => by
    have := fin H3 (s.trans s3)
    unfold lastW at this
    rw [if_neg (fun z => by rw [b] at z; cases z.2), e] at this
    exact this⟩
theorem lvs_word (hx : Rp K H x d1) (hy : Rp K H y d2) (hr : Rp K H r d3) (ht : Rp K H t dt) (h : Wd C0 C8 C3 d1 d2 d3 w) (hd : betD 1 2000 dt = true → dt = .int 2000) (fin : ∀ H3, Same H H3 → Q (.str (lastW w dt)) H3) : spLevelsOf K C0 C8 C3 C10 C9 [x, y, r, t] H (wQ Q) (wX C0 C1 C2 C3 C4 C5 C6 C7 C8 C9 C10 C11 Q) :=
  ⟨x, y, r, t, d1, d2, d3, dt, rfl, hx, hy, hr, ht, lim_word (C1 := C1) (C2 := C2) (C4 := C4) (C5 := C5) (C6 := C6) (C7 := C7) (C9 := C9) (C10 := C10) (C11 := C11) h hd fin fun e b C n H' a rs s _ _ _ _ H3 s3 => by
    have := fin H3 (s.trans s3)
    unfold lastW at this
    rw [if_neg (fun z => by rw [b] at z; cases z.2), e] at this
    exact this⟩
/-- the act: three things and a limit -/
theorem tl_of3 {sp : Sp} {σ : L2.St} {i j k l : Nat} {z : V} (h1 : σ[i]? = some (some x)) (h2 : σ[j]? = some (some y)) (h3 : σ[k]? = some (some r)) (h4 : σ[l]? = some (some z)) (h : sp [x, y, r, z] H (wQ Q) (wX C0 C1 C2 C3 C4 C5 C6 C7 C8 C9 C10 C11 Q)) : TTword [C0, C1, C2, C3, C4, C5, C6, C7, C8, C9, C10, C11] (fun E H' Q' => tCallN 3 1 sp (fun vs zs => vs ++ zs) E (tCons (tVar i) (tCons (tVar j) (tCons (tVar k) tNil))) (tCons (tVar l) tNil) σ H' Q') H Q :=
  ⟨x, h1, y, h2, r, h3, z, h4, rfl, rfl, h⟩
/-- the act: three things and None -/
theorem tl_n {sp : Sp} {σ : L2.St} {i j k : Nat} (h1 : σ[i]? = some (some x)) (h2 : σ[j]? = some (some y)) (h3 : σ[k]? = some (some r)) (h : sp [x, y, r, .non] H (wQ Q) (wX C0 C1 C2 C3 C4 C5 C6 C7 C8 C9 C10 C11 Q)) : TTword [C0, C1, C2, C3, C4, C5, C6, C7, C8, C9, C10, C11] (fun E H' Q' => tCall sp [] E (tCons (tVar i) (tCons (tVar j) (tCons (tVar k) (tCons (tC V.non) tNil)))) σ H' Q') H Q :=
  ⟨x, h1, y, h2, r, h3, h⟩
end
end My
/-! ### asked: errors and limits -/
namespace My
open PySem PySem.Spec PyProof.Rows L2 PySem.Builtin.Str
abbrev sAsk : Stmt := topS 72
theorem scAsk : FnScope ["pen", "one", "two", "rule", "due", "words", "last", "thing", "most"] ["pen", "one", "two", "rule", "due"] (defScope sAsk) := ⟨rfl, rfl, rfl, by decide +kernel, rfl, by decide +kernel, by decide +kernel⟩
def qAsk : Str := (envOfC "_law_x_asked_right" (defScope sAsk) 0 0 .none).qual ++ "<lambda>"
structure AskTxt (K : PySem.W.Frag) (mg : Str → Option Value) (x9 : Addr) (y9 : FuncData) : Prop where
  repr : mg "repr" = none
  FAsk : Fun K "_law_x_asked_right" "_law_x_asked_right" sAsk x9 y9
  bAsk : Binds K y9 ["pen", "one", "two", "rule", "due"] []
  gAsk : mg "_law_x_asked_right" = some (.ref x9)
theorem Wd.str {CM CX CR : Addr} {d1 d2 d3 : PyData} {w : Str} (h : Wd CM CX CR d1 d2 d3 w) : PyData.strOk w = true ∧ w.length ≤ 10 := by
  cases h <;> exact ⟨by decide +kernel, by decide +kernel⟩
/-- a limit -/
structure MostD (v : V) (d : PyData) : Prop where
  rp : ∀ (K : PySem.W.Frag) (H : Hp), Rp K H v d
  two : betD 1 2000 d = true → d = .int 2000
  nl : noList d = true
  sh : d.showable = true
  dp : d.depth ≤ 60
  fit : d.shown.length ≤ sizeLine
  txt : (!decide (V.str d.shown = V.str "2000")) = !betD 1 2000 d
def mostL : List (V × PyData) := [(.int 2000, .int 2000), (.int 2000, .int 2000), (.int 0, .int 0), (.int 2001, .int 2001), (.int (-1), .int (-1)), (.bl true, .bool true), (.non, .none), (.str "7", .str "7")]
theorem most_all : ∀ e ∈ mostL, MostD e.1 e.2 := by
  intro e he
  have tx : ∀ {a b : Str}, decide (V.str a = V.str b) = decide (a = b) := fun {a b} => by
    rw [Bool.eq_iff_iff, decide_eq_true_eq, decide_eq_true_eq]
    exact ⟨fun h => by injection h, fun h => by rw [h]⟩
  simp only [mostL, List.mem_cons, List.not_mem_nil, or_false] at he
  rcases he with rfl | rfl | rfl | rfl | rfl | rfl | rfl | rfl
  · exact ⟨fun _ _ => .int _, fun _ => rfl, rfl, by decide +kernel, by decide, by decide +kernel, by rw [tx]; decide +kernel⟩
  · exact ⟨fun _ _ => .int _, fun _ => rfl, rfl, by decide +kernel, by decide, by decide +kernel, by rw [tx]; decide +kernel⟩
  · exact ⟨fun _ _ => .int _, fun h => absurd h (by decide), rfl, by decide +kernel, by decide, by decide +kernel, by rw [tx]; decide +kernel⟩
  · exact ⟨fun _ _ => .int _, fun h => absurd h (by decide), rfl, by decide +kernel, by decide, by decide +kernel, by rw [tx]; decide +kernel⟩
  · exact ⟨fun _ _ => .int _, fun h => absurd h (by decide), rfl, by decide +kernel, by decide, by decide +kernel, by rw [tx]; decide +kernel⟩
  · exact ⟨fun _ _ => .bl _, fun h => absurd h (by decide), rfl, by decide +kernel, by decide, by decide +kernel, by rw [tx]; decide +kernel⟩
  · exact ⟨fun _ _ => .non, fun h => absurd h (by decide), rfl, by decide +kernel, by decide, by decide +kernel, by rw [tx]; decide +kernel⟩
  · exact ⟨fun _ _ => .str _ (by show 1 ≤ sizeLine; decide), fun h => absurd h (by decide), rfl, by decide +kernel, by decide, by decide +kernel, by rw [tx]; decide +kernel⟩
theorem most_at {k : Nat} {v : V} (h : ([.int 2000, .int 2000, .int 0, .int 2001, .int (-1), .bl true, .non, .str "7"] : List V)[k]? = some v) : ∃ d, MostD v d := by
  have h2 : (mostL.map (·.1))[k]? = some v := h
  rw [List.getElem?_map] at h2
  obtain ⟨e, he, rfl⟩ := Option.map_eq_some_iff.mp h2
  exact ⟨e.2, most_all e (List.mem_of_getElem? he)⟩
/-- things that show nothing -/
structure NoTh (d : PyData) : Prop where
  sl : ∀ ds, d = .list ds → ds.length ≤ 100000
  bd : ∀ ts : List Sg, d = .list (ts.map eSg) → ∀ t ∈ ts, Bd 200 t.L
  ls : Lsm d
  nv : ∀ C, nvB C d = false
  sh : ∀ C, shB C d = false
def thingsL (d : PyData) : List PyData := [.none, .bool true, .int 7, .str "", .tuple [], .dict [], .list [.none], .list [.list []], .list [.tuple [.int 0, .int 0]], .list [.list [d]], d]
theorem noth_of {d : PyData} (h1 : ∀ ds, d ≠ .list ds) (h2 : d.depth ≤ 12) (h3 : d.weight ≤ 1000000) : NoTh d :=
  ⟨fun ds e => absurd e (h1 ds), fun ts e => absurd e (h1 _), ⟨h2, h3, fun ds e => absurd e (h1 ds)⟩, fun C => nvB_false fun ⟨ts, e, _⟩ => h1 _ e, fun C => shB_false fun ⟨n, _, e⟩ => h1 _ e⟩
theorem noth_one {d : PyData} (h1 : ∀ t : Sg, d ≠ eSg t) (h2 : d ≠ .list [eSg FIRSTg]) (h3 : d.depth ≤ 11) (h4 : d.weight ≤ 900001) (h5 : ∀ es, d = .list es → es.length ≤ 10000) : NoTh (.list [d]) := by
  have no : ∀ ts : List Sg, PyData.list [d] ≠ .list (ts.map eSg) := fun ts e => by
    injection e with e
    cases ts with
    | nil => cases e
    | cons t ts =>
      rw [List.map_cons] at e
      injection e with e _
      exact h1 t e
  refine ⟨fun ds e => ?_, fun ts e => absurd e (no ts), ⟨?_, ?_, fun ds e => ?_⟩, fun C => nvB_false fun ⟨ts, e, _⟩ => no ts e, fun C => shB_false fun ⟨n, _, e⟩ => ?_⟩
  · injection e with e
    rw [← e]
    show 1 ≤ 100000
    decide
  · rw [PyData.depth, PyData.depthAll, PyData.depthAll]
    omega
  · rw [PyData.weight, PyData.weightAll, PyData.weightAll]
    omega
  · injection e with e
    rw [← e]
    refine ⟨by show 1 ≤ 100000; decide, fun x hx es ee => ?_⟩
    rw [List.mem_singleton.mp hx] at ee
    exact h5 es ee
  · rw [lvsD_eq] at e
    injection e with e
    cases n with
    | zero =>
      rw [List.range_one, List.map_singleton] at e
      injection e with e _
      refine h2 (e.trans ?_)
      unfold lvD
      rw [sLv_zero]
      rfl
    | succ n =>
      have := congrArg List.length e
      rw [List.length_map, List.length_range] at this
      cases this
theorem things_no {d1 : PyData} {b : Int} {z : Str} {s : PyData} (e : d1 = .tuple [.int b, .str z, s]) (dd : d1.depth ≤ 8) (dw : d1.weight ≤ 900000) : ∀ d ∈ thingsL d1, NoTh d := by
  intro d hd
  simp only [thingsL, List.mem_cons, List.not_mem_nil, or_false] at hd
  rcases hd with rfl | rfl | rfl | rfl | rfl | rfl | rfl | rfl | rfl | rfl | rfl
  · exact noth_of (fun ds h => nomatch h) (by decide) (by decide)
  · exact noth_of (fun ds h => nomatch h) (by decide) (by decide)
  · exact noth_of (fun ds h => nomatch h) (by decide) (by decide +kernel)
  · exact noth_of (fun ds h => nomatch h) (by decide) (by decide +kernel)
  · exact noth_of (fun ds h => nomatch h) (by decide +kernel) (by decide +kernel)
  · exact noth_of (fun ds h => nomatch h) (by decide +kernel) (by decide +kernel)
  · exact noth_one (fun t h => nomatch h) (fun h => nomatch h) (by decide) (by decide +kernel) (fun es h => nomatch h)
  · exact noth_one (fun t h => nomatch h) (fun h => by injection h with h; cases h) (by decide +kernel) (by decide +kernel) (fun es h => by injection h with h; rw [← h]; decide)
  · refine noth_one (fun t h => ?_) (fun h => nomatch h) (by decide +kernel) (by decide +kernel) (fun es h => nomatch h)
    unfold eSg at h
    injection h with h
    injection h with _ h
    injection h with _ h
    cases h
  · refine noth_one (fun t h => nomatch h) (fun h => ?_) ?_ ?_ (fun es h => by injection h with h; rw [← h]; show 1 ≤ 10000; decide)
    · injection h with h
      injection h with h _
      rw [e] at h
      unfold eSg at h
      injection h with h
      injection h with _ h
      injection h with h _
      cases h
    · rw [PyData.depth, PyData.depthAll, PyData.depthAll]
      omega
    · rw [PyData.weight, PyData.weightAll, PyData.weightAll]
      omega
  · exact noth_of (fun ds h => by rw [e] at h; cases h) (by omega) (by omega)
def spAsk (K : PySem.W.Frag) (C0 C8 C3 : Addr) (TT : List (Addr × Str)) : Sp := fun vs H Q _ => ∃ (p : Addr) (n : Nat) (x y r : V) (d1 d2 d3 : PyData) (wd : Str), vs = [.ref p, x, y, r, .str wd] ∧ Pen H p n ∧ n < 1044000 ∧ Rs p K H x d1 ∧ Rs p K H y d2 ∧ Rs p K H r d3 ∧ Wd C0 C8 C3 d1 d2 d3 wd ∧ (wd = "fine" → ∃ b z s, d1 = .tuple [.int b, .str z, s] ∧ d1.depth ≤ 8 ∧ d1.weight ≤ 900000) ∧ LamX.Tabs TT H ∧
  ∀ H' : Hp, ButN p H H' → Pen H' p (n + 3) → LamX.Tabs TT H' → Q (.bl true) H'
section
variable {P : Program} {w : World} {K : PySem.W.Frag} {mg : Str → Option Value} {base : Heap} {f1 f2 f3 f4 : Addr} {d1 d2 d3 d4 : FuncData} {m1 m2 m3 m4 m5 m6 m7 m8 m9 m10 m11 m12 : Addr} {n1 n2 n3 n4 n5 n6 n7 n8 n9 n10 n11 n12 : FuncData} {t1 t2 t3 t4 t5 t6 : Tok} {a1 a3 : Addr} {b1 b3 : FuncData} {r1 r2 r3 r4 r5 p1 : Addr} {v1 v2 v3 v4 v5 q1 : FuncData} {mR mW : Addr} {nR nW : FuncData} {g1 g2 g3 g4 g5 : Addr} {e1 e2 e3 e4 e5 : FuncData} {fF p7 p8 : Addr} {q7 q8 : FuncData}
  {h1 h2 h3 h4 : Addr} {k1 k2 k3 k4 : FuncData} {C0 C1 C2 C3 C4 C5 C6 C7 C8 C9 C10 C11 CL : Addr} {fW x9 : Addr} {dW y9 : FuncData} {cL PT : Addr} {TT : List (Addr × Str)}
theorem ok_ask (hcd : y9.code = .ref cL) (TP : PenTxt K mg f1 f2 f3 f4 d1 d2 d3 d4) (TPA : PaTxt K mg m1 m2 m3 m4 m5 m6 m7 m8 m9 m10 m11 m12 n1 n2 n3 n4 n5 n6 n7 n8 n9 n10 n11 n12 t1 t2 t3 t4 t5 t6 C0 a1 a3 b1 b3 r1 r2 r3 r4 r5 p1 v1 v2 v3 v4 v5 q1 C8 C3 C10 mR mW nR nW g1 g2 g3 g4 g5 e1 e2 e3 e4 e5 C9 fF p7 p8 q7 q8)
    (TSH : ShTxt K mg m1 m2 m3 m4 m5 m6 m7 m8 m9 m10 m11 m12 n1 n2 n3 n4 n5 n6 n7 n8 n9 n10 n11 n12 t1 t2 t3 t4 t5 C0 a1 a3 b1 b3 r1 r2 r3 r4 r5 p1 v1 v2 v3 v4 v5 q1 C8 C3 C10 mR mW nR nW g1 g2 g3 g4 g5 e1 e2 e3 e4 e5 C9 fF h1 h2 k1 k2)
    (TNV : NvTxt K mg m1 m2 m3 m4 m5 m6 m7 m8 m9 m10 m11 m12 n1 n2 n3 n4 n5 n6 n7 n8 n9 n10 n11 n12 t1 t2 t3 t4 t5 C0 a1 a3 b1 b3 r1 r2 r3 r4 r5 p1 v1 v2 v3 v4 v5 q1 C8 C3 C10 mR mW nR nW g1 g2 g3 g4 g5 e1 e2 e3 e4 e5 C9 fF h3 h4 k3 k4)
    (TE : WordTxt K mg C0 C1 C2 C3 C4 C5 C6 C7 C8 C9 C10 C11 CL) (TW : WT K mg fW dW) (T : AskTxt K mg x9 y9) (TB : LamX.TabB base mg cL PT) (hT1 : (PT, qAsk) ∈ TT) (hT2 : ∀ q ∈ TT, q.1 = PT → q.2 = qAsk) : FnG P w K mg base CX0 18 x9 y9 ["pen", "one", "two", "rule", "due"] (spAsk K C0 C8 C3 TT) := by
  have GP : FnOk P w K mg base CX0 17 f4 d4 ["pen", "some"] (spPick K) := ok_pick TP (k := 14)
  have GPA : FnOk P w K mg base (L2.CX P w) 15 p7 q7 ["one", "other", "rule", "limit"] (spParted K C0 C8 C3 C10 C9) := ok_parted TPA (k := 6)
  have GLO : FnOk P w K mg base (L2.CX P w) 15 p8 q8 ["one", "other", "rule", "limit"] (spLevelsOf K C0 C8 C3 C10 C9) := ok_levelsOf TPA (k := 6)
  have GSH : FnOk P w K mg base (L2.CX P w) 15 h2 k2 ["one", "other", "rule", "thing"] (spShowsLevels K C0 C8 C3) := ok_showsLevels TSH (k := 0)
  have GNV : FnOk P w K mg base (L2.CX P w) 15 h4 k4 ["one", "other", "rule", "thing"] (spShowsNever K C0 C8 C3) := ok_showsNever TNV (k := 6)
  have GSH7 : FnOk P w K mg base (L2.CX P w) 17 h2 k2 ["one", "other", "rule", "thing"] (spShowsLevels K C0 C8 C3) := ok_showsLevels TSH (k := 2)
  have GNV7 : FnOk P w K mg base (L2.CX P w) 17 h4 k4 ["one", "other", "rule", "thing"] (spShowsNever K C0 C8 C3) := ok_showsNever TNV (k := 8)
  obtain ⟨ocW, odW, kVW, docW, pmW, anW, cdW, ctW, slW, rfl, lkW, cgW⟩ := TW.FWord.ex
  refine Fun.okGC T.FAsk hcd scAsk (fun vs H Q E h => ?_) (fun A outer s H vs Q E hgd hr h => ?_)
  · obtain ⟨p, n, x, y, r, d1, d2, d3, wd, rfl, _⟩ := h
    rfl
  · obtain ⟨p, n, x, y, r, d1, d2, d3, wd, rfl, hP, hn, hx, hy, hr3, hw, hfine, hT, q⟩ := h
    have hu65 : (A.deeper (envOfC "_law_x_asked_right" (defScope sAsk) s.heap.objs.size x9 (.ref cL))).units + 65 < cLine := by have := hr.un; omega
    have hu4 : (A.deeper (envOfC "_law_x_asked_right" (defScope sAsk) s.heap.objs.size x9 (.ref cL))).units + 64 < cLine := by omega
    refine ⟨_, PSs.nox (Evl.pss_cut (ps_set (i := 5) scAsk.nd rfl (.inl rfl) (pe_lst (pa_cons (LamX.pe_lamcall (T := TT) (a := "act") (by rfl) TW.gWord TW.FWord.kp lkW cgW TW.bWord scWord (by rfl) (.inl rfl) (word_gives TE) TB rfl hT1 hT2 hr (show LamX.LamS (defScope sAsk) _ from LamX.lamS_by (by decide +kernel)) rfl (fun _ _ _ _ _ => rfl) (fun A outer s H E f c1 hr2 => (pe_call GNV hr2 (by rfl) TNV.gShowsNever TNV.FShowsNever.kp TNV.bShowsNever .nil (passes_call (takes_of rfl rfl rfl rfl) (fun _ _ _ _ h => h)) (pa_cons (pv 1) (pa_cons (pv 2) (pa_cons (pv 3) (pa_cons pe_non pa_nil))))))) pa_nil)))
 (Evl.pss_cut (ps_expr (pe_bm PySem.F.plainAttrs_list PySem.F.slot_list_append PySem.F.type_list_append mt_append (pv 5) (pa_cons (LamX.pe_lamcall (T := TT) (a := "act") (by rfl) TW.gWord TW.FWord.kp lkW cgW TW.bWord scWord (by rfl) (.inl rfl) (word_gives TE) TB rfl hT1 hT2 hr (show LamX.LamS (defScope sAsk) _ from LamX.lamS_by (by decide +kernel)) rfl (fun _ _ _ _ _ => rfl) (fun A outer s H E f c1 hr2 => (pe_call GSH hr2 (by rfl) TSH.gShowsLevels TSH.FShowsLevels.kp TSH.bShowsLevels .nil (passes_call (takes_of rfl rfl rfl rfl) (fun _ _ _ _ h => h)) (pa_cons (pv 1) (pa_cons (pv 2) (pa_cons (pv 3) (pa_cons pe_non pa_nil))))))) pa_nil)))
 (Evl.pss_cut (ps_set (i := 8) scAsk.nd rfl (.inr rfl) (pe_call GP hr (by rfl) TP.gPick TP.FPick.kp TP.bPick .nil pass0 (pa_cons (pv 0) (pa_cons (pe_lst (pa_cons pe_int (pa_cons pe_int (pa_cons pe_int (pa_cons pe_int (pa_cons (pe_un un_neg pe_int) (pa_cons pe_bl (pa_cons pe_non (pa_cons pe_str pa_nil))))))))) pa_nil))))
 (Evl.pss_cut (ps_expr (pe_bm PySem.F.plainAttrs_list PySem.F.slot_list_append PySem.F.type_list_append mt_append (pv 5) (pa_cons (LamX.pe_lamcall (T := TT) (a := "act") (by rfl) TW.gWord TW.FWord.kp lkW cgW TW.bWord scWord (by rfl) (.inl rfl) (word_gives TE) TB rfl hT1 hT2 hr (show LamX.LamS (defScope sAsk) _ from LamX.lamS_by (by decide +kernel)) rfl (fun _ _ _ _ _ => rfl) (fun A outer s H E f c1 hr2 => (pe_callN GPA hr2 (by rfl) TPA.gParted TPA.FParted.kp (part_kbinds TPA) (passes_call (takes_of rfl rfl rfl rfl) (fun _ _ _ _ h => h)) (pa_cons (pv 1) (pa_cons (pv 2) (pa_cons (pv 3) pa_nil))) (pk_cons (pv 8) pk_nil)))) pa_nil)))
 (Evl.pss_cut (ps_expr (pe_bm PySem.F.plainAttrs_list PySem.F.slot_list_append PySem.F.type_list_append mt_append (pv 5) (pa_cons (LamX.pe_lamcall (T := TT) (a := "act") (by rfl) TW.gWord TW.FWord.kp lkW cgW TW.bWord scWord (by rfl) (.inl rfl) (word_gives TE) TB rfl hT1 hT2 hr (show LamX.LamS (defScope sAsk) _ from LamX.lamS_by (by decide +kernel)) rfl (fun _ _ _ _ _ => rfl) (fun A outer s H E f c1 hr2 => (pe_callN GLO hr2 (by rfl) TPA.gLevelsOf TPA.FLevelsOf.kp (lvs_kbinds TPA) (passes_call (takes_of rfl rfl rfl rfl) (fun _ _ _ _ h => h)) (pa_cons (pv 1) (pa_cons (pv 2) (pa_cons (pv 3) pa_nil))) (pk_cons (pv 8) pk_nil)))) pa_nil)))
 (Evl.pss_cut (ps_set (i := 6) scAsk.nd rfl (.inl rfl) (pe_ifExp (PW.pt (pw_and (pt_cmpR op_eq (pv 4) pe_str (nomark _)) (pw_and1 (pt_cmpR op_ne (pe_callB (call_reprR hgd hu4) (by rfl) T.repr (by decide +kernel) (pa_cons (pv 8) pa_nil)) pe_str (nomark _))))) pe_str (pv 4)))
 (pss_cons (ps_if (pt_cmpR (op_neD hu4) (pv 5) (pe_lst (pa_cons (pv 4) (pa_cons (pv 4) (pa_cons (pv 6) (pa_cons (pv 6) pa_nil))))) (nomark _)) (pss_one (ps_ret pe_bl)) pss_nil)
 (Evl.pss_cut (ps_set (i := 7) scAsk.nd rfl (.inl rfl) (pe_call GP hr (by rfl) TP.gPick TP.FPick.kp TP.bPick .nil pass0 (pa_cons (pv 0) (pa_cons (pe_lst (pa_cons pe_non (pa_cons pe_bl (pa_cons pe_int (pa_cons pe_str (pa_cons (pe_tup pa_nil) (pa_cons pe_dnewK (pa_cons (pe_lst (pa_cons pe_non pa_nil)) (pa_cons (pe_lst (pa_cons (pe_lst pa_nil) pa_nil)) (pa_cons (pe_lst (pa_cons (pe_tup (pa_cons pe_int (pa_cons pe_int pa_nil))) pa_nil)) (pa_cons (pe_lst (pa_cons (pe_lst (pa_cons (pv 1) pa_nil)) pa_nil)) (pa_cons (pv 1) pa_nil)))))))))))) pa_nil))))
 (pss_one (ps_ret (pe_or (pe_cmpR op_ne (pv 4) pe_str (nomark _)) (pe_one (pe_and (pe_not (pe_call GNV7 hr (by rfl) TNV.gShowsNever TNV.FShowsNever.kp TNV.bShowsNever .nil passL (pa_cons (pv 1) (pa_cons (pv 2) (pa_cons (pv 3) (pa_cons (pv 7) pa_nil)))))) (pe_one (pe_not (pe_call GSH7 hr (by rfl) TSH.gShowsLevels TSH.FShowsLevels.kp TSH.bShowsLevels .nil passL (pa_cons (pv 1) (pa_cons (pv 2) (pa_cons (pv 3) (pa_cons (pv 7) pa_nil)))))))))))))))))))), ?_⟩
    have room : ∀ {m : Nat}, m ≤ 1000 → m ≤ sizeLine := fun h => Nat.le_trans h (by decide)
    have roomL : ∀ {m : Nat}, m ≤ 1000 → m < sizeLine := fun h => Nat.lt_of_le_of_lt h (by decide)
    have g0 : Go TT p n H H := ⟨ButN.refl p H, hP, hT⟩
    have wok := hw.str
    -- two words
    refine ⟨fun σ H' => ∃ wl, σ = [some (.ref p), some x, some y, some r, some (.str wd), some (.ref wl), none, none, none] ∧ Go TT p n H H' ∧ Fresh H wl ∧ wl ≠ p ∧ H' wl = some (.lst [.str wd]), ?_, ?_⟩
    · refine ⟨hT, fun Hb eb tb => tl_n rfl rfl rfl ?_⟩
      have gb := g0.ext eb tb
      refine nev_word (hx.go gb.1).rp (hy.go gb.1).rp (hr3.go gb.1).rp hw fun H3 s3 => ⟨room (by show 1 ≤ _; omega), fun wl nwl => ?_⟩
      have g3 := gb.same s3
      exact ⟨wl, rfl, g3.same (same_upd nwl), g3.fresh nwl, new_ne g3.pen nwl, upd_same⟩
    rintro σ H1 ⟨wl, rfl, g1, fw, nwp, hwl⟩
    refine ⟨fun σ H' => σ = [some (.ref p), some x, some y, some r, some (.str wd), some (.ref wl), none, none, none] ∧ Go TT p n H H' ∧ H' wl = some (.lst [.str wd, .str wd]), ?_, ?_⟩
    · refine ⟨_, rfl, .inl ⟨rfl, _, SqL.of hwl⟩, g1.2.2, fun Hb eb tb => tl_n rfl rfl rfl ?_⟩
      have gb := g1.ext eb tb
      refine lev_word (hx.go gb.1).rp (hy.go gb.1).rp (hr3.go gb.1).rp hw fun H3 s3 => ?_
      have g3 := gb.same s3
      have h3 := s3 _ _ (eb wl _ hwl (fun _ z => nomatch z))
      exact ⟨wl, _, _, rfl, rfl, h3, roomL (by show 1 ≤ _; omega), rfl, g3.updS nwp fw h3, upd_same⟩
    clear g1 hwl
    rintro σ H1 ⟨rfl, g1, hwl⟩
    -- a limit
    refine ⟨fun σ H' => ∃ (mv : V) (dm : PyData), σ = [some (.ref p), some x, some y, some r, some (.str wd), some (.ref wl), none, none, some mv] ∧ Go TT p (n + 1) H H' ∧ H' wl = some (.lst [.str wd, .str wd]) ∧ MostD mv dm, ?_, ?_⟩
    · refine ⟨_, rfl, _, rfl, room (by show 8 ≤ _; omega), fun L nL => ?_⟩
      have xL := same_upd (o := HO.lst [V.int 2000, .int 2000, .int 0, .int 2001, .int (-1), .bl true, .non, .str "7"]) nL
      have gL := g1.same xL
      refine ⟨p, L, _, n, rfl, gL.pen, by omega, SqL.of upd_same, new_ne g1.pen nL, (by show 0 < 8; decide), (by show 8 ≤ 1000; decide), fun H2 k v b2 hP2 hk => ?_⟩
      obtain ⟨dm, hd⟩ := most_at hk
      exact ⟨v, dm, rfl, gL.but b2 hP2, b2 _ _ nwp (xL _ _ hwl), hd⟩
    clear g1 hwl
    rintro σ H1 ⟨mv, dm, rfl, g1, hwl, md⟩
    have lwok : PyData.strOk (lastW wd dm) = true ∧ (lastW wd dm).length ≤ 10 := by
      unfold lastW
      split
      · exact ⟨by decide +kernel, by decide +kernel⟩
      · exact wok
    refine ⟨fun σ H' => σ = [some (.ref p), some x, some y, some r, some (.str wd), some (.ref wl), none, none, some mv] ∧ Go TT p (n + 1) H H' ∧ H' wl = some (.lst [.str wd, .str wd, .str (lastW wd dm)]), ?_, ?_⟩
    · refine ⟨_, rfl, .inl ⟨rfl, _, SqL.of hwl⟩, g1.2.2, fun Hb eb tb => tl_of3 rfl rfl rfl rfl ?_⟩
      have gb := g1.ext eb tb
      refine par_word (hx.go gb.1).rp (hy.go gb.1).rp (hr3.go gb.1).rp (md.rp K Hb) hw md.two fun H3 s3 => ?_
      have g3 := gb.same s3
      have h3 := s3 _ _ (eb wl _ hwl (fun _ z => nomatch z))
      exact ⟨wl, _, _, rfl, rfl, h3, roomL (by show 2 ≤ _; omega), rfl, g3.updS nwp fw h3, upd_same⟩
    clear g1 hwl
    rintro σ H1 ⟨rfl, g1, hwl⟩
    refine ⟨fun σ H' => σ = [some (.ref p), some x, some y, some r, some (.str wd), some (.ref wl), none, none, some mv] ∧ Go TT p (n + 1) H H' ∧ H' wl = some (.lst [.str wd, .str wd, .str (lastW wd dm), .str (lastW wd dm)]), ?_, ?_⟩
    · refine ⟨_, rfl, .inl ⟨rfl, _, SqL.of hwl⟩, g1.2.2, fun Hb eb tb => tl_of3 rfl rfl rfl rfl ?_⟩
      have gb := g1.ext eb tb
      refine lvs_word (hx.go gb.1).rp (hy.go gb.1).rp (hr3.go gb.1).rp (md.rp K Hb) hw md.two fun H3 s3 => ?_
      have g3 := gb.same s3
      have h3 := s3 _ _ (eb wl _ hwl (fun _ z => nomatch z))
      exact ⟨wl, _, _, rfl, rfl, h3, roomL (by show 3 ≤ _; omega), rfl, g3.updS nwp fw h3, upd_same⟩
    clear g1 hwl
    rintro σ H1 ⟨rfl, g1, hwl⟩
    -- the last word
    refine ⟨fun σ H' => σ = [some (.ref p), some x, some y, some r, some (.str wd), some (.ref wl), some (.str (lastW wd dm)), none, some mv] ∧ Go TT p (n + 1) H H' ∧ H' wl = some (.lst [.str wd, .str wd, .str (lastW wd dm), .str (lastW wd dm)]), ?_, ?_⟩
    · refine ⟨_, rfl, rfl, _, rfl, ite2 (fun u => ?_) (fun u => ?_)⟩
      · have e : wd = "fine" := by
          have := of_decide_eq_true u
          injection this
        refine ⟨_, rfl, mv, dm, rfl, md.rp K H1, .inl md.nl, md.sh, md.dp, md.fit, rfl, _, rfl, ite2 (fun u2 => ?_) (fun u2 => ?_)⟩
        · have e2 : lastW wd dm = "limit" := by
            unfold lastW
            refine if_pos ⟨e, ?_⟩
            rw [md.txt] at u2
            cases b : betD 1 2000 dm with
            | false => rfl
            | true =>
              rw [b] at u2
              cases u2
          rw [e2]
          exact ⟨rfl, g1, by rw [← e2]; exact hwl⟩
        · have e2 : lastW wd dm = wd := by
            unfold lastW
            refine if_neg fun z => ?_
            rw [md.txt, z.2] at u2
            exact u2 rfl
          rw [e2] at hwl ⊢
          exact ⟨_, rfl, rfl, g1, hwl⟩
      · have e : wd ≠ "fine" := fun z => u (by rw [z]; exact decide_eq_true rfl)
        have e2 : lastW wd dm = wd := if_neg fun z => e z.1
        rw [e2] at hwl ⊢
        exact ⟨_, rfl, rfl, g1, hwl⟩
    clear g1 hwl
    rintro σ H1 ⟨rfl, g1, hwl⟩
    refine ⟨_, rfl, _, rfl, _, rfl, _, rfl, _, rfl, room (by show 4 ≤ _; omega), fun t0 n0 => ?_⟩
    have x0 := same_upd (o := HO.lst [V.str wd, .str wd, .str (lastW wd dm), .str (lastW wd dm)]) n0
    have lw1 : wd.length ≤ sizeLine := room (by have := wok.2; omega)
    have lw2 : (lastW wd dm).length ≤ sizeLine := room (by have := lwok.2; omega)
    have nd : PyData.hasDict (.list [.str wd, .str wd, .str (lastW wd dm), .str (lastW wd dm)]) = false := by simp [PyData.hasDict, PyData.hasDictAll]
    have shp : SeqAt.shaped (.list [.str wd, .str wd, .str (lastW wd dm), .str (lastW wd dm)]) = true := by
      simp [SeqAt.shaped, PyData.canLay0, PyData.canLayAll0, PyData.depth, PyData.depthAll, wok.1, lwok.1]
    have rp4 : ∀ {H2 : Hp} {a : Addr}, H2 a = some (.lst [.str wd, .str wd, .str (lastW wd dm), .str (lastW wd dm)]) → Rp K H2 (.ref a) (.list [.str wd, .str wd, .str (lastW wd dm), .str (lastW wd dm)]) := fun h => .lst (SqL.of h) (.cons (.str _ lw1) (.cons (.str _ lw1) (.cons (.str _ lw2) (.cons (.str _ lw2) .nil))))
    refine ⟨_, _, (rp4 (x0 _ _ hwl)).dp nd, (rp4 upd_same).dp nd, shp, shp, _, rfl, ?_⟩
    rw [show PyData.eqv (.list [.str wd, .str wd, .str (lastW wd dm), .str (lastW wd dm)]) (.list [.str wd, .str wd, .str (lastW wd dm), .str (lastW wd dm)]) = true by simp [PyData.eqv, PyData.eqvAll]]
    refine iteF ?_
    replace g1 := g1.same x0
    clear hwl
    generalize upd H1 t0 (HO.lst [V.str wd, .str wd, .str (lastW wd dm), .str (lastW wd dm)]) = H2 at g1 ⊢
    -- a thing
    refine ⟨fun σ H' => ∃ (tv : V) (dt : PyData), σ = [some (.ref p), some x, some y, some r, some (.str wd), some (.ref wl), some (.str (lastW wd dm)), some tv, some mv] ∧ Go TT p (n + 2) H H' ∧ Rp K H' tv dt ∧ dt ∈ thingsL d1, ?_, ?_⟩
    · refine ⟨_, rfl, room (by show 0 ≤ _; omega), fun t1 n1 t2 n2 => ⟨room (by show 1 ≤ _; omega), fun t3 n3 => ⟨room (by show 0 ≤ _; omega), fun t4 n4 => ⟨room (by show 1 ≤ _; omega), fun t5 n5 => ⟨room (by show 2 ≤ _; omega), fun t6 n6 => ⟨room (by show 1 ≤ _; omega), fun t7 n7 => ⟨_, rfl, room (by show 1 ≤ _; omega), fun t8 n8 => ⟨room (by show 1 ≤ _; omega), fun t9 n9 => ⟨_, rfl, room (by show 11 ≤ _; omega), fun L nL => ?_⟩⟩⟩⟩⟩⟩⟩⟩⟩
      have x1 := same_upd (o := HO.tup []) n1
      have x2 := same_upd (o := HO.dK []) n2
      have x3 := same_upd (o := HO.lst [V.non]) n3
      have x4 := same_upd (o := HO.lst []) n4
      have x5 := same_upd (o := HO.lst [V.ref t4]) n5
      have x6 := same_upd (o := HO.tup [V.int 0, .int 0]) n6
      have x7 := same_upd (o := HO.lst [V.ref t6]) n7
      have x8 := same_upd (o := HO.lst [x]) n8
      have x9' := same_upd (o := HO.lst [V.ref t8]) n9
      have xL := same_upd (o := HO.lst [V.non, .bl true, .int 7, .str "", .ref t1, .ref t2, .ref t3, .ref t5, .ref t7, .ref t9, x]) nL
      have y9 := x9'.trans xL
      have y8 := x8.trans y9
      have y7 := x7.trans y8
      have y6 := x6.trans y7
      have y5 := x5.trans y6
      have y4 := x4.trans y5
      have y3 := x3.trans y4
      have y2 := x2.trans y3
      have y1 := x1.trans y2
      have z1 := x1
      have z2 := z1.trans x2
      have z3 := z2.trans x3
      have z4 := z3.trans x4
      have z5 := z4.trans x5
      have z6 := z5.trans x6
      have z7 := z6.trans x7
      have z8 := z7.trans x8
      have z9 := z8.trans x9'
      have gL := g1.same y1
      have pe := g1.pen
      refine ⟨p, L, _, n + 1, rfl, gL.pen, by omega, SqL.of upd_same, new_ne (pe.same z9) nL, (by show 0 < 11; decide), (by show 11 ≤ 1000; decide), fun H3 k v b3 hP3 hk => ?_⟩
      have g3 := gL.but b3 hP3
      have c : ∀ {t : Addr} {o : HO}, t ≠ p → (upd (upd (upd (upd (upd (upd (upd (upd (upd (upd H2 t1 (HO.tup [])) t2 (HO.dK [])) t3 (HO.lst [V.non])) t4 (HO.lst [])) t5 (HO.lst [V.ref t4])) t6 (HO.tup [V.int 0, .int 0])) t7 (HO.lst [V.ref t6])) t8 (HO.lst [x])) t9 (HO.lst [V.ref t8])) L (HO.lst [V.non, .bl true, .int 7, .str "", .ref t1, .ref t2, .ref t3, .ref t5, .ref t7, .ref t9, x])) t = some o → H3 t = some o := fun n e => b3 _ _ n e
      have c1 := c (new_ne pe n1) (y2 _ _ upd_same)
      have c2 := c (new_ne (pe.same z1) n2) (y3 _ _ upd_same)
      have c3 := c (new_ne (pe.same z2) n3) (y4 _ _ upd_same)
      have c4 := c (new_ne (pe.same z3) n4) (y5 _ _ upd_same)
      have c5 := c (new_ne (pe.same z4) n5) (y6 _ _ upd_same)
      have c6 := c (new_ne (pe.same z5) n6) (y7 _ _ upd_same)
      have c7 := c (new_ne (pe.same z6) n7) (y8 _ _ upd_same)
      have c8 := c (new_ne (pe.same z7) n8) (y9 _ _ upd_same)
      have c9 := c (new_ne (pe.same z8) n9) (xL _ _ upd_same)
      have rx := (hx.go g3.1).rp
      have al : RpAll K H3 [.non, .bl true, .int 7, .str "", .ref t1, .ref t2, .ref t3, .ref t5, .ref t7, .ref t9, x] (thingsL d1) :=
        .cons .non (.cons (.bl _) (.cons (.int 7) (.cons (.str _ (room (by show 0 ≤ _; omega))) (.cons (.tup (SqT.of c1) .nil) (.cons (.dct c2) (.cons (.lst (SqL.of c3) (.cons .non .nil)) (.cons (.lst (SqL.of c5) (.cons (.lst (SqL.of c4) .nil) .nil)) (.cons (.lst (SqL.of c7) (.cons (.tup (SqT.of c6) (.cons (.int 0) (.cons (.int 0) .nil))) .nil)) (.cons (.lst (SqL.of c9) (.cons (.lst (SqL.of c8) (.cons rx .nil)) .nil)) (.cons rx .nil))))))))))
      obtain ⟨dt, hdt, rdt⟩ := al.at hk
      exact ⟨v, dt, rfl, g3.mono (by omega), rdt, List.mem_of_getElem? hdt⟩
    clear g1
    rintro σ H3 ⟨tv, dt, rfl, g3, rt, mt⟩
    have done : ∀ {H4 : Hp}, Same H3 H4 → Q (.bl true) H4 := fun s => q _ (g3.same s).1 ((g3.same s).pen.mono (by omega)) (g3.same s).2.2
    refine ⟨_, rfl, rfl, _, rfl, ?_⟩
    by_cases e : wd = "fine"
    · rw [e, decide_eq_true rfl]
      refine iteF ?_
      obtain ⟨b, z, s, ed, dd, dw⟩ := hfine e
      have none := things_no (b := b) (z := z) (s := s) ed dd dw dt mt
      rw [e] at hw
      have rx := (hx.go g3.1).rp
      have ry := (hy.go g3.1).rp
      have rr := (hr3.go g3.1).rp
      refine ⟨_, rfl, _, rfl, _, rfl, _, rfl, x, y, r, tv, d1, d2, d3, dt, rfl, rx, ry, rr, rt, none.sl, none.bd, hw.con (fun z => absurd z (by decide)) (fun z => absurd z (by decide)) (fun z => absurd z (by decide)) fun _ C few _ => ⟨few, fun H4 s4 => ?_⟩⟩
      rw [none.nv C]
      refine ⟨_, rfl, _, rfl, iteT ?_⟩
      refine ⟨_, rfl, _, rfl, _, rfl, _, rfl, x, y, r, tv, d1, d2, d3, dt, rfl, rx.go s4, ry.go s4, rr.go s4, rt.go s4, none.ls, hw.con (fun z => absurd z (by decide)) (fun z => absurd z (by decide)) (fun z => absurd z (by decide)) fun _ C _ _ H5 s5 => ?_⟩
      rw [none.sh C]
      exact ⟨_, rfl, done (s4.trans s5)⟩
    · rw [decide_eq_false (fun z => e (by injection z))]
      exact iteT (done (Same.refl _))
end
end My
/-! ### one thing, again and again -/
namespace My
open PySem PySem.Spec PyProof.Rows L2 PySem.Builtin.Str
theorem flat_one (x : V) : ∀ n, (List.replicate n [x]).flatten = List.replicate n x
  | 0 => rfl
  | n + 1 => by
    rw [List.replicate_succ, List.flatten_cons, flat_one x n, List.replicate_succ]
    rfl
theorem rep_one {K : PySem.W.Frag} {H : Hp} {l : Addr} {x : V} {k : Nat} {Q : VK} (hS : SqT K H l [x]) (k1 : k ≤ 1000) (q : ∀ r H', Same H H' → SqT K H' r (List.replicate k x) → Q (.ref r) H') : rRepTa K (.ref l) (.int (k : Int)) H Q := by
  refine ⟨l, k, [x], rfl, rfl, hS, by simp, by omega, by omega, by simp, fun e => ?_, fun p hp => ?_⟩
  · have : k = 1 := by omega
    subst this
    exact q l H (Same.refl H) hS
  · refine q p _ (same_upd hp) ?_
    rw [Int.toNat_natCast, flat_one]
    exact SqT.of upd_same
theorem rep_oneC {K : PySem.W.Frag} {H : Hp} {l : Addr} {x : V} {σ : L2.St} {k : Nat} {i : Int} {Q : VK} (hS : SqT K H l [x]) (e : i = (k : Int)) (k1 : k ≤ 1000) (q : ∀ r H', Same H H' → SqT K H' r (List.replicate k x) → Q (.ref r) H') : tC (.int i) σ H (fun y H2 => rRepTa K (.ref l) y H2 Q) := by
  subst e
  exact rep_one hS k1 q
theorem rpAll_rep {K : PySem.W.Frag} {H : Hp} {v : V} {d : PyData} (h : Rp K H v d) : ∀ n, RpAll K H (List.replicate n v) (List.replicate n d)
  | 0 => .nil
  | n + 1 => .cons h (rpAll_rep h n)
end My
/-! ### the free rule -/
namespace My
open PySem PySem.Spec PyProof.Rows L2 PySem.Builtin.Str
abbrev sXFreeB : Stmt := topS 67
theorem scXFreeB : FnScope ["letters"] ["letters"] (defScope sXFreeB) := ⟨rfl, rfl, rfl, by decide +kernel, rfl, by decide +kernel, by decide +kernel⟩
structure FrTxt (K : PySem.W.Frag) (mg : Str → Option Value) (xf : Addr) (yf : FuncData) : Prop where
  len : mg "len" = none
  FXFreeB : Fun K "_law_x_free" "_law_x_free" sXFreeB xf yf
  bXFreeB : Binds K yf ["letters"] []
  gXFreeB : mg "_law_x_free" = some (.ref xf)
def freeD (z : Str) : PyData := .tuple [.str z, .tuple [.tuple (List.replicate z.length (.int 0))]]
def spFree (K : PySem.W.Frag) : Sp := fun vs H Q _ => ∃ z : Str, vs = [.str z] ∧ 1 ≤ z.length ∧ z.length ≤ 3 ∧ ∀ H' t, Same H H' → H t = none → Rp K H' (.ref t) (freeD z) → Q (.ref t) H'
section
variable {P : Program} {w : World} {K : PySem.W.Frag} {mg : Str → Option Value} {base : Heap} {xf : Addr} {yf : FuncData}
theorem ok_free (T : FrTxt K mg xf yf) {k : Nat} : FnOk P w K mg base CX0 (k + 1) xf yf ["letters"] (spFree K) := by
  refine T.FXFreeB.ok scXFreeB (fun vs H Q E h => ?_) (fun cdv A outer s H vs Q E hr h => ?_)
  · obtain ⟨z, rfl, _⟩ := h
    rfl
  · obtain ⟨z, rfl, l1, l2, q⟩ := h
    refine ⟨_, (pss_one (ps_ret (pe_tup (pa_cons (pv 0) (pa_cons (pe_tup (pa_cons (pe_op op_repTa (pe_tup (pa_cons pe_int pa_nil)) (pe_callB call_len_str (by rfl) T.len PySem.boot_len (pa_cons (pv 0) pa_nil))) pa_nil)) pa_nil))))), ?_⟩
    have room : ∀ {m : Nat}, m ≤ 1000 → m ≤ sizeLine := fun h => Nat.le_trans h (by decide)
    refine ⟨_, rfl, room (by show 1 ≤ _; omega), fun t1 h1 => ?_⟩
    have x1 := same_upd (o := HO.tup [V.int 0]) h1
    refine ⟨_, rfl, z, rfl, room (by omega), rep_one (K := K) (SqT.of upd_same) (by omega) fun c H2 s2 hc => ?_⟩
    refine ⟨room (by show 1 ≤ _; omega), fun b hb => ⟨room (by show 2 ≤ _; omega), fun t ht => ?_⟩⟩
    have xb := same_upd (o := HO.tup [V.ref c]) hb
    have xt := same_upd (o := HO.tup [V.str z, .ref b]) ht
    refine q _ t (x1.trans (s2.trans (xb.trans xt))) ((x1.trans (s2.trans xb)).free ht) ?_
    exact .tup (SqT.of upd_same) (.cons (.str z (room (by omega))) (.cons (.tup (SqT.of (xt _ _ upd_same)) (.cons (.tup (same_tup (xb.trans xt) hc) (rpAll_rep (.int 0) _)) .nil)) .nil))
end
end My
/-! ### asked: too many standings -/
namespace My
open PySem PySem.Spec PyProof.Rows L2 PySem.Builtin.Str
abbrev sGreat : Stmt := topS 70
theorem scGreat : FnScope ["pen", "most", "words", "none", "one", "rule"] ["pen"] (defScope sGreat) := ⟨rfl, rfl, rfl, by decide +kernel, rfl, by decide +kernel, by decide +kernel⟩
def qGreat : Str := (envOfC "_law_x_great_right" (defScope sGreat) 0 0 .none).qual ++ "<lambda>"
structure GreatTxt (K : PySem.W.Frag) (mg : Str → Option Value) (xf : Addr) (yf : FuncData) (x9 : Addr) (y9 : FuncData) : Prop where
  fr : FrTxt K mg xf yf
  FGreat : Fun K "_law_x_great_right" "_law_x_great_right" sGreat x9 y9
  bGreat : Binds K y9 ["pen"] []
  gGreat : mg "_law_x_great_right" = some (.ref x9)
theorem ts_ext {K : PySem.W.Frag} {H H' : Hp} (b : LamX.ExtN H H') : TStay K H H' := fun a xs e => by
  rcases e with (e | ⟨u, e⟩) | e
  · exact .inl (.inl (b _ _ e (fun _ z => nomatch z)))
  · exact .inl (.inr ⟨u, b _ _ e (fun _ z => nomatch z)⟩)
  · exact .inr e
theorem rp_ext {K : PySem.W.Frag} {H H' : Hp} {v : V} {d : PyData} (s : LamX.ExtN H H') (h : Rp K H v d) (t : tO d = true) : Rp K H' v d := rp_ts (ts_ext s) h t
theorem tl_d {C0 C1 C2 C3 C4 C5 C6 C7 C8 C9 C10 C11 : Addr} {H : Hp} {x y r : V} {Q : VK} {sp : Sp} {σ : L2.St} {i j k : Nat} (h1 : σ[i]? = some (some x)) (h2 : σ[j]? = some (some y)) (h3 : σ[k]? = some (some r)) (h : sp [x, y, r, .int 2000] H (wQ Q) (wX C0 C1 C2 C3 C4 C5 C6 C7 C8 C9 C10 C11 Q)) : TTword [C0, C1, C2, C3, C4, C5, C6, C7, C8, C9, C10, C11] (fun E H' Q' => tCall sp [V.int 2000] E (tCons (tVar i) (tCons (tVar j) (tCons (tVar k) tNil))) σ H' Q') H Q :=
  ⟨x, h1, y, h2, r, h3, h⟩
theorem grt_mok {m : Int} (h0 : 0 ≤ m) (h1 : m ≤ 2000000) : Mok (grtM m) := by
  have w : (2000000 : Int) ≤ wideN := by decide +kernel
  refine ⟨by show (2 : Int) ≤ 2; decide, by show (2 : Int) ≤ 9; decide, by show lettersL ("abc" : Str).cps.toList = true; decide +kernel, by show 1 ≤ 1; decide, by show 1 ≤ 300; decide, fun cs hcs => ?_, fun cs hcs ps hps => ?_, fun cs hcs ps hps p hp => ?_, .inl (by show 1 ≤ 4; decide)⟩
  · rw [List.mem_singleton.mp hcs]
    rfl
  · rw [List.mem_singleton.mp hcs] at hps
    simp only [List.mem_cons, List.not_mem_nil, or_false] at hps
    rcases hps with rfl | rfl | rfl <;> exact ⟨by show 1 ≤ 1; decide, by show 1 ≤ 3; decide⟩
  · rw [List.mem_singleton.mp hcs] at hps
    have l : ((grtM m).C.length : Int) - 1 = 0 := rfl
    rw [l]
    simp only [List.mem_cons, List.not_mem_nil, or_false] at hps
    rcases hps with rfl | rfl | rfl
    · rw [List.mem_singleton.mp hp]
      exact ⟨by show -wideN ≤ -m; omega, by show -m ≤ wideN; omega, Int.le_refl _, Int.le_refl _⟩
    · rw [List.mem_singleton.mp hp]
      exact ⟨by show -wideN ≤ 1; omega, by show (1 : Int) ≤ wideN; omega, Int.le_refl _, Int.le_refl _⟩
    · rw [List.mem_singleton.mp hp]
      exact ⟨by show -wideN ≤ 0; omega, by show (0 : Int) ≤ wideN; omega, Int.le_refl _, Int.le_refl _⟩
theorem grt_one {m : Int} : ∀ cs ∈ (grtM m).C, ∀ ps ∈ cs, ps.length = 1 := fun cs hcs ps hps => by
  rw [List.mem_singleton.mp hcs] at hps
  simp only [List.mem_cons, List.not_mem_nil, or_false] at hps
  rcases hps with rfl | rfl | rfl <;> rfl
theorem grt_side {m : Int} (h0 : 0 ≤ m) (h1 : m ≤ 2000000) : Side (fM (grtM m)) (grtM m) := by
  have w : (2000000 : Int) ≤ (10 : Int) ^ (30 : Int).toNat := by decide +kernel
  refine ⟨⟨grt_mok h0 h1, by show 1 ≤ 130; decide⟩, .inr ⟨rfl, rfl, ?_, rfl, grt_one⟩⟩
  show (frmD 300 (fM (grtM m)) && ([pairD ((10 : Int) ^ (30 : Int).toNat) 1 (eP (-m, 0)), pairD ((10 : Int) ^ (30 : Int).toNat) 1 (eP (1, 0)), pairD ((10 : Int) ^ (30 : Int).toNat) 1 (eP (0, 0))] : List Bool).all id) = true
  have e0 : frmD 300 (fM (grtM m)) = true := rfl
  have e1 : pairD ((10 : Int) ^ (30 : Int).toNat) 1 (eP (-m, 0)) = true := by
    show ((decide (-((10 : Int) ^ (30 : Int).toNat) ≤ -m) && decide (-m ≤ (10 : Int) ^ (30 : Int).toNat)) && betD 0 (1 - 1) (.int 0)) = true
    rw [decide_eq_true (by omega), decide_eq_true (by omega)]
    decide
  have e2 : pairD ((10 : Int) ^ (30 : Int).toNat) 1 (eP (1, 0)) = true := by decide +kernel
  have e3 : pairD ((10 : Int) ^ (30 : Int).toNat) 1 (eP (0, 0)) = true := by decide +kernel
  rw [e0, e1, e2, e3]
  rfl
theorem grt_sideN : Side (fM grtN) grtN := by
  have w : (0 : Int) ≤ wideN := by decide +kernel
  refine ⟨⟨⟨by decide, by decide, by decide +kernel, by decide, by decide, by decide, by decide, fun cs hcs ps hps p hp => ?_, .inl (by decide)⟩, by decide⟩, .inr ⟨rfl, by decide +kernel, by decide +kernel, rfl, by decide⟩⟩
  have e : p = (0, 0) := by
    rw [List.mem_singleton.mp hcs] at hps
    simp only [List.mem_cons, List.not_mem_nil, or_false, or_self] at hps
    rw [hps] at hp
    exact List.mem_singleton.mp hp
  rw [e]
  exact ⟨by show -wideN ≤ 0; omega, w, Int.le_refl _, Int.le_refl _⟩
theorem grt_cok {m : Int} (h0 : 0 ≤ m) (h1 : m ≤ 2000000) : Cok (grtC m) := ⟨grt_mok h0 h1, grt_sideN.1.ok, rfl, rfl, by show 1 ≤ 1; decide, by show 1 ≤ 4; decide, fun r hr => by
  rw [List.mem_singleton.mp hr]
  refine ⟨rfl, ⟨some 0, .head _, fun z => nomatch z⟩, fun i hi => ?_⟩
  simp only [List.mem_cons, List.not_mem_nil, or_false, or_self, Option.some.injEq] at hi
  rw [hi]
  exact ⟨Int.le_refl _, by show (0 : Int) < 1; decide⟩⟩
theorem grt_nv {m : Int} (hm : 10000 ≤ m) : nvB (grtC m) (.list [eSg FIRSTg]) = false := nvB_false fun ⟨ts, e, o⟩ => by
  injection e with e
  have e2 : [FIRSTg] = ts := eSg_inj (l := [FIRSTg]) e
  have := o.cl FIRSTg o.first 1 (by show 1 < 3; decide) (grtT (2 * (1 + 0))) (by
    rw [grt_first, grt_succ1 (by omega) (Int.le_refl _)]
    exact .head _)
  rw [← e2, List.mem_singleton, grt_first] at this
  have := grt_inj this
  omega
def spGreat (K : PySem.W.Frag) (TT : List (Addr × Str)) : Sp := fun vs H Q _ => ∃ (p : Addr) (n : Nat), vs = [.ref p] ∧ Pen H p n ∧ n < 1044000 ∧ LamX.Tabs TT H ∧ ∀ H' : Hp, Q (.bl true) H'
section
variable {P : Program} {w : World} {K : PySem.W.Frag} {mg : Str → Option Value} {base : Heap} {f1 f2 f3 f4 : Addr} {d1 d2 d3 d4 : FuncData} {m1 m2 m3 m4 m5 m6 m7 m8 m9 m10 m11 m12 : Addr} {n1 n2 n3 n4 n5 n6 n7 n8 n9 n10 n11 n12 : FuncData} {t1 t2 t3 t4 t5 t6 : Tok} {a1 a3 : Addr} {b1 b3 : FuncData} {r1 r2 r3 r4 r5 p1 : Addr} {v1 v2 v3 v4 v5 q1 : FuncData} {mR mW : Addr} {nR nW : FuncData} {g1 g2 g3 g4 g5 : Addr} {e1 e2 e3 e4 e5 : FuncData} {fF p7 p8 : Addr} {q7 q8 : FuncData}
  {h3 h4 : Addr} {k3 k4 : FuncData} {C0 C1 C2 C3 C4 C5 C6 C7 C8 C9 C10 C11 CL : Addr} {fW xf x9 : Addr} {dW yf y9 : FuncData} {cL PT : Addr} {TT : List (Addr × Str)}
theorem ok_great (hcd : y9.code = .ref cL) (TP : PenTxt K mg f1 f2 f3 f4 d1 d2 d3 d4) (TPA : PaTxt K mg m1 m2 m3 m4 m5 m6 m7 m8 m9 m10 m11 m12 n1 n2 n3 n4 n5 n6 n7 n8 n9 n10 n11 n12 t1 t2 t3 t4 t5 t6 C0 a1 a3 b1 b3 r1 r2 r3 r4 r5 p1 v1 v2 v3 v4 v5 q1 C8 C3 C10 mR mW nR nW g1 g2 g3 g4 g5 e1 e2 e3 e4 e5 C9 fF p7 p8 q7 q8)
    (TNV : NvTxt K mg m1 m2 m3 m4 m5 m6 m7 m8 m9 m10 m11 m12 n1 n2 n3 n4 n5 n6 n7 n8 n9 n10 n11 n12 t1 t2 t3 t4 t5 C0 a1 a3 b1 b3 r1 r2 r3 r4 r5 p1 v1 v2 v3 v4 v5 q1 C8 C3 C10 mR mW nR nW g1 g2 g3 g4 g5 e1 e2 e3 e4 e5 C9 fF h3 h4 k3 k4)
    (TE : WordTxt K mg C0 C1 C2 C3 C4 C5 C6 C7 C8 C9 C10 C11 CL) (TW : WT K mg fW dW) (T : GreatTxt K mg xf yf x9 y9) (TB : LamX.TabB base mg cL PT) (hT1 : (PT, qGreat) ∈ TT) (hT2 : ∀ q ∈ TT, q.1 = PT → q.2 = qGreat) : FnG P w K mg base CX0 18 x9 y9 ["pen"] (spGreat K TT) := by
  have GT : FnOk P w K mg base CX0 17 f3 d3 ["pen", "many"] spTake := ok_take TP (k := 15)
  have GF : FnOk P w K mg base CX0 17 xf yf ["letters"] (spFree K) := ok_free T.fr (k := 16)
  have GPA : FnOk P w K mg base (L2.CX P w) 15 p7 q7 ["one", "other", "rule", "limit"] (spParted K C0 C8 C3 C10 C9) := ok_parted TPA (k := 6)
  have GLO : FnOk P w K mg base (L2.CX P w) 15 p8 q8 ["one", "other", "rule", "limit"] (spLevelsOf K C0 C8 C3 C10 C9) := ok_levelsOf TPA (k := 6)
  have GNV7 : FnOk P w K mg base (L2.CX P w) 17 h4 k4 ["one", "other", "rule", "thing"] (spShowsNever K C0 C8 C3) := ok_showsNever TNV (k := 8)
  obtain ⟨dPa, vPa, bPa⟩ := part_binds TPA
  obtain ⟨dLo, vLo, bLo⟩ := lvs_binds TPA
  obtain ⟨ocW, odW, kVW, docW, pmW, anW, cdW, ctW, slW, rfl, lkW, cgW⟩ := TW.FWord.ex
  refine Fun.okGC T.FGreat hcd scGreat (fun vs H Q E h => ?_) (fun A outer s H vs Q E hgd hr h => ?_)
  · obtain ⟨p, n, rfl, _⟩ := h
    rfl
  · obtain ⟨p, n, rfl, hP, hn, hT, q⟩ := h
    have hu4 : (A.deeper (envOfC "_law_x_great_right" (defScope sGreat) s.heap.objs.size x9 (.ref cL))).units + 64 < cLine := by have := hr.un; omega
    refine ⟨_, PSs.nox (Evl.pss_cut (ps_set (i := 1) scGreat.nd rfl (.inl rfl) (pe_op op_add (pe_op op_pow pe_int pe_int) (pe_call GT hr (by rfl) TP.gTake TP.FTake.kp TP.bTake .nil pass0 (pa_cons (pv 0) (pa_cons (pe_op op_pow pe_int pe_int) pa_nil)))))
 (Evl.pss_cut (ps_set (i := 4) scGreat.nd rfl (.inr rfl) (pe_tup (pa_cons pe_int (pa_cons pe_str (pa_cons (pe_tup (pa_cons (pe_tup (pa_cons (pe_tup (pa_cons (pe_un un_neg (pv 1)) (pa_cons pe_int pa_nil))) (pa_cons (pe_tup (pa_cons pe_int (pa_cons pe_int pa_nil))) (pa_cons (pe_tup (pa_cons pe_int (pa_cons pe_int pa_nil))) pa_nil)))) pa_nil)) pa_nil)))))
 (Evl.pss_cut (ps_asg (pe_tup (pa_cons (pe_tup (pa_cons pe_int (pa_cons pe_str (pa_cons (pe_tup (pa_cons (pe_op op_repTa (pe_tup (pa_cons (pe_tup (pa_cons pe_int (pa_cons pe_int pa_nil))) pa_nil)) pe_int) pa_nil)) pa_nil)))) (pa_cons (pe_call GF hr (by rfl) T.fr.gXFreeB T.fr.FXFreeB.kp T.fr.bXFreeB .nil pass0 (pa_cons pe_str pa_nil)) pa_nil))) (pg_tup rfl (pgs_cons (pg_name (i := 3) scGreat.nd rfl (.inr rfl)) (pgs_cons (pg_name (i := 5) scGreat.nd rfl (.inr rfl)) pgs_nil))))
 (Evl.pss_cut (ps_set (i := 2) scGreat.nd rfl (.inl rfl) (pe_lst (pa_cons (LamX.pe_lamcall (T := TT) (a := "act") (by rfl) TW.gWord TW.FWord.kp lkW cgW TW.bWord scWord (by rfl) (.inl rfl) (word_gives TE) TB rfl hT1 hT2 hr (show LamX.LamS (defScope sGreat) _ from LamX.lamS_by (by decide +kernel)) rfl (fun _ _ _ _ _ => rfl) (fun A outer s H E f c1 hr2 => (pe_call GPA hr2 (by rfl) TPA.gParted TPA.FParted.kp bPa vPa (passes_call (takes_of rfl rfl rfl rfl) (fun _ _ _ _ h => h)) (pa_cons (pv 4) (pa_cons (pv 3) (pa_cons (pv 5) pa_nil)))))) pa_nil)))
 (Evl.pss_cut (ps_expr (pe_bm PySem.F.plainAttrs_list PySem.F.slot_list_append PySem.F.type_list_append mt_append (pv 2) (pa_cons (LamX.pe_lamcall (T := TT) (a := "act") (by rfl) TW.gWord TW.FWord.kp lkW cgW TW.bWord scWord (by rfl) (.inl rfl) (word_gives TE) TB rfl hT1 hT2 hr (show LamX.LamS (defScope sGreat) _ from LamX.lamS_by (by decide +kernel)) rfl (fun _ _ _ _ _ => rfl) (fun A outer s H E f c1 hr2 => (pe_call GLO hr2 (by rfl) TPA.gLevelsOf TPA.FLevelsOf.kp bLo vLo (passes_call (takes_of rfl rfl rfl rfl) (fun _ _ _ _ h => h)) (pa_cons (pv 4) (pa_cons (pv 3) (pa_cons (pv 5) pa_nil)))))) pa_nil)))
 (pss_one (ps_ret (pe_and (pe_cmpR (op_eqD hu4) (pv 2) (pe_lst (pa_cons pe_str (pa_cons pe_str pa_nil))) (nomark _)) (pe_one (pe_cmpR op_isBl (pe_call GNV7 hr (by rfl) TNV.gShowsNever TNV.FShowsNever.kp TNV.bShowsNever .nil passL (pa_cons (pv 4) (pa_cons (pv 3) (pa_cons (pv 5) (pa_cons (pe_lst (pa_cons (pe_tup (pa_cons pe_int (pa_cons pe_int (pa_cons (pe_tup (pa_cons (pe_tup (pa_cons pe_int (pa_cons pe_int pa_nil))) pa_nil)) pa_nil)))) pa_nil)) pa_nil))))) pe_bl (nomark _))))))))))), ?_⟩
    have room : ∀ {m : Nat}, m ≤ 1000 → m ≤ sizeLine := fun h => Nat.le_trans h (by decide)
    have roomL : ∀ {m : Nat}, m ≤ 1000 → m < sizeLine := fun h => Nat.lt_of_le_of_lt h (by decide)
    have e4 : ((10 : Int) ^ (4 : Int).toNat) = 10000 := by decide +kernel
    have e6 : ((10 : Int) ^ (6 : Int).toNat) = 1000000 := by decide +kernel
    have cpw : ∀ {j : Int}, j = 4 ∨ j = 6 → CPow 10 j := fun h => by
      rcases h with rfl | rfl <;> exact ⟨by decide, by decide, by decide⟩
    refine ⟨fun σ H' => ∃ m : Int, σ = [some (.ref p), some (.int m), none, none, none, none] ∧ 10000 ≤ m ∧ m ≤ 2000000 ∧ LamX.Tabs TT H', ?_, ?_⟩
    · refine ⟨_, _, rfl, rfl, cpw (.inl rfl), _, rfl, _, _, rfl, rfl, cpw (.inr rfl), p, _, n, rfl, hP, by omega, by rw [e6]; decide, by rw [e6]; decide +kernel, fun H1 k b1 hP1 k0 k1 => ⟨_, _, rfl, rfl, _, rfl, ?_, ?_, tabs_pen hT hP b1⟩⟩
      · rw [e4]
        omega
      · rw [e6] at k1
        rw [e4]
        omega
    clear hT hP
    rintro σ H1 ⟨m, rfl, hm, hm2, hT⟩
    have h0 : 0 ≤ m := by omega
    have za : ("abc" : Str).length ≤ sizeLine := room (by show 3 ≤ _; omega)
    -- one
    refine ⟨fun σ H' => ∃ x : V, σ = [some (.ref p), some (.int m), none, none, some x, none] ∧ LamX.Tabs TT H' ∧ Rp K H' x (fM (grtM m)), ?_, ?_⟩
    · refine ⟨_, rfl, _, rfl, room (by show 2 ≤ _; omega), fun u1 i1 => ⟨room (by show 2 ≤ _; omega), fun u2 i2 => ⟨room (by show 2 ≤ _; omega), fun u3 i3 => ⟨room (by show 3 ≤ _; omega), fun u4 i4 => ⟨room (by show 1 ≤ _; omega), fun u5 i5 => ⟨room (by show 3 ≤ _; omega), fun u6 i6 => ?_⟩⟩⟩⟩⟩⟩
      have x1 := same_upd (o := HO.tup [V.int (-m), .int 0]) i1
      have x2 := same_upd (o := HO.tup [V.int 1, .int 0]) i2
      have x3 := same_upd (o := HO.tup [V.int 0, .int 0]) i3
      have x4 := same_upd (o := HO.tup [V.ref u1, .ref u2, .ref u3]) i4
      have x5 := same_upd (o := HO.tup [V.ref u4]) i5
      have x6 := same_upd (o := HO.tup [V.int 2, .str "abc", .ref u5]) i6
      refine ⟨.ref u6, rfl, tabs_same hT (x1.trans (x2.trans (x3.trans (x4.trans (x5.trans x6))))), ?_⟩
      exact .tup (SqT.of upd_same) (.cons (.int 2) (.cons (.str _ za) (.cons (.tup (SqT.of (x6 _ _ upd_same)) (.cons (.tup (SqT.of ((x5.trans x6) _ _ upd_same)) (.cons (.tup (SqT.of ((x2.trans (x3.trans (x4.trans (x5.trans x6)))) _ _ upd_same)) (.cons (.int _) (.cons (.int 0) .nil))) (.cons (.tup (SqT.of ((x3.trans (x4.trans (x5.trans x6))) _ _ upd_same)) (.cons (.int 1) (.cons (.int 0) .nil))) (.cons (.tup (SqT.of ((x4.trans (x5.trans x6)) _ _ upd_same)) (.cons (.int 0) (.cons (.int 0) .nil))) .nil)))) .nil)) .nil)))
    clear hT
    rintro σ H2 ⟨x, rfl, hT, hx⟩
    -- none, rule
    refine ⟨fun σ H' => ∃ y r : V, σ = [some (.ref p), some (.int m), none, some y, some x, some r] ∧ LamX.Tabs TT H' ∧ Rp K H' x (fM (grtM m)) ∧ Rp K H' y (fM grtN) ∧ Rp K H' r (ruleD (grtC m)), ?_, ?_⟩
    · refine ⟨room (by show 2 ≤ _; omega), fun u1 i1 => ⟨room (by show 1 ≤ _; omega), fun u2 i2 => ?_⟩⟩
      have x1 := same_upd (o := HO.tup [V.int 0, .int 0]) i1
      have x2 := same_upd (o := HO.tup [V.ref u1]) i2
      refine rep_oneC (k := 3) (K := K) (SqT.of upd_same) rfl (by decide) fun c H3 s3 hc => ?_
      refine ⟨room (by show 1 ≤ _; omega), fun u4 i4 => ⟨room (by show 3 ≤ _; omega), fun u5 i5 => ?_⟩⟩
      have x4 := same_upd (o := HO.tup [V.ref c]) i4
      have x5 := same_upd (o := HO.tup [V.int 2, .str "abc", .ref u4]) i5
      refine ⟨"abc", rfl, by decide, by decide, fun H6 rt s6 nrt hrt => ⟨room (by show 2 ≤ _; omega), fun u7 i7 => ?_⟩⟩
      have x7 := same_upd (o := HO.tup [V.ref u5, .ref rt]) i7
      have y5 := x1.trans (x2.trans (s3.trans (x4.trans x5)))
      refine ⟨u7, _, rfl, SqT.of upd_same, rfl, _, _, rfl, _, _, rfl, rfl, .ref u5, .ref rt, rfl, tabs_same hT (y5.trans (s6.trans x7)), hx.go (y5.trans (s6.trans x7)), ?_, hrt.go x7⟩
      refine Rp.go (s6.trans x7) (show Rp K _ (.ref u5) (fM grtN) from .tup (SqT.of upd_same) (.cons (.int 2) (.cons (.str _ za) (.cons (.tup (SqT.of (x5 _ _ upd_same)) (.cons (.tup (same_tup (x4.trans x5) hc) ?_) .nil)) .nil))))
      have r0 : Rp K _ (.ref u1) (.tuple [.int 0, .int 0]) := .tup (SqT.of ((x2.trans (s3.trans (x4.trans x5))) _ _ upd_same)) (.cons (.int 0) (.cons (.int 0) .nil))
      exact .cons r0 (.cons r0 (.cons r0 .nil))
    clear hT hx
    rintro σ H3 ⟨y, r, rfl, hT, hx, hy, hr3⟩
    have lim : ∀ {er : Addr → Prop} {ok : Ct → Nat → Prop}, er C9 → ConR C0 C8 C3 (fM (grtM m)) (fM grtN) (ruleD (grtC m)) er fun C => LimR C (.int 2000) C10 C9 er (ok C) := fun he => conr_mk (grt_cok h0 hm2) (grt_side h0 hm2) grt_sideN (by show rulD (.tuple [.str "abc", .tuple (rowsD [[some 0, some 0, some 0]])]) = true; decide +kernel) (grt_lim hm he)
    -- words
    refine ⟨fun σ H' => ∃ wl : Addr, σ = [some (.ref p), some (.int m), some (.ref wl), some y, some x, some r] ∧ LamX.Tabs TT H' ∧ Rp K H' x (fM (grtM m)) ∧ Rp K H' y (fM grtN) ∧ Rp K H' r (ruleD (grtC m)) ∧ H' wl = some (.lst [.str "great"]), ?_, ?_⟩
    · refine ⟨hT, fun Hb eb tb => tl_d rfl rfl rfl ?_⟩
      have hx' := rp_ext eb hx (show tO (fM (grtM m)) = true from rfl)
      have hy' := rp_ext eb hy (show tO (fM grtN) = true from rfl)
      have hr' := rp_ext eb hr3 (tO_rule _)
      refine ⟨x, y, r, .int 2000, _, _, _, .int 2000, rfl, hx', hy', hr', .int 2000, lim fun H' s' => ⟨9, by decide, rfl, rfl, fun H4 s4 => ?_⟩⟩
      rw [word9]
      have s := s'.trans s4
      refine ⟨room (by show 1 ≤ _; omega), fun wl nwl => ?_⟩
      have xw := same_upd (o := HO.lst [V.str "great"]) nwl
      exact ⟨wl, rfl, tabs_same (tabs_same tb s) xw, (hx'.go s).go xw, (hy'.go s).go xw, (hr'.go s).go xw, upd_same⟩
    clear hT hx hy hr3
    rintro σ H4 ⟨wl, rfl, hT, hx, hy, hr3, hwl⟩
    refine ⟨fun σ H' => σ = [some (.ref p), some (.int m), some (.ref wl), some y, some x, some r] ∧ Rp K H' x (fM (grtM m)) ∧ Rp K H' y (fM grtN) ∧ Rp K H' r (ruleD (grtC m)) ∧ H' wl = some (.lst [.str "great", .str "great"]), ?_, ?_⟩
    · refine ⟨_, rfl, .inl ⟨rfl, _, SqL.of hwl⟩, hT, fun Hb eb tb => tl_d rfl rfl rfl ?_⟩
      have hx' := rp_ext eb hx (show tO (fM (grtM m)) = true from rfl)
      have hy' := rp_ext eb hy (show tO (fM grtN) = true from rfl)
      have hr' := rp_ext eb hr3 (tO_rule _)
      refine ⟨x, y, r, .int 2000, _, _, _, .int 2000, rfl, hx', hy', hr', .int 2000, lim fun H' s' => ⟨9, by decide, rfl, rfl, fun H5 s5 => ?_⟩⟩
      rw [word9]
      have s := s'.trans s5
      have h5 := s _ _ (eb wl _ hwl (fun _ z => nomatch z))
      have tl : TStay K H5 (upd H5 wl (.lst [.str "great", .str "great"])) := ts_lst h5
      exact ⟨wl, _, _, rfl, rfl, h5, roomL (by show 1 ≤ _; omega), rfl, rp_ts tl (hx'.go s) (show tO (fM (grtM m)) = true from rfl), rp_ts tl (hy'.go s) (show tO (fM grtN) = true from rfl), rp_ts tl (hr'.go s) (tO_rule _), upd_same⟩
    clear hT hx hy hr3 hwl
    rintro σ H5 ⟨rfl, hx, hy, hr3, hwl⟩
    refine ⟨_, rfl, room (by show 2 ≤ _; omega), fun t0 n0 => ?_⟩
    have x0 := same_upd (o := HO.lst [V.str "great", .str "great"]) n0
    have zg : ("great" : Str).length ≤ sizeLine := room (by show 5 ≤ _; omega)
    have rp2 : ∀ {H2 : Hp} {a : Addr}, H2 a = some (.lst [.str "great", .str "great"]) → Rp K H2 (.ref a) (.list [.str "great", .str "great"]) := fun h => .lst (SqL.of h) (.cons (.str _ zg) (.cons (.str _ zg) .nil))
    refine ⟨_, _, (rp2 (x0 _ _ hwl)).dp (by simp [PyData.hasDict, PyData.hasDictAll]), (rp2 upd_same).dp (by simp [PyData.hasDict, PyData.hasDictAll]), by decide +kernel, by decide +kernel, _, rfl, ?_⟩
    rw [show PyData.eqv (.list [.str "great", .str "great"]) (.list [.str "great", .str "great"]) = true by decide +kernel]
    refine iteT ?_
    refine ⟨_, rfl, _, rfl, _, rfl, room (by show 2 ≤ _; omega), fun u1 i1 => ⟨room (by show 1 ≤ _; omega), fun u2 i2 => ⟨room (by show 3 ≤ _; omega), fun u3 i3 => ⟨room (by show 1 ≤ _; omega), fun u4 i4 => ?_⟩⟩⟩⟩
    have y1 := same_upd (o := HO.tup [V.int 0, .int 0]) i1
    have y2 := same_upd (o := HO.tup [V.ref u1]) i2
    have y3 := same_upd (o := HO.tup [V.int 0, .int 0, .ref u2]) i3
    have y4 := same_upd (o := HO.lst [V.ref u3]) i4
    have yy := x0.trans (y1.trans (y2.trans (y3.trans y4)))
    have hth : Rp K _ (.ref u4) (.list [eSg FIRSTg]) := .lst (SqL.of upd_same) (.cons (.tup (SqT.of (y4 _ _ upd_same)) (.cons (.int 0) (.cons (.int 0) (.cons (.tup (SqT.of ((y3.trans y4) _ _ upd_same)) (.cons (.tup (SqT.of ((y2.trans (y3.trans y4)) _ _ upd_same)) (.cons (.int 0) (.cons (.int 0) .nil))) .nil)) .nil)))) .nil)
    refine ⟨x, y, r, .ref u4, _, _, _, .list [eSg FIRSTg], rfl, hx.go yy, hy.go yy, hr3.go yy, hth, fun ds e => ?_, fun ts e t ht => ?_, conr_mk (grt_cok h0 hm2) (grt_side h0 hm2) grt_sideN (by show rulD (.tuple [.str "abc", .tuple (rowsD [[some 0, some 0, some 0]])]) = true; decide +kernel) ⟨by show 1 ≤ 60; decide, fun H6 s6 => ?_⟩⟩
    · injection e with e
      rw [← e]
      show 1 ≤ 100000
      decide
    · injection e with e
      have e2 : [FIRSTg] = ts := eSg_inj (l := [FIRSTg]) e
      rw [← e2] at ht
      rw [List.mem_singleton.mp ht]
      exact (sok_first (grt_cok h0 hm2)).bd
    · rw [grt_nv hm]
      exact ⟨_, _, rfl, rfl, q H6⟩
end
end My
/-! ### which word is due -/
namespace My
open PySem PySem.Spec PyProof.Rows L2 PySem.Builtin.Str
abbrev sXDue : Stmt := topS 69
theorem scXDue : FnScope ["one", "two", "rule", "good", "apart_ones"] ["one", "two", "rule", "good", "apart_ones"] (defScope sXDue) := ⟨rfl, rfl, rfl, by decide +kernel, rfl, by decide +kernel, by decide +kernel⟩
/-- data that can be compared -/
structure Fl (n : Nat) (d : PyData) : Prop where
  lay : d.canLay0 = true
  dp : d.depth ≤ n
structure FlAll (n : Nat) (ds : List PyData) : Prop where
  lay : PyData.canLayAll0 ds = true
  dp : PyData.depthAll ds ≤ n
theorem FlAll.nil {n : Nat} : FlAll n [] := ⟨rfl, by rw [PyData.depthAll]; omega⟩
theorem FlAll.cons {n : Nat} {d : PyData} {ds : List PyData} (h : Fl n d) (t : FlAll n ds) : FlAll n (d :: ds) := ⟨by rw [PyData.canLayAll0, h.lay, t.lay]; rfl, by rw [PyData.depthAll]; have := h.dp; have := t.dp; omega⟩
theorem FlAll.of {n : Nat} : ∀ {ds : List PyData}, (∀ d ∈ ds, Fl n d) → FlAll n ds
  | [], _ => .nil
  | d :: ds, h => .cons (h d (.head _)) (FlAll.of fun e he => h e (.tail _ he))
theorem Fl.tup {n : Nat} {ds : List PyData} (h : FlAll n ds) : Fl (n + 1) (.tuple ds) := ⟨by rw [PyData.canLay0]; exact h.lay, by rw [PyData.depth]; have := h.dp; omega⟩
theorem Fl.lst {n : Nat} {ds : List PyData} (h : FlAll n ds) : Fl (n + 1) (.list ds) := ⟨by rw [PyData.canLay0]; exact h.lay, by rw [PyData.depth]; have := h.dp; omega⟩
theorem Fl.non {n : Nat} : Fl n .none := ⟨rfl, by rw [PyData.depth]; omega⟩
theorem Fl.bl {n : Nat} {b : Bool} : Fl n (.bool b) := ⟨rfl, by rw [PyData.depth]; omega⟩
theorem Fl.int {n : Nat} {i : Int} : Fl n (.int i) := ⟨rfl, by rw [PyData.depth]; omega⟩
theorem Fl.str {n : Nat} {z : Str} (h : PyData.strOk z = true) : Fl n (.str z) := ⟨h, by rw [PyData.depth]; omega⟩
theorem Fl.mono {n m : Nat} {d : PyData} (h : Fl n d) (l : n ≤ m) : Fl m d := ⟨h.lay, Nat.le_trans h.dp l⟩
theorem Fl.shp {n : Nat} {d : PyData} (h : Fl n d) (l : n ≤ 64) : SeqAt.shaped d = true := by
  have := h.dp
  simp only [SeqAt.shaped, Bool.and_eq_true, decide_eq_true_eq]
  exact ⟨h.lay, by omega⟩
theorem Fl.nd {n : Nat} {d : PyData} (h : Fl n d) : d.hasDict = false := PyData.hasDict_of_canLay d h.lay
theorem Fl.self {n : Nat} {d : PyData} (h : Fl n d) : PyData.eqv d d = true := SeqAt.eqv_refl d h.lay
def dueW (d1 d2 d3 g0 g1 g2 : PyData) (aps : List PyData) : Str := if PyData.eqv d1 g0 = false then "machine" else if PyData.eqv d2 g1 = false then (if (aps.any fun z => PyData.eqv z d2) = true then "match" else "machine") else if PyData.eqv d3 g2 = false then "rule" else "fine"
def spDue (K : PySem.W.Frag) : Sp := fun vs H Q _ => ∃ (x y r : V) (g a : Addr) (gs as : List V) (d1 d2 d3 g0 g1 g2 : PyData) (aps : List PyData), vs = [x, y, r, .ref g, .ref a] ∧ Rp K H x d1 ∧ Rp K H y d2 ∧ Rp K H r d3 ∧ H g = some (.lst gs) ∧ RpAll K H gs [g0, g1, g2] ∧ H a = some (.lst as) ∧ RpAll K H as aps ∧ FlAll 20 [d1, d2, d3, g0, g1, g2] ∧ FlAll 20 aps ∧ Q (.str (dueW d1 d2 d3 g0 g1 g2 aps)) H
structure DueTxt (K : PySem.W.Frag) (mg : Str → Option Value) (xd : Addr) (yd : FuncData) : Prop where
  FXDue : Fun K "_law_x_due" "_law_x_due" sXDue xd yd
  bXDue : Binds K yd ["one", "two", "rule", "good", "apart_ones"] []
  gXDue : mg "_law_x_due" = some (.ref xd)
theorem FlAll.at {n : Nat} {d : PyData} {ds : List PyData} (h : FlAll n (d :: ds)) : Fl n d ∧ FlAll n ds := by
  have l := h.lay
  have p := h.dp
  rw [PyData.canLayAll0, Bool.and_eq_true] at l
  rw [PyData.depthAll] at p
  exact ⟨⟨l.1, by omega⟩, ⟨l.2, by omega⟩⟩
section
variable {P : Program} {w : World} {K : PySem.W.Frag} {mg : Str → Option Value} {base : Heap} {xd : Addr} {yd : FuncData}
theorem ok_due (T : DueTxt K mg xd yd) {k : Nat} : FnOk P w K mg base CX0 (k + 1) xd yd ["one", "two", "rule", "good", "apart_ones"] (spDue K) := by
  refine T.FXDue.ok scXDue (fun vs H Q E h => ?_) (fun cdv A outer s H vs Q E hr h => ?_)
  · obtain ⟨x, y, r, g, a, gs, as, d1, d2, d3, g0, g1, g2, aps, rfl, _⟩ := h
    rfl
  · obtain ⟨x, y, r, g, a, gs, as, d1, d2, d3, g0, g1, g2, aps, rfl, hx, hy, hrr, hg, hgs, ha, has, fl, fa, q⟩ := h
    have hu : (A.deeper (envOfC "_law_x_due" (defScope sXDue) s.heap.objs.size xd cdv)).units + 64 < cLine := by have := hr.un; omega
    have hu65 : (A.deeper (envOfC "_law_x_due" (defScope sXDue) s.heap.objs.size xd cdv)).units + 65 < cLine := by have := hr.un; omega
    refine ⟨_, (pss_cons (ps_if (pt_cmpR (op_neD hu) (pv 0) (pe_ix ix_list (pv 3) pe_int (fun _ _ => rfl)) (nomark _)) (pss_one (ps_ret pe_str)) pss_nil)
 (pss_cons (ps_if (pt_cmpR (op_neD hu) (pv 1) (pe_ix ix_list (pv 3) pe_int (fun _ _ => rfl)) (nomark _)) (pss_one (ps_ret (pe_ifExp (pt_cmpR (op_inDK (K := K) rfl hu65) (pv 1) (pv 4) (by rfl)) pe_str pe_str))) pss_nil)
 (pss_one (ps_ret (pe_ifExp (pt_cmpR (op_neD hu) (pv 2) (pe_ix ix_list (pv 3) pe_int (fun _ _ => rfl)) (nomark _)) pe_str pe_str))))), ?_⟩
    obtain ⟨f1, fl⟩ := fl.at
    obtain ⟨f2, fl⟩ := fl.at
    obtain ⟨f3, fl⟩ := fl.at
    obtain ⟨f4, fl⟩ := fl.at
    obtain ⟨f5, fl⟩ := fl.at
    obtain ⟨f6, _⟩ := fl.at
    cases hgs with
    | cons ra hgs =>
    cases hgs with
    | cons rb hgs =>
    cases hgs with
    | cons rc hgs =>
    cases hgs
    have sh : ∀ {d : PyData}, Fl 20 d → SeqAt.shaped d = true := fun h => h.shp (by decide)
    have q0 := q
    refine ⟨_, rfl, _, rfl, g, _, 0, _, rfl, rfl, SqL.of hg, atI_nat (j := 0) rfl, d1, g0, hx.dp f1.nd, ra.dp f4.nd, sh f1, sh f4, _, rfl, ite2 (fun e => ?_) (fun e => ?_)⟩
    · have e := (Bool.not_eq_true' _).mp e
      unfold dueW at q
      rw [if_pos e] at q
      exact q
    have e1 : ¬ PyData.eqv d1 g0 = false := fun z => e ((Bool.not_eq_true' _).mpr z)
    refine ⟨_, rfl, _, rfl, g, _, 1, _, rfl, rfl, SqL.of hg, atI_nat (j := 1) rfl, d2, g1, hy.dp f2.nd, rb.dp f5.nd, sh f2, sh f5, _, rfl, ite2 (fun e => ?_) (fun e => ?_)⟩
    · have e := (Bool.not_eq_true' _).mp e
      unfold dueW at q
      rw [if_neg e1, if_pos e] at q
      have fap : Fl 21 (.list aps) := .lst fa
      refine ⟨_, rfl, _, rfl, d2, aps, hy.dp f2.nd, (Rp.lst (SqL.of ha) has).dp fap.nd, sh f2, fap.shp (by decide), _, rfl, ite2 (fun e2 => ?_) (fun e2 => ?_)⟩
      · rw [if_pos e2] at q
        exact q
      · rw [if_neg e2] at q
        exact q
    have e2 : ¬ PyData.eqv d2 g1 = false := fun z => e ((Bool.not_eq_true' _).mpr z)
    refine ⟨_, rfl, _, rfl, g, _, 2, _, rfl, rfl, SqL.of hg, atI_nat (j := 2) rfl, d3, g2, hrr.dp f3.nd, rc.dp f6.nd, sh f3, sh f6, _, rfl, ite2 (fun e => ?_) (fun e => ?_)⟩
    · have e := (Bool.not_eq_true' _).mp e
      unfold dueW at q
      rw [if_neg e1, if_neg e2, if_pos e] at q
      exact q
    · have e3 : ¬ PyData.eqv d3 g2 = false := fun z => e ((Bool.not_eq_true' _).mpr z)
      unfold dueW at q
      rw [if_neg e1, if_neg e2, if_neg e3] at q
      exact q
end
end My
/-! ### what is no machine, no partner, no rule -/
namespace My
open PySem PySem.Spec PyProof.Rows L2 PySem.Builtin.Str
theorem eqv_tri {b b' : Int} {z z' : Str} {S S' : List PyData} : PyData.eqv (.tuple [.int b, .str z, .tuple S]) (.tuple [.int b', .str z', .tuple S']) = ((b == b') && ((z == z') && PyData.eqvAll S S')) := by
  simp [PyData.eqv, PyData.eqvAll]
theorem eqv_b {b b' : Int} {z z' : Str} {S S' : List PyData} (h : b ≠ b') : PyData.eqv (.tuple [.int b, .str z, .tuple S]) (.tuple [.int b', .str z', .tuple S']) = false := by
  rw [eqv_tri, beq_eq_false_iff_ne.mpr h]
  rfl
theorem eqv_z {b b' : Int} {z z' : Str} {S S' : List PyData} (h : z ≠ z') : PyData.eqv (.tuple [.int b, .str z, .tuple S]) (.tuple [.int b', .str z', .tuple S']) = false := by
  rw [eqv_tri, beq_eq_false_iff_ne.mpr h, Bool.false_and, Bool.and_false]
theorem eqv_s {b b' : Int} {z z' : Str} {S S' : List PyData} (h : PyData.eqvAll S S' = false) : PyData.eqv (.tuple [.int b, .str z, .tuple S]) (.tuple [.int b', .str z', .tuple S']) = false := by
  rw [eqv_tri, h, Bool.and_false, Bool.and_false]
theorem fl_eP {n : Nat} (p : Int × Int) : Fl (n + 1) (eP p) := .tup (.cons .int (.cons .int .nil))
theorem fl_map {α : Type} {f : α → PyData} {n : Nat} {l : List α} (h : ∀ x, Fl n (f x)) : FlAll n (l.map f) := .of fun d hd => by
  obtain ⟨x, _, rfl⟩ := List.mem_map.mp hd
  exact h x
theorem fl_eS {n : Nat} (cs : List (List (Int × Int))) : Fl (n + 3) (eS cs) := .tup (fl_map fun ps => .tup (fl_map fun p => fl_eP p))
theorem fl_fS {n : Nat} (cs : List (List (Int × Int))) : Fl (n + 3) (fS cs) := .tup (fl_map fun ps => by
  cases ps with
  | nil => exact .tup (.cons .int (.cons .int .nil))
  | cons p ps => exact .tup (.cons .int (.cons .int .nil)))
theorem fl_stD {n : Nat} (x : Option Int) : Fl n (stD x) := by
  cases x with
  | none => exact .non
  | some i => exact .int
theorem fl_rows {n : Nat} (R : List (List (Option Int))) : FlAll (n + 1) (rowsD R) := fl_map fun r => .tup (fl_map fl_stD)
theorem fl_eM {n : Nat} {M : Mc} (h : Mok M) : Fl (n + 5) (eM M) := .tup (.cons .int (.cons (.str (strOk_of h.ltr)) (.cons (.tup (fl_map fl_eS)) .nil)))
theorem fl_fM {n : Nat} {M : Mc} (h : Mok M) : Fl (n + 5) (fM M) := .tup (.cons .int (.cons (.str (strOk_of h.ltr)) (.cons (.tup (fl_map fl_fS)) .nil)))
theorem frm_b {b m : Int} {l s : PyData} (h : betD 2 9 (.int b) = false) : frmD m (.tuple [.int b, l, s]) = false := by
  show (betD 2 9 (.int b) && (ltrD l && tabD (lenD l) m s)) = false
  rw [h]
  rfl
theorem frm_l {b l s : PyData} {m : Int} (h : ltrD l = false) : frmD m (.tuple [b, l, s]) = false := by
  show (betD 2 9 b && (ltrD l && tabD (lenD l) m s)) = false
  rw [h, Bool.false_and, Bool.and_false]
theorem frm_s {b l s : PyData} {m : Int} (h : tabD (lenD l) m s = false) : frmD m (.tuple [b, l, s]) = false := by
  show (betD 2 9 b && (ltrD l && tabD (lenD l) m s)) = false
  rw [h, Bool.and_false, Bool.and_false]
theorem mch_f {b l : PyData} {ss : List PyData} (h : ∀ m, frmD m (.tuple [b, l, .tuple ss]) = false) : mchD (.tuple [b, l, .tuple ss]) = false ∧ plnD (.tuple [b, l, .tuple ss]) = false := by
  refine ⟨?_, ?_⟩
  · show (frmD 4 (.tuple [b, l, .tuple ss]) && _) = false
    rw [h]
    rfl
  · show (frmD 300 (.tuple [b, l, .tuple ss]) && _) = false
    rw [h]
    rfl
/-- no machine, and not g -/
structure NoMa (g e : PyData) : Prop where
  fl : Fl 12 e
  m : mchD e = false
  p : plnD e = false
  ne : PyData.eqv e g = false
def bad0L (M : Mc) (R : PyData) : List PyData := [.none, .tuple [], .list [.int M.b, .str M.z, .tuple (M.C.map eS)], .tuple [.int M.b, .str M.z], .tuple [.int 1, .str M.z, .tuple (M.C.map eS)], .tuple [.int M.b, .str M.z, .tuple []], R, .str "machine"]
theorem tab_nil {n : Nat} {m : Int} : tabD n m (.tuple []) = false := rfl
theorem states_ne {α : Type} {f : α → PyData} {l : List α} (h : 1 ≤ l.length) : PyData.eqvAll [] (l.map f) = false ∧ PyData.eqvAll (l.map f) [] = false := by
  cases l with
  | nil => exact absurd h (by show ¬ 1 ≤ 0; decide)
  | cons a l => exact ⟨rfl, rfl⟩
theorem bad0_all {M : Mc} {z : Str} {R : List (List (Option Int))} (h : Mok M) (hz : lettersL z.cps.toList = true) : ∀ e ∈ bad0L M (.tuple [.str z, .tuple (rowsD R)]), NoMa (eM M) e := by
  have sz := strOk_of h.ltr
  intro e he
  simp only [bad0L, List.mem_cons, List.not_mem_nil, or_false] at he
  rcases he with rfl | rfl | rfl | rfl | rfl | rfl | rfl | rfl
  · exact ⟨.non, rfl, rfl, rfl⟩
  · exact ⟨.tup .nil, rfl, rfl, rfl⟩
  · exact ⟨.lst (.cons .int (.cons (.str sz) (.cons (.tup (fl_map fl_eS)) .nil))), rfl, rfl, rfl⟩
  · exact ⟨.tup (.cons .int (.cons (.str sz) .nil)), rfl, rfl, by simp [eM, PyData.eqv, PyData.eqvAll]⟩
  · obtain ⟨m, p⟩ := mch_f (ss := M.C.map eS) fun m => frm_b (b := 1) (l := .str M.z) (m := m) rfl
    exact ⟨.tup (.cons .int (.cons (.str sz) (.cons (.tup (fl_map fl_eS)) .nil))), m, p, eqv_b (by have := h.b2; omega)⟩
  · obtain ⟨m, p⟩ := mch_f (b := .int M.b) (l := .str M.z) (ss := []) fun m => frm_s tab_nil
    exact ⟨.tup (.cons .int (.cons (.str sz) (.cons (.tup .nil) .nil))), m, p, eqv_s (states_ne h.c1).1⟩
  · exact ⟨.tup (.cons (.str (strOk_of hz)) (.cons (.tup (fl_rows R)) .nil)), rfl, rfl, rfl⟩
  · exact ⟨.str (by decide +kernel), rfl, rfl, rfl⟩
/-- the last letter once more -/
def dblS (z : Str) : Str := cutS z none (some (-1)) ++ Txt.mul (cutS z (some (-1)) none) 2
theorem dbl_ok {z : Str} (h : lettersL z.cps.toList = true) : lettersL (dblS z).cps.toList = false ∧ PyData.strOk (dblS z) = true ∧ (dblS z).length = z.length + 1 ∧ 2 ≤ (dblS z).length ∧ (dblS z).length ≤ 4 := by
  obtain ⟨⟨l⟩⟩ := z
  have sm := letters_small h
  match l, h, sm with
  | [a], h, sm =>
    have e : dblS ⟨⟨[a]⟩⟩ = ⟨⟨[a, a]⟩⟩ := rfl
    have ha := sm a (.head _)
    rw [e]
    refine ⟨?_, ?_, rfl, by show 2 ≤ 2; decide, by show 2 ≤ 4; decide⟩
    · simp [lettersL]
    · simp only [PyData.strOk, List.all_toArray, List.all_cons, List.all_nil, Bool.and_true, Bool.and_eq_true, decide_eq_true_eq]
      omega
  | [a, b], h, sm =>
    have e : dblS ⟨⟨[a, b]⟩⟩ = ⟨⟨[a, b, b]⟩⟩ := rfl
    have ha := sm a (.head _)
    have hb := sm b (.tail _ (.head _))
    rw [e]
    refine ⟨?_, ?_, rfl, by show 2 ≤ 3; decide, by show 3 ≤ 4; decide⟩
    · simp [lettersL]
    · simp only [PyData.strOk, List.all_toArray, List.all_cons, List.all_nil, Bool.and_true, Bool.and_eq_true, decide_eq_true_eq]
      omega
  | [a, b, c], h, sm =>
    have e : dblS ⟨⟨[a, b, c]⟩⟩ = ⟨⟨[a, b, c, c]⟩⟩ := rfl
    have ha := sm a (.head _)
    have hb := sm b (.tail _ (.head _))
    have hc := sm c (.tail _ (.tail _ (.head _)))
    rw [e]
    refine ⟨?_, ?_, rfl, by show 2 ≤ 4; decide, by show 4 ≤ 4; decide⟩
    · simp [lettersL]
    · simp only [PyData.strOk, List.all_toArray, List.all_cons, List.all_nil, Bool.and_true, Bool.and_eq_true, decide_eq_true_eq]
      omega
def apsL (N N1 N2 : Mc) : List PyData := [fM ⟨N.b + 1, N.z, N.C⟩, fM N1, eM N2]
def bad1L (N N1 N2 : Mc) : List PyData := apsL N N1 N2 ++ apsL N N1 N2 ++ [.none, .list [], .tuple [.bool true, .str N.z, .tuple (N.C.map fS)], .tuple [.int N.b, .str "", .tuple []], .list [.int N.b, .str N.z, .tuple (N.C.map fS)]] ++ [.tuple [.int N.b, .str (dblS N.z), .tuple (N.C.map fS)]]
structure Bad1 (N : Mc) (aps : List PyData) (e : PyData) : Prop where
  fl : Fl 12 e
  ne : PyData.eqv e (fM N) = false
  or : ((aps.any fun z => PyData.eqv z e) = true ∧ ∃ N', Frame e N' ∧ ¬ (N.b = N'.b ∧ N.z = N'.z)) ∨ ((aps.any fun z => PyData.eqv z e) = false ∧ mchD e = false ∧ plnD e = false)
theorem side_frame {d : PyData} {M : Mc} (h : Side d M) : Frame d M := ⟨h.1.ok, h.2.elim (fun h => .inl ⟨h.2, h.1⟩) fun h => .inr ⟨h.2.1, h.2.2.1, h.2.2.2.1⟩⟩
theorem fM_tri {M : Mc} : fM M = .tuple [.int M.b, .str M.z, .tuple (M.C.map fS)] := rfl
theorem mok_b {M : Mc} {b : Int} (h : Mok M) (h2 : 2 ≤ b) (h9 : b ≤ 9) : Mok ⟨b, M.z, M.C⟩ := ⟨h2, h9, h.ltr, h.c1, h.c3, h.row, h.ch, h.pr, h.few⟩
theorem frame_b {M : Mc} {b : Int} (h : Frame (fM M) M) (h2 : 2 ≤ b) (h9 : b ≤ 9) : Frame (fM ⟨b, M.z, M.C⟩) ⟨b, M.z, M.C⟩ := by
  have e : betD 2 9 (.int b) = true := betD_ok h2 h9
  have e' : betD 2 9 (.int M.b) = true := betD_ok h.1.b2 h.1.b9
  have f : ∀ m, frmD m (fM ⟨b, M.z, M.C⟩) = frmD m (fM M) := fun m => by
    show (betD 2 9 (.int b) && _) = (betD 2 9 (.int M.b) && _)
    rw [e, e']
  have m : mchD (fM ⟨b, M.z, M.C⟩) = mchD (fM M) := by
    show (frmD 4 (fM ⟨b, M.z, M.C⟩) && _) = (frmD 4 (fM M) && _)
    rw [f]
  have p : plnD (fM ⟨b, M.z, M.C⟩) = plnD (fM M) := by
    show (frmD 300 (fM ⟨b, M.z, M.C⟩) && _) = (frmD 300 (fM M) && _)
    rw [f]
  refine ⟨mok_b h.1 h2 h9, ?_⟩
  rcases h.2 with ⟨h1, h3⟩ | ⟨h1, h3, h4⟩
  · refine .inl ⟨m.trans h1, ?_⟩
    unfold fM eM at h3
    injection h3 with h3
    injection h3 with _ h3
    injection h3 with _ h3
    injection h3 with h3 _
    unfold fM eM
    rw [h3]
  · refine .inr ⟨m.trans h1, p.trans h3, ?_⟩
    have w : ∀ x y : Int, withD (.tuple [.int x, .str M.z, .tuple (M.C.map fS)]) = .tuple [.int x, .str M.z, .tuple (M.C.map eS)] → withD (.tuple [.int y, .str M.z, .tuple (M.C.map fS)]) = .tuple [.int y, .str M.z, .tuple (M.C.map eS)] := fun x y hh => by
      unfold withD at hh
      injection hh with hh
      injection hh with _ hh
      injection hh with _ hh
      injection hh with hh _
      exact congrArg (fun t => PyData.tuple [.int y, .str M.z, t]) hh
    exact w _ _ h4
end My
/-! ### a text, again and again -/
namespace My
open PySem PySem.Spec PyProof.Rows L2 PySem.Builtin.Str
theorem op_mulT {X : Cx} : OpR X (binaryOp .Mult) (fun x y H Q => ∃ (z : Str) (n : Int), x = .str z ∧ y = .int n ∧ z.length ≤ 2000 ∧ 0 ≤ n ∧ n ≤ 2000 ∧ Q (.str (Txt.mul z n)) H) := by
  intro pins s σ H x y v u Q I rx ry h
  obtain ⟨z, n, rfl, rfl, hz, h0, h1, q⟩ := h
  obtain ⟨t, rfl⟩ := rx
  obtain ⟨t', rfl⟩ := ry
  refine SB.mul ⟨?_, fun h2 _ => ?_, fun h2 _ => ?_⟩ fun t2 k => ⟨.str _, H, I.tok k, ⟨_, rfl⟩, q⟩
  · rw [Bool.or_eq_false_iff]
    exact ⟨decide_eq_false (by omega), decide_eq_false (by omega)⟩
  · have h3 : (2000 : Int) ≤ (2 ^ 63 - 1) / n := (Int.le_ediv_iff_mul_le (by omega)).mpr (by omega)
    omega
  · have h4 : z.length * n.toNat ≤ 2000 * 2000 := Nat.mul_le_mul hz (by omega)
    exact decide_eq_false (by rw [sizeLine_eq]; omega)
end My
/-! ### tuples of machines -/
namespace My
open PySem PySem.Spec PyProof.Rows L2 PySem.Builtin.Str
theorem tO_fC (ps : List (Int × Int)) : tO (fC ps) = true := tO_eP _
theorem tO_fS (cs : List (List (Int × Int))) : tO (fS cs) = true := by
  rw [fS, tO]
  exact tOs_map tO_fC cs
theorem tO_fM (M : Mc) : tO (fM M) = true := by
  simp only [fM, tO, tOs, Bool.true_and, Bool.and_true]
  exact tOs_map tO_fS M.C
theorem side_tO {d : PyData} {M : Mc} (h : Side d M) : tO d = true := by
  rcases h.2 with ⟨rfl, _⟩ | ⟨rfl, _⟩
  · exact tO_eM M
  · exact tO_fM M
end My
/-! ### data that stays while some lists change -/
namespace My
open PySem PySem.Spec PyProof.Rows L2 PySem.Builtin.Str
/-- tuples stay, and all but what stands at X -/
structure NwX (K : PySem.W.Frag) (X : List Addr) (H H' : Hp) : Prop where
  ts : TStay K H H'
  nw : ∀ b o, b ∉ X → H b = some o → (∀ ps, o ≠ .tbl ps) → H' b = some o
def Rx (K : PySem.W.Frag) (X : List Addr) (H : Hp) (x : V) (d : PyData) : Prop := ∀ H', NwX K X H H' → Rp K H' x d
def RxAll (K : PySem.W.Frag) (X : List Addr) (H : Hp) (xs : List V) (ds : List PyData) : Prop := ∀ H', NwX K X H H' → RpAll K H' xs ds
section
variable {K : PySem.W.Frag} {X : List Addr} {H H1 H2 : Hp} {p g : Addr} {n : Nat} {x : V} {d : PyData} {xs vs us : List V} {ds es : List PyData}
theorem NwX.refl : NwX K X H H := ⟨fun _ _ h => h, fun _ _ _ e _ => e⟩
theorem NwX.trans (a : NwX K X H H1) (b : NwX K X H1 H2) : NwX K X H H2 := ⟨a.ts.trans b.ts, fun c o n e t => b.nw c o n (a.nw c o n e t) t⟩
theorem nwx_same (s : Same H H1) : NwX K X H H1 := ⟨ts_same s, fun b o _ e _ => s b o e⟩
theorem nwx_butN (hP : Pen H p n) (m : p ∈ X) (b : ButN p H H1) : NwX K X H H1 := ⟨ts_butN hP b, fun c o n e t => b c o (fun z => n (by rw [z]; exact m)) e t⟩
theorem nwx_but (hP : Pen H p n) (m : p ∈ X) (b : But p H H1) : NwX K X H H1 := nwx_butN hP m (butN_but b)
theorem nwx_upd {zs : List V} {o : HO} (m : g ∈ X) (hg : H g = some (.lst zs)) : NwX K X H (upd H g o) := ⟨ts_lst hg, fun b u n e _ => by
  rw [upd_ne (fun z => n (by rw [z]; exact m))]
  exact e⟩
theorem Rx.go (h : Rx K X H x d) (b : NwX K X H H1) : Rx K X H1 x d := fun H2 c => h H2 (b.trans c)
theorem RxAll.go (h : RxAll K X H xs ds) (b : NwX K X H H1) : RxAll K X H1 xs ds := fun H2 c => h H2 (b.trans c)
theorem Rx.rp (h : Rx K X H x d) : Rp K H x d := h H NwX.refl
theorem RxAll.rp (h : RxAll K X H xs ds) : RpAll K H xs ds := h H NwX.refl
theorem Rx.rs (h : Rx K X H x d) (hP : Pen H p n) (m : p ∈ X) : Rs p K H x d := fun H2 b => h H2 (nwx_butN hP m b)
theorem RxAll.rs (h : RxAll K X H xs ds) (hP : Pen H p n) (m : p ∈ X) : RsAll p K H xs ds := fun H2 b => h H2 (nwx_butN hP m b)
theorem Rx.fresh (h : Rx K X H x d) (e : H g = none) : Rx K (g :: X) H x d := fun H2 c => h H2 ⟨c.ts, fun b o n eb t => c.nw b o (fun m => by
  rcases List.mem_cons.mp m with z | m
  · rw [z, e] at eb
    cases eb
  · exact n m) eb t⟩
theorem RxAll.fresh (h : RxAll K X H xs ds) (e : H g = none) : RxAll K (g :: X) H xs ds := fun H2 c => h H2 ⟨c.ts, fun b o n eb t => c.nw b o (fun m => by
  rcases List.mem_cons.mp m with z | m
  · rw [z, e] at eb
    cases eb
  · exact n m) eb t⟩
theorem rxNil : RxAll K X H [] [] := fun _ _ => .nil
theorem RxAll.cons (h : Rx K X H x d) (t : RxAll K X H xs ds) : RxAll K X H (x :: xs) (d :: ds) := fun H2 b => .cons (h H2 b) (t H2 b)
theorem RxAll.app (a : RxAll K X H vs ds) (b : RxAll K X H us es) : RxAll K X H (vs ++ us) (ds ++ es) := fun H' h => (a H' h).app (b H' h)
theorem rx_tup {t : Addr} (h : SqT K H t xs) (a : RxAll K X H xs ds) : Rx K X H (.ref t) (.tuple ds) := fun H2 b => .tup (b.ts _ _ h) (a H2 b)
theorem rx_lst {t : Addr} (n : t ∉ X) (h : H t = some (.lst xs)) (a : RxAll K X H xs ds) : Rx K X H (.ref t) (.list ds) := fun H2 b => .lst (SqL.of (b.nw _ _ n h (fun _ z => nomatch z))) (a H2 b)
theorem rx_of (h : Rp K H x d) (t : tO d = true) : Rx K X H x d := fun H2 b => rp_ts b.ts h t
theorem rxAll_of (h : RpAll K H xs ds) (t : tOs ds = true) : RxAll K X H xs ds := fun H2 b => rpAll_ts b.ts h t
theorem rx_non : Rx K X H .non .none := fun _ _ => .non
theorem rx_bl (b : Bool) : Rx K X H (.bl b) (.bool b) := fun _ _ => .bl b
theorem rx_int (i : Int) : Rx K X H (.int i) (.int i) := fun _ _ => .int i
theorem rx_str (z : Str) (h : z.length ≤ sizeLine) : Rx K X H (.str z) (.str z) := fun _ _ => .str z h
theorem RxAll.at (h : RxAll K X H vs ds) {i : Nat} {v : V} (e : vs[i]? = some v) : ∃ d, ds[i]? = some d ∧ Rx K X H v d := by
  obtain ⟨d, hd, _⟩ := h.rp.at e
  refine ⟨d, hd, fun H' b => ?_⟩
  obtain ⟨d', hd', r⟩ := (h H' b).at e
  rw [hd] at hd'
  cases hd'
  exact r
end
end My
/-! ### what is no partner, no rule: the lists -/
namespace My
open PySem PySem.Spec PyProof.Rows L2 PySem.Builtin.Str
theorem any3 {N N1 N2 : Mc} {e : PyData} (h0 : PyData.eqv (fM ⟨N.b + 1, N.z, N.C⟩) e = false) (h1 : PyData.eqv (fM N1) e = false) (h2 : PyData.eqv (eM N2) e = false) : ((apsL N N1 N2).any fun z => PyData.eqv z e) = false := by
  simp only [apsL, List.any_cons, List.any_nil, h0, h1, h2, Bool.or_false]
theorem z_ne {z : Str} (h : 1 ≤ z.length) : z ≠ "" := fun e => by
  rw [e] at h
  exact absurd h (by decide)
theorem bad1_all {N N1 N2 : Mc} {o : Nat} (fr : Frame (fM N) N) (hb : N.b ≤ 8) (f1 : Frame (fM N1) N1) (b1 : N1.b = N.b) (z1 : N1.z = ⟨#[o]⟩) (no : o ∉ N.z.cps.toList) (f2 : Frame (eM N2) N2) (b2 : N2.b = 9) : ∀ e ∈ bad1L N N1 N2, Bad1 N (apsL N N1 N2) e := by
  have h := fr.1
  have hb2 := h.b2
  have sz := strOk_of h.ltr
  have nz1 : N1.z ≠ N.z := fun e => by
    rw [z1] at e
    rw [← e] at no
    exact no (.head _)
  have p0 := letters_pos h.ltr
  have p1 := letters_pos f1.1.ltr
  have p2 := letters_pos f2.1.ltr
  have m0 := mok_b (b := N.b + 1) h (by omega) (by omega)
  obtain ⟨w1, w2, w3, w4, w5⟩ := dbl_ok h.ltr
  have l1 : N1.z.length = 1 := by rw [z1]; rfl
  have ap : ∀ {e : PyData} {N' : Mc}, e ∈ apsL N N1 N2 → Fl 12 e → PyData.eqv e (fM N) = false → Frame e N' → ¬ (N.b = N'.b ∧ N.z = N'.z) → Bad1 N (apsL N N1 N2) e := fun he fl ne fr n =>
    ⟨fl, ne, .inl ⟨List.any_eq_true.mpr ⟨_, he, fl.self⟩, _, fr, n⟩⟩
  have a0 : Bad1 N (apsL N N1 N2) (fM ⟨N.b + 1, N.z, N.C⟩) := ap (.head _) (fl_fM m0) (eqv_b (show N.b + 1 ≠ N.b by omega)) (frame_b fr (by omega) (by omega)) (fun z => by have : N.b = N.b + 1 := z.1; omega)
  have a1 : Bad1 N (apsL N N1 N2) (fM N1) := ap (.tail _ (.head _)) (fl_fM f1.1) (eqv_z nz1) f1 (fun z => nz1 z.2.symm)
  have a2 : Bad1 N (apsL N N1 N2) (eM N2) := ap (.tail _ (.tail _ (.head _))) (fl_eM f2.1) (eqv_b (by omega)) f2 (fun z => by have := z.1; omega)
  intro e he
  simp only [bad1L, apsL, List.mem_append, List.mem_cons, List.not_mem_nil, or_false] at he
  rcases he with (((rfl | rfl | rfl) | (rfl | rfl | rfl)) | (rfl | rfl | rfl | rfl | rfl)) | rfl
  · exact a0
  · exact a1
  · exact a2
  · exact a0
  · exact a1
  · exact a2
  · exact ⟨.non, rfl, .inr ⟨any3 rfl rfl rfl, rfl, rfl⟩⟩
  · exact ⟨.lst .nil, rfl, .inr ⟨any3 rfl rfl rfl, rfl, rfl⟩⟩
  · have q : ∀ {i : Int} {z z' : Str} {S S' : List PyData}, 2 ≤ i → PyData.eqv (.tuple [.int i, .str z, .tuple S]) (.tuple [.bool true, .str z', .tuple S']) = false := fun {i z z' S S'} h => by
      have : (i == (1 : Int)) = false := beq_eq_false_iff_ne.mpr (by omega)
      simp [PyData.eqv, PyData.eqvAll, this]
    have q2 : ∀ {z z' : Str} {S S' : List PyData}, PyData.eqv (.tuple [.bool true, .str z', .tuple S']) (.tuple [.int N.b, .str z, .tuple S]) = false := fun {z z' S S'} => by
      have : ((1 : Int) == N.b) = false := beq_eq_false_iff_ne.mpr (by omega)
      simp [PyData.eqv, PyData.eqvAll, this]
    obtain ⟨m, p⟩ := mch_f (b := .bool true) (l := .str N.z) (ss := N.C.map fS) fun m => rfl
    exact ⟨.tup (.cons .bl (.cons (.str sz) (.cons (.tup (fl_map fl_fS)) .nil))), q2, .inr ⟨any3 (q (by show 2 ≤ N.b + 1; omega)) (q (by omega)) (q (by omega)), m, p⟩⟩
  · obtain ⟨m, p⟩ := mch_f (b := .int N.b) (l := .str "") (ss := []) fun m => frm_s tab_nil
    exact ⟨.tup (.cons .int (.cons (.str (by decide +kernel)) (.cons (.tup .nil) .nil))), eqv_z (z_ne p0).symm, .inr ⟨any3 (eqv_z (z_ne p0)) (eqv_z (z_ne p1)) (eqv_z (z_ne p2)), m, p⟩⟩
  · exact ⟨.lst (.cons .int (.cons (.str sz) (.cons (.tup (fl_map fl_fS)) .nil))), rfl, .inr ⟨any3 rfl rfl rfl, rfl, rfl⟩⟩
  · obtain ⟨m, p⟩ := mch_f (b := .int N.b) (l := .str (dblS N.z)) (ss := N.C.map fS) fun m => frm_l w1
    have nd : dblS N.z ≠ N.z := fun e => by
      rw [e] at w3
      omega
    exact ⟨.tup (.cons .int (.cons (.str w2) (.cons (.tup (fl_map fl_fS)) .nil))), eqv_z nd, .inr ⟨any3 (eqv_z nd.symm) (eqv_z fun e => by rw [← e] at w4; omega) (eqv_b (by omega)), m, p⟩⟩
/-- no rule for the letters z, and not g -/
structure Bad2 (z : Str) (g e : PyData) : Prop where
  fl : Fl 12 e
  r : ruleIs e z = false
  ne : PyData.eqv e g = false
def bad2L (z o : Str) (r : List (Option Int)) (R : List (List (Option Int))) (M : Mc) : List PyData := [.none, .str z, .tuple [.str z], .tuple [.str z, .tuple []], .list [.str z, .tuple (rowsD (r :: R))], .tuple [.str o, .tuple (rowsD (r :: R))]] ++ [.tuple [.str z, .list [.tuple (r.map stD)]], freeD o, eM M] ++ [.tuple [.str z, .tuple [.tuple (List.replicate z.length .none)]]]
theorem rul_of {e : PyData} {z : Str} (h : rulD e = false) : ruleIs e z = false := by
  unfold ruleIs
  rw [h]
  rfl
theorem rul_z {z o : Str} {S : PyData} (h : o ≠ z) : ruleIs (.tuple [.str o, S]) z = false := by
  show (rulD _ && decide (o = z)) = false
  rw [decide_eq_false h, Bool.and_false]
theorem eqv_two {z z' : Str} {S S' : List PyData} : PyData.eqv (.tuple [.str z, .tuple S]) (.tuple [.str z', .tuple S']) = ((z == z') && PyData.eqvAll S S') := by
  simp [PyData.eqv, PyData.eqvAll]
theorem none_row : ∀ {r : List (Option Int)} {n : Nat}, r.length = n → (∃ x ∈ r, x ≠ none) → PyData.eqvAll (List.replicate n .none) (r.map stD) = false
  | [], _, _, ⟨_, h, _⟩ => nomatch h
  | none :: r, 0, h, _ => nomatch h
  | none :: r, n + 1, h, hx => by
    rw [List.replicate_succ, List.map_cons, PyData.eqvAll, none_row (r := r) (n := n) (by simpa using h) (by
      obtain ⟨x, hx, nx⟩ := hx
      rcases List.mem_cons.mp hx with rfl | hx
      · exact absurd rfl nx
      · exact ⟨x, hx, nx⟩), Bool.and_false]
  | some i :: r, 0, h, _ => nomatch h
  | some i :: r, n + 1, h, _ => by
    rw [List.replicate_succ, List.map_cons, PyData.eqvAll]
    rfl
theorem bad2_all {z : Str} {o : Nat} {r : List (Option Int)} {R : List (List (Option Int))} {M : Mc} (hz : lettersL z.cps.toList = true) (o1 : o ≤ 1000) (no : o ∉ z.cps.toList) (hr : RowOk z.length (r :: R).length r) (hM : Mok M) : ∀ e ∈ bad2L z ⟨#[o]⟩ r R M, Bad2 z (.tuple [.str z, .tuple (rowsD (r :: R))]) e := by
  have sz := strOk_of hz
  have nz : (⟨#[o]⟩ : Str) ≠ z := fun e => by
    rw [← e] at no
    exact no (.head _)
  have so : PyData.strOk ⟨#[o]⟩ = true := by
    simp only [PyData.strOk, List.all_toArray, List.all_cons, List.all_nil, Bool.and_true, decide_eq_true_eq]
    omega
  have fr : ∀ {n : Nat}, Fl (n + 1) (.tuple (r.map stD)) := .tup (fl_map fl_stD)
  intro e he
  simp only [bad2L, List.mem_append, List.mem_cons, List.not_mem_nil, or_false] at he
  rcases he with ((rfl | rfl | rfl | rfl | rfl | rfl) | (rfl | rfl | rfl)) | rfl
  · exact ⟨.non, rfl, rfl⟩
  · exact ⟨.str sz, rfl, rfl⟩
  · exact ⟨.tup (.cons (.str sz) .nil), rfl, by simp [PyData.eqv, PyData.eqvAll]⟩
  · refine ⟨.tup (.cons (.str sz) (.cons (.tup .nil) .nil)), rul_of ?_, ?_⟩
    · show (ltrD (.str z) && (tabD (lenD (.str z)) 4 (.tuple []) && _)) = false
      rw [tab_nil, Bool.false_and, Bool.and_false]
    · rw [eqv_two]
      show (_ && false) = false
      rw [Bool.and_false]
  · exact ⟨.lst (.cons (.str sz) (.cons (.tup (fl_rows _)) .nil)), rfl, rfl⟩
  · exact ⟨.tup (.cons (.str so) (.cons (.tup (fl_rows _)) .nil)), rul_z nz, by rw [eqv_two, beq_eq_false_iff_ne.mpr nz]; rfl⟩
  · exact ⟨.tup (.cons (.str sz) (.cons (.lst (.cons fr .nil)) .nil)), rfl, by simp [PyData.eqv, PyData.eqvAll]⟩
  · refine ⟨.tup (.cons (.str so) (.cons (.tup (.cons (.tup (.of fun d hd => ?_)) .nil)) .nil)), rul_z nz, by unfold freeD; rw [eqv_two, beq_eq_false_iff_ne.mpr nz]; rfl⟩
    rw [(List.mem_replicate.mp hd).2]
    exact .int
  · exact ⟨fl_eM hM, rfl, rfl⟩
  · refine ⟨.tup (.cons (.str sz) (.cons (.tup (.cons (.tup (.of fun d hd => ?_)) .nil)) .nil)), rul_of ?_, ?_⟩
    · rw [(List.mem_replicate.mp hd).2]
      exact .non
    · have w : wayD 1 (.tuple (List.replicate z.length .none)) = false := by
        show (decide ((0 : Int) < (((List.replicate z.length PyData.none).filter someD).length : Int)) && _) = false
        rw [List.filter_replicate, if_neg (by decide)]
        rfl
      show (_ && (_ && (wayD 1 (.tuple (List.replicate z.length .none)) && true))) = false
      rw [w, Bool.false_and, Bool.and_false, Bool.and_false]
    · rw [eqv_two]
      show (_ && (PyData.eqv (.tuple (List.replicate z.length .none)) (.tuple (r.map stD)) && _)) = false
      rw [PyData.eqv, none_row hr.len hr.has, Bool.false_and, Bool.and_false]
end My
/-! ### the wrong ones -/
namespace My
open PySem PySem.Spec PyProof.Rows L2 PySem.Builtin.Str
abbrev sXWrong : Stmt := topS 71
theorem scXWrong : FnScope ["pen", "base", "letters", "other", "good", "some", "bad", "apart_ones"] ["pen", "base", "letters", "other", "good"] (defScope sXWrong) := ⟨rfl, rfl, rfl, by decide +kernel, rfl, by decide +kernel, by decide +kernel⟩
structure WrTxt (K : PySem.W.Frag) (mg : Str → Option Value) (xw : Addr) (yw : FuncData) : Prop where
  len : mg "len" = none
  list : mg "list" = none
  FXWrong : Fun K "_law_x_wrong" "_law_x_wrong" sXWrong xw yw
  bXWrong : Binds K yw ["pen", "base", "letters", "other", "good"] []
  gXWrong : mg "_law_x_wrong" = some (.ref xw)
/-- what the law says of the wrong ones -/
structure BadW (M N : Mc) (z : Str) (g2 e0 e1 e2 : PyData) (aps : List PyData) : Prop where
  w0 : NoMa (eM M) e0
  w1 : Bad1 N aps e1
  w2 : Bad2 z g2 e2
  fl : FlAll 12 aps
def spWrong (K : PySem.W.Frag) : Sp := fun vs H Q _ => ∃ (p G : Addr) (n : Nat) (M N : Mc) (o : Nat) (x0 x1 x2 : V) (r : List (Option Int)) (R : List (List (Option Int))), vs = [.ref p, .int M.b, .str M.z, .str ⟨#[o]⟩, .ref G] ∧ Pen H p n ∧ n < 1040000 ∧ G ≠ p ∧ H G = some (.lst [x0, x1, x2]) ∧ Rs p K H x0 (eM M) ∧ Rs p K H x1 (fM N) ∧ Rs p K H x2 (.tuple [.str M.z, .tuple (rowsD (r :: R))]) ∧
  Side (eM M) M ∧ Side (fM N) N ∧ N.b = M.b ∧ N.z = M.z ∧ M.b ≤ 8 ∧ 97 ≤ o ∧ o ≤ 122 ∧ o ∉ M.z.cps.toList ∧ RowOk M.z.length (r :: R).length r ∧
  ∀ (H' : Hp) (t B A : Addr) (y0 y1 y2 : V) (as : List V) (e0 e1 e2 : PyData) (aps : List PyData), But p H H' → Pen H' p (n + 200) → H' t = some (.tup [.ref B, .ref A]) → H' B = some (.lst [y0, y1, y2]) → H' A = some (.lst as) → B ≠ p → A ≠ p → Rs p K H' y0 e0 → Rs p K H' y1 e1 → Rs p K H' y2 e2 → RsAll p K H' as aps → BadW M N M.z (.tuple [.str M.z, .tuple (rowsD (r :: R))]) e0 e1 e2 aps → Q (.ref t) H'
/-- all but the pen stays, the pen stands -/
structure Wk (p c : Addr) (n : Nat) (H H' : Hp) : Prop where
  bn : ButN p H H'
  pc : PenC H' p c n
  bt : But p H H'
theorem Wk.same {p c : Addr} {n : Nat} {H H1 H2 : Hp} (h : Wk p c n H H1) (s : Same H1 H2) : Wk p c n H H2 := ⟨h.1.trans (butN_same s), h.2.same s, h.3.trans (But.of s)⟩
theorem Wk.new {p c : Addr} {n : Nat} {H H1 : Hp} {l : Addr} {o : HO} (h : Wk p c n H H1) (e : H1 l = none) : Wk p c n H (upd H1 l o) := h.same (same_upd e)
theorem Wk.but {p c : Addr} {n m : Nat} {H H1 H2 : Hp} (h : Wk p c n H H1) (b : But p H1 H2) (hp : PenC H2 p c m) : Wk p c m H H2 := ⟨h.1.trans (butN_but b), hp, h.3.trans b⟩
theorem Wk.mono {p c : Addr} {n m : Nat} {H H1 : Hp} (h : Wk p c n H H1) (l : n ≤ m) : Wk p c m H H1 := ⟨h.1, h.2.mono l, h.3⟩
theorem Wk.ne {p c : Addr} {n : Nat} {H H1 : Hp} {l : Addr} (h : Wk p c n H H1) (e : H1 l = none) : l ≠ p ∧ l ≠ c ∧ H l = none := by
  obtain ⟨cs, a, r, h1, h2, _⟩ := h.2.ex
  have np := (ne_of_none h1 e).symm
  refine ⟨np, (ne_of_none h2 e).symm, ?_⟩
  cases e0 : H l with
  | none => rfl
  | some o =>
    have := h.3 l o np e0
    rw [e] at this
    cases this
theorem but_upd0 {p g : Addr} {H H1 : Hp} {o : HO} (h : But p H H1) (ng : H g = none) : But p H (upd H1 g o) := fun b o' nb e => by
  rw [upd_ne (fun z => by
    rw [z, ng] at e
    cases e)]
  exact h b o' nb e
theorem Wk.upd {p c g : Addr} {n : Nat} {H H1 : Hp} {o : HO} (h : Wk p c n H H1) (ng : g ≠ p ∧ g ≠ c ∧ H g = none) : Wk p c n H (upd H1 g o) :=
  ⟨butN_but (but_upd0 h.3 ng.2.2), h.2.keep (fun o e => by rw [upd_ne ng.1.symm]; exact e) (fun o e => by rw [upd_ne ng.2.1.symm]; exact e), but_upd0 h.3 ng.2.2⟩
theorem rs_open {K : PySem.W.Frag} {p : Addr} {n : Nat} {H : Hp} {x : V} {ds : List PyData} (hP : Pen H p n) (h : Rs p K H x (.tuple ds)) (t : tO (.tuple ds) = true) : ∃ a vs, x = .ref a ∧ SqT K H a vs ∧ RsAll p K H vs ds := by
  have := h.rp
  cases this with
  | tup hS ha =>
    refine ⟨_, _, rfl, hS, fun H' b => rpAll_ts (ts_butN hP b) ha (by simpa only [tO] using t)⟩
theorem sq_but {K : PySem.W.Frag} {p : Addr} {n : Nat} {H H' : Hp} {a : Addr} {xs : List V} (hP : Pen H p n) (b : ButN p H H') (h : SqT K H a xs) : SqT K H' a xs := ts_butN hP b _ _ h
theorem rsAll_inv {K : PySem.W.Frag} {p : Addr} {H : Hp} {vs : List V} {d : PyData} {ds : List PyData} (h : RsAll p K H vs (d :: ds)) : ∃ v us, vs = v :: us ∧ Rs p K H v d ∧ RsAll p K H us ds := by
  have h0 := h.rp
  cases h0 with
  | cons _ _ =>
    refine ⟨_, _, rfl, fun H' b => ?_, fun H' b => ?_⟩
    · cases h H' b with
      | cons a _ => exact a
    · cases h H' b with
      | cons _ a => exact a
theorem tO_rows (R : List (List (Option Int))) : tO (.tuple (rowsD R)) = true := by
  have h := tO_rule ⟨⟨0, "", []⟩, ⟨0, "", []⟩, R⟩
  unfold ruleD at h
  simp only [tO, tOs, Bool.true_and, Bool.and_true] at h ⊢
  exact h
theorem tO_free (z : Str) : tO (freeD z) = true := by
  have h : ∀ n, tOs (List.replicate n (.int 0)) = true := fun n => by
    induction n with
    | zero => rfl
    | succ n ih =>
      rw [List.replicate_succ, tOs, ih]
      rfl
  unfold freeD
  simp only [tO, tOs, Bool.true_and, Bool.and_true]
  exact h _
theorem rsNil_inv {K : PySem.W.Frag} {p : Addr} {H : Hp} {vs : List V} (h : RsAll p K H vs []) : vs = [] := by
  have h0 := h.rp
  cases h0
  rfl
theorem rsInt_inv {K : PySem.W.Frag} {p : Addr} {H : Hp} {v : V} {i : Int} (h : Rs p K H v (.int i)) : v = .int i := by
  have h0 := h.rp
  cases h0
  rfl
theorem rsStr_inv {K : PySem.W.Frag} {p : Addr} {H : Hp} {v : V} {z : Str} (h : Rs p K H v (.str z)) : v = .str z := by
  have h0 := h.rp
  cases h0
  rfl
theorem rs3 {K : PySem.W.Frag} {p : Addr} {H : Hp} {vs : List V} {b : Int} {z : Str} {d : PyData} (h : RsAll p K H vs [.int b, .str z, d]) : ∃ s, vs = [.int b, .str z, s] ∧ Rs p K H s d := by
  obtain ⟨v0, u0, rfl, h0, h⟩ := rsAll_inv h
  obtain ⟨v1, u1, rfl, h1, h⟩ := rsAll_inv h
  obtain ⟨v2, u2, rfl, h2, h⟩ := rsAll_inv h
  obtain rfl := rsNil_inv h
  obtain rfl := rsInt_inv h0
  obtain rfl := rsStr_inv h1
  exact ⟨v2, rfl, h2⟩
theorem rs2 {K : PySem.W.Frag} {p : Addr} {H : Hp} {vs : List V} {z : Str} {d : PyData} (h : RsAll p K H vs [.str z, d]) : ∃ s, vs = [.str z, s] ∧ Rs p K H s d := by
  obtain ⟨v1, u1, rfl, h1, h⟩ := rsAll_inv h
  obtain ⟨v2, u2, rfl, h2, h⟩ := rsAll_inv h
  obtain rfl := rsNil_inv h
  obtain rfl := rsStr_inv h1
  exact ⟨v2, rfl, h2⟩
section
variable {P : Program} {w : World} {K : PySem.W.Frag} {mg : Str → Option Value} {base : Heap} {f1 f2 f3 f4 : Addr} {d1 d2 d3 d4 : FuncData} {xm xp xf xs xw xg : Addr} {ym yp yf ys yw yg : FuncData}
theorem ok_wrong (TP : PenTxt K mg f1 f2 f3 f4 d1 d2 d3 d4) (TB : BlTxt K mg xm xp xf xs ym yp yf ys) (TF : FrTxt K mg xg yg) (T : WrTxt K mg xw yw) {k : Nat} : FnOk P w K mg base CX0 (k + 5) xw yw ["pen", "base", "letters", "other", "good"] (spWrong K) := by
  have GP : FnOk P w K mg base CX0 (k + 4) f4 d4 ["pen", "some"] (spPickC K) := ok_pickC TP (k := k + 1)
  have GM : FnOk P w K mg base CX0 (k + 4) xm ym ["pen", "base", "letters", "most", "wide"] (spMach3 K) := ok_mach3 TP TB (k := k)
  have GPL : FnOk P w K mg base CX0 (k + 4) xp yp ["pen", "base", "letters", "most", "wide"] (spPln3 K) := ok_pln3 TP TB (k := k)
  have GF : FnOk P w K mg base CX0 (k + 4) xg yg ["letters"] (spFree K) := ok_free TF (k := k + 3)
  refine T.FXWrong.ok scXWrong (fun vs H Q E h => ?_) (fun cdv A outer s H vs Q E hr h => ?_)
  · obtain ⟨p, G, n, M, N, o, x0, x1, x2, r, R, rfl, _⟩ := h
    rfl
  · obtain ⟨p, G, n, M, N, o, x0, x1, x2, r, R, rfl, hP, hn, nGp, hG, h0, h1, h2, sM, sN, eb, ez, b8, o1, o2, no, row, q⟩ := h
    refine ⟨_, (Evl.pss_cut (ps_set (i := 5) scXWrong.nd rfl (.inl rfl) (pe_lst (pa_cons pe_non (pa_cons (pe_tup pa_nil) (pa_cons (pe_callTy call_list_of (by rfl) T.list (by decide +kernel) (pa_cons (pe_ix ix_list (pv 4) pe_int (fun _ _ => rfl)) pa_nil)) (pa_cons (pe_slice sl_tupA (pe_ix ix_list (pv 4) pe_int (fun _ _ => rfl)) po_none (po_some pe_int)) (pa_cons (pe_op op_catA (pe_tup (pa_cons pe_int pa_nil)) (pe_slice sl_tupA (pe_ix ix_list (pv 4) pe_int (fun _ _ => rfl)) (po_some pe_int) po_none)) (pa_cons (pe_tup (pa_cons (pv 1) (pa_cons (pv 2) (pa_cons (pe_tup pa_nil) pa_nil)))) (pa_cons (pe_ix ix_list (pv 4) pe_int (fun _ _ => rfl)) (pa_cons pe_str pa_nil))))))))))
 (Evl.pss_cut (ps_set (i := 6) scXWrong.nd rfl (.inl rfl) (pe_lst (pa_cons (pe_call GP hr (by rfl) TP.gPick TP.FPick.kp TP.bPick .nil pass0 (pa_cons (pv 0) (pa_cons (pv 5) pa_nil))) pa_nil)))
 (Evl.pss_cut (ps_set (i := 7) scXWrong.nd rfl (.inl rfl) (pe_lst (pa_cons (pe_op op_catA (pe_tup (pa_cons (pe_op op_add (pv 1) pe_int) pa_nil)) (pe_slice sl_tupA (pe_ix ix_list (pv 4) pe_int (fun _ _ => rfl)) (po_some pe_int) po_none)) (pa_cons (pe_call GPL hr (by rfl) TB.gXPlainB TB.FXPlainB.kp TB.bXPlainB .nil pass0 (pa_cons (pv 0) (pa_cons (pv 1) (pa_cons (pv 3) (pa_cons pe_int (pa_cons pe_int pa_nil)))))) pa_nil))))
 (Evl.pss_cut (ps_expr (pe_bm PySem.F.plainAttrs_list PySem.F.slot_list_append PySem.F.type_list_append mt_append (pv 7) (pa_cons (pe_call GM hr (by rfl) TB.gXMachineB TB.FXMachineB.kp TB.bXMachineB .nil pass0 (pa_cons (pv 0) (pa_cons pe_int (pa_cons pe_str (pa_cons pe_int (pa_cons pe_int pa_nil)))))) pa_nil)))
 (Evl.pss_cut (ps_set (i := 5) scXWrong.nd rfl (.inl rfl) (pe_op op_cat (pe_op op_cat (pv 7) (pv 7)) (pe_lst (pa_cons pe_non (pa_cons (pe_lst pa_nil) (pa_cons (pe_op op_catA (pe_tup (pa_cons pe_bl pa_nil)) (pe_slice sl_tupA (pe_ix ix_list (pv 4) pe_int (fun _ _ => rfl)) (po_some pe_int) po_none)) (pa_cons (pe_tup (pa_cons (pv 1) (pa_cons pe_str (pa_cons (pe_tup pa_nil) pa_nil)))) (pa_cons (pe_callTy call_list_of (by rfl) T.list (by decide +kernel) (pa_cons (pe_ix ix_list (pv 4) pe_int (fun _ _ => rfl)) pa_nil)) pa_nil))))))))
 (Evl.pss_cut (ps_expr (pe_bm PySem.F.plainAttrs_list PySem.F.slot_list_append PySem.F.type_list_append mt_append (pv 6) (pa_cons (pe_call GP hr (by rfl) TP.gPick TP.FPick.kp TP.bPick .nil pass0 (pa_cons (pv 0) (pa_cons (pe_op op_cat (pv 5) (pe_lst (pa_cons (pe_tup (pa_cons (pv 1) (pa_cons (pe_op op_add_str (pe_slice sl_str (pv 2) po_none (po_some (pe_un un_neg pe_int))) (pe_op op_mulT (pe_slice sl_str (pv 2) (po_some (pe_un un_neg pe_int)) po_none) pe_int)) (pa_cons (pe_ix ix_tup (pe_ix ix_list (pv 4) pe_int (fun _ _ => rfl)) pe_int (fun _ _ => rfl)) pa_nil)))) pa_nil))) pa_nil))) pa_nil)))
 (Evl.pss_cut (ps_set (i := 5) scXWrong.nd rfl (.inl rfl) (pe_lst (pa_cons pe_non (pa_cons (pv 2) (pa_cons (pe_tup (pa_cons (pv 2) pa_nil)) (pa_cons (pe_tup (pa_cons (pv 2) (pa_cons (pe_tup pa_nil) pa_nil))) (pa_cons (pe_callTy call_list_of (by rfl) T.list (by decide +kernel) (pa_cons (pe_ix ix_list (pv 4) pe_int (fun _ _ => rfl)) pa_nil)) (pa_cons (pe_tup (pa_cons (pv 3) (pa_cons (pe_ix ix_tup (pe_ix ix_list (pv 4) pe_int (fun _ _ => rfl)) pe_int (fun _ _ => rfl)) pa_nil))) pa_nil))))))))
 (Evl.pss_cut (ps_set (i := 5) scXWrong.nd rfl (.inl rfl) (pe_op op_cat (pv 5) (pe_lst (pa_cons (pe_tup (pa_cons (pv 2) (pa_cons (pe_lst (pa_cons (pe_ix ix_tup (pe_ix ix_tup (pe_ix ix_list (pv 4) pe_int (fun _ _ => rfl)) pe_int (fun _ _ => rfl)) pe_int (fun _ _ => rfl)) pa_nil)) pa_nil))) (pa_cons (pe_call GF hr (by rfl) TF.gXFreeB TF.FXFreeB.kp TF.bXFreeB .nil pass0 (pa_cons (pv 3) pa_nil)) (pa_cons (pe_ix ix_list (pv 4) pe_int (fun _ _ => rfl)) pa_nil))))))
 (Evl.pss_cut (ps_expr (pe_bm PySem.F.plainAttrs_list PySem.F.slot_list_append PySem.F.type_list_append mt_append (pv 5) (pa_cons (pe_tup (pa_cons (pv 2) (pa_cons (pe_tup (pa_cons (pe_op op_repTa (pe_tup (pa_cons pe_non pa_nil)) (pe_callB call_len_str (by rfl) T.len PySem.boot_len (pa_cons (pv 2) pa_nil))) pa_nil)) pa_nil))) pa_nil)))
 (Evl.pss_cut (ps_expr (pe_bm PySem.F.plainAttrs_list PySem.F.slot_list_append PySem.F.type_list_append mt_append (pv 6) (pa_cons (pe_call GP hr (by rfl) TP.gPick TP.FPick.kp TP.bPick .nil pass0 (pa_cons (pv 0) (pa_cons (pv 5) pa_nil))) pa_nil)))
 (pss_one (ps_ret (pe_tup (pa_cons (pv 6) (pa_cons (pv 7) pa_nil))))))))))))))), ?_⟩
    have room : ∀ {m : Nat}, m ≤ 1000 → m ≤ sizeLine := fun h => Nat.le_trans h (by decide)
    obtain ⟨c, hPc⟩ := hP.at
    have k0 : Wk p c n H H := ⟨ButN.refl p H, hPc, But.of (Same.refl H)⟩
    have zl := ltrD_len (d := .str M.z) sM.1.ok.ltr
    have zs : M.z.length ≤ sizeLine := room (by show M.z.length ≤ 1000; have : M.z.length ≤ 3 := zl; omega)
    obtain ⟨a0, vs0, rfl, hS0, ha0⟩ := rs_open (ds := [.int M.b, .str M.z, .tuple (M.C.map eS)]) hP h0 (tO_eM M)
    obtain ⟨a1, vs1, rfl, hS1, ha1⟩ := rs_open (ds := [.int N.b, .str N.z, .tuple (N.C.map fS)]) hP h1 (tO_fM N)
    obtain ⟨a2, vs2, rfl, hS2, ha2⟩ := rs_open (ds := [.str M.z, .tuple (rowsD (r :: R))]) hP h2 (tO_rule ⟨M, N, r :: R⟩)
    obtain ⟨s0, rfl, r0⟩ := rs3 ha0
    obtain ⟨s1, rfl, r1⟩ := rs3 ha1
    obtain ⟨s2, rfl, r2⟩ := rs2 ha2
    obtain ⟨bR, ws2, rfl, hT2, hw2⟩ := rs_open (ds := rowsD (r :: R)) hP r2 (tO_rows (r :: R))
    obtain ⟨yr, us2, rfl, hyr, _⟩ := rsAll_inv hw2
    have sx : ∀ {z : Prop}, z → z := id
    have n1 : ¬ (HT.sIx 3 0 none = 0 ∧ HT.sIx 3 3 (some 2) = 3) := by decide
    have n2 : ¬ (HT.sIx 3 0 (some 1) = 0 ∧ HT.sIx 3 3 none = 3) := by decide
    refine ⟨fun σ H' => ∃ (L : Addr) (vs : List V), σ = [some (.ref p), some (.int M.b), some (.str M.z), some (.str ⟨#[o]⟩), some (.ref G), some (.ref L), none, none] ∧ Wk p c n H H' ∧ L ≠ p ∧ H' L = some (.lst vs) ∧ vs.length = 8 ∧ RxAll K [p] H' vs (bad0L M (.tuple [.str M.z, .tuple (rowsD (r :: R))])), ?_, ?_⟩
    · refine ⟨room (by show 0 ≤ _; omega), fun t1 e1 => ?_⟩
      have x1 := same_upd (o := HO.tup []) e1
      have k1 := k0.same x1
      refine ⟨_, rfl, G, _, 0, _, rfl, rfl, SqL.of (x1 _ _ hG), atI_nat (j := 0) rfl, a0, _, rfl, .inr (sq_but hP k1.1 hS0), fun t2 e2 => ?_⟩
      have x2 := same_upd (o := HO.lst [.int M.b, .str M.z, s0]) e2
      have k2 := k1.same x2
      refine ⟨_, rfl, G, _, 0, _, rfl, rfl, SqL.of ((x1.trans x2) _ _ hG), atI_nat (j := 0) rfl, _, rfl, a0, _, rfl, sq_but hP k2.1 hS0, fun z => absurd z n1, fun _ t3 e3 => ?_⟩
      have x3 := same_upd (o := HO.tup [.int M.b, .str M.z]) e3
      have k3 := k2.same x3
      refine ⟨room (by show 1 ≤ _; omega), fun t4 e4 => ?_⟩
      have x4 := same_upd (o := HO.tup [.int 1]) e4
      have k4 := k3.same x4
      refine ⟨_, rfl, G, _, 0, _, rfl, rfl, SqL.of (k4.1 _ _ nGp hG (fun _ z => nomatch z)), atI_nat (j := 0) rfl, _, rfl, a0, _, rfl, sq_but hP k4.1 hS0, fun z => absurd z n2, fun _ t5 e5 => ?_⟩
      have x5 := same_upd (o := HO.tup [.str M.z, s0]) e5
      have k5 := k4.same x5
      refine ⟨t4, t5, [.int 1], [.str M.z, s0], rfl, rfl, SqT.of (x5 _ _ upd_same), SqT.of upd_same, room (by show 3 ≤ _; omega), fun z => (nomatch z), fun _ z => (nomatch z), fun _ _ t6 e6 => ?_⟩
      have x6 := same_upd (o := HO.tup [.int 1, .str M.z, s0]) e6
      have k6 := k5.same x6
      refine ⟨_, rfl, _, rfl, room (by show 0 ≤ _; omega), fun t7 e7 => ?_⟩
      have x7 := same_upd (o := HO.tup []) e7
      have k7 := k6.same x7
      refine ⟨room (by show 3 ≤ _; omega), fun t8 e8 => ?_⟩
      have x8 := same_upd (o := HO.tup [.int M.b, .str M.z, .ref t7]) e8
      have k8 := k7.same x8
      refine ⟨_, rfl, G, _, 2, _, rfl, rfl, SqL.of (k8.1 _ _ nGp hG (fun _ z => nomatch z)), atI_nat (j := 2) rfl, room (by show 8 ≤ _; omega), fun L eL => ?_⟩
      have x9 := same_upd (o := HO.lst [.non, .ref t1, .ref t2, .ref t3, .ref t6, .ref t8, .ref a2, .str "machine"]) eL
      have k9 := k8.same x9
      have y8 := x8.trans x9
      have y7 := x7.trans y8
      have y4 := x4.trans (x5.trans (x6.trans y7))
      have y3 := x3.trans y4
      have y2 := x2.trans y3
      have g0 : Rx K [p] _ s0 (.tuple (M.C.map eS)) := rx_of (r0.go k9.1).rp (by rw [tO]; exact tOs_map tO_eS _)
      have ms : ("machine" : Str).length ≤ sizeLine := room (by show 7 ≤ _; omega)
      have np : ∀ {t : Addr}, t ≠ p → t ∉ [p] := fun h z => h (List.mem_singleton.mp z)
      refine ⟨L, _, rfl, k9, (k8.ne eL).1, upd_same, rfl, ?_⟩
      refine RxAll.cons rx_non (RxAll.cons (rx_tup (SqT.of (y2 _ _ upd_same)) rxNil) (RxAll.cons (rx_lst (np (k1.ne e2).1) (y3 _ _ upd_same) ?_) (RxAll.cons (rx_tup (SqT.of (y4 _ _ upd_same)) ?_) (RxAll.cons (rx_tup (SqT.of (y7 _ _ upd_same)) ?_) (RxAll.cons (rx_tup (SqT.of (x9 _ _ upd_same)) ?_) (RxAll.cons (rx_of (h2.go k9.1).rp (tO_rule ⟨M, N, r :: R⟩)) (RxAll.cons (rx_str _ ms) rxNil)))))))
      · exact RxAll.cons (rx_int _) (RxAll.cons (rx_str _ zs) (RxAll.cons g0 rxNil))
      · exact RxAll.cons (rx_int _) (RxAll.cons (rx_str _ zs) rxNil)
      · exact RxAll.cons (rx_int _) (RxAll.cons (rx_str _ zs) (RxAll.cons g0 rxNil))
      · exact RxAll.cons (rx_int _) (RxAll.cons (rx_str _ zs) (RxAll.cons (rx_tup (SqT.of (y8 _ _ upd_same)) rxNil) rxNil))
    rintro σ H1 ⟨L, vs, rfl, k1, nLp, hL, lvs, hvs⟩
    refine ⟨fun σ H' => ∃ (B : Addr) (y0 : V) (e0 : PyData), σ = [some (.ref p), some (.int M.b), some (.str M.z), some (.str ⟨#[o]⟩), some (.ref G), some (.ref L), some (.ref B), none] ∧ Wk p c (n + 1) H H' ∧ (B ≠ p ∧ B ≠ c ∧ H B = none) ∧ H' B = some (.lst [y0]) ∧ Rx K [B, p] H' y0 e0 ∧ NoMa (eM M) e0, ?_, ?_⟩
    · refine ⟨_, rfl, _, rfl, p, c, L, vs, n, rfl, k1.2, by omega, SqL.of hL, nLp, by omega, by omega, fun H2 m v b2 hP2 hm => ⟨room (by show 1 ≤ _; omega), fun B eB => ?_⟩⟩
      have k2 := k1.but b2 hP2
      have xB := same_upd (o := HO.lst [v]) eB
      obtain ⟨e0, he, rv⟩ := hvs.at hm
      exact ⟨B, v, e0, rfl, k2.same xB, k2.ne eB, upd_same, ((rv.go (nwx_but k1.2.pen (.head _) b2)).fresh eB).go (nwx_same xB), bad0_all sM.1.ok sM.1.ok.ltr e0 (List.mem_of_getElem? he)⟩
    clear k1 nLp hL lvs hvs
    rintro σ H1 ⟨B, y0, e0, rfl, k1, nB, hB, ry0, hw0⟩
    refine ⟨fun σ H' => ∃ (A : Addr) (u t : V) (N1 : Mc), σ = [some (.ref p), some (.int M.b), some (.str M.z), some (.str ⟨#[o]⟩), some (.ref G), some (.ref L), some (.ref B), some (.ref A)] ∧ Wk p c (n + 51) H H' ∧ (A ≠ p ∧ A ≠ c ∧ H A = none) ∧ A ≠ B ∧ H' B = some (.lst [y0]) ∧ Rx K [A, B, p] H' y0 e0 ∧ H' A = some (.lst [u, t]) ∧ Rp K H' u (fM ⟨N.b + 1, N.z, N.C⟩) ∧ Rp K H' t (fM N1) ∧ Side (fM N1) N1 ∧ N1.b = M.b ∧ N1.z = ⟨#[o]⟩, ?_, ?_⟩
    · refine ⟨_, rfl, _, _, rfl, rfl, room (by show 1 ≤ _; omega), fun u1 i1 => ?_⟩
      have x1 := same_upd (o := HO.tup [.int (M.b + 1)]) i1
      have k2 := k1.same x1
      refine ⟨_, rfl, G, _, 1, _, rfl, rfl, SqL.of (k2.1 _ _ nGp hG (fun _ z => nomatch z)), atI_nat (j := 1) rfl, _, rfl, a1, _, rfl, sq_but hP k2.1 hS1, fun z => absurd z n2, fun _ u2 i2 => ?_⟩
      have x2 := same_upd (o := HO.tup [.str N.z, s1]) i2
      have k3 := k2.same x2
      refine ⟨u1, u2, [.int (M.b + 1)], [.str N.z, s1], rfl, rfl, SqT.of (x2 _ _ upd_same), SqT.of upd_same, room (by show 3 ≤ _; omega), fun z => (nomatch z), fun _ z => (nomatch z), fun _ _ u3 i3 => ?_⟩
      have x3 := same_upd (o := HO.tup [.int (M.b + 1), .str N.z, s1]) i3
      have k4 := k3.same x3
      have b2 := sM.1.ok.b2
      refine ⟨_, rfl, _, rfl, _, rfl, p, c, n + 1, M.b, ⟨#[o]⟩, 2, 9, rfl, k4.2, by omega, letters_one o1 o2, b2, by omega, by decide, by decide, by decide, by decide +kernel, fun H2 t N1 bt hP2 ntp rt st eb1 ez1 _ _ => ⟨room (by show 2 ≤ _; omega), fun A eA => ?_⟩⟩
      have k5 := k4.but bt hP2
      have xA := same_upd (o := HO.lst [.ref u3, .ref t]) eA
      have k6 := k5.same xA
      have x13 := x1.trans (x2.trans x3)
      have yy : NwX K [B, p] H1 H2 := (nwx_same x13).trans (nwx_but k4.2.pen (.tail _ (.head _)) bt)
      have hB2 := bt B _ nB.1 (x13 _ _ hB)
      have hu3 := xA _ _ (bt u3 _ (k3.ne i3).1 upd_same)
      refine ⟨A, .ref u3, .ref t, N1, rfl, k6, k5.ne eA, (ne_of_none hB2 eA).symm, xA _ _ hB2, ((ry0.go yy).fresh eA).go (nwx_same xA), upd_same, ?_, rt.go xA, st, eb1, ez1⟩
      have g1 := (r1.go k6.1).rp
      have := Rp.tup (K := K) (ds := [.int (M.b + 1), .str N.z, .tuple (N.C.map fS)]) (SqT.of hu3) (.cons (.int _) (.cons (.str _ (by rw [ez]; exact zs)) (.cons g1 .nil)))
      rw [← eb] at this
      exact this
    clear k1 hB ry0
    rintro σ H1 ⟨A, u, t, N1, rfl, k1, nA, nAB, hB, ry0, hA, ru, rt, sd1, b1, z1⟩
    refine ⟨fun σ H' => ∃ (as : List V) (N2 : Mc), σ = [some (.ref p), some (.int M.b), some (.str M.z), some (.str ⟨#[o]⟩), some (.ref G), some (.ref L), some (.ref B), some (.ref A)] ∧ Wk p c (n + 151) H H' ∧ H' B = some (.lst [y0]) ∧ Rx K [A, B, p] H' y0 e0 ∧ H' A = some (.lst as) ∧ as.length = 3 ∧ RpAll K H' as (apsL N N1 N2) ∧ Side (eM N2) N2 ∧ N2.b = 9, ?_, ?_⟩
    · refine ⟨_, rfl, .inl ⟨rfl, _, SqL.of hA⟩, _, rfl, p, c, n + 51, 9, "az", 2, 9, rfl, k1.2, by omega, by decide +kernel, by decide, by decide, by decide, by decide, by decide, by decide, fun H2 t2 N2 bt hP2 ntp rt2 st2 eb2 ez2 _ _ => ?_⟩
      have k2 := k1.but bt hP2
      have hA2 := bt A _ nA.1 hA
      have k3 := k2.upd (o := .lst [u, t, .ref t2]) nA
      have ts1 : TStay K H1 H2 := ts_but k1.2.pen bt
      have ts2 : TStay K H2 (upd H2 A (.lst [u, t, .ref t2])) := ts_lst hA2
      have yb : NwX K [A, B, p] H1 (upd H2 A (.lst [u, t, .ref t2])) := (nwx_but k1.2.pen (.tail _ (.tail _ (.head _))) bt).trans (nwx_upd (.head _) hA2)
      exact ⟨A, _, _, rfl, rfl, hA2, Nat.lt_of_le_of_lt (show 2 ≤ 1000 by decide) (by decide), [u, t, .ref t2], N2, rfl, k3, by rw [upd_ne nAB.symm]; exact bt B _ nB.1 hB, ry0.go yb, upd_same, rfl, .cons (rp_ts (ts1.trans ts2) ru (tO_fM _)) (.cons (rp_ts (ts1.trans ts2) rt (tO_fM _)) (.cons (rp_ts ts2 rt2 (tO_eM _)) .nil)), st2, eb2⟩
    clear k1 hB ry0 hA ru rt
    rintro σ H1 ⟨as, N2, rfl, k1, hB, ry0, hA, las, ras, sd2, b2⟩
    -- some
    refine ⟨fun σ H' => ∃ (S : Addr) (vs : List V), σ = [some (.ref p), some (.int M.b), some (.str M.z), some (.str ⟨#[o]⟩), some (.ref G), some (.ref S), some (.ref B), some (.ref A)] ∧ Wk p c (n + 151) H H' ∧ S ≠ p ∧ H' B = some (.lst [y0]) ∧ Rx K [A, B, p] H' y0 e0 ∧ H' A = some (.lst as) ∧ RpAll K H' as (apsL N N1 N2) ∧ H' S = some (.lst vs) ∧ vs.length = 11 ∧ RxAll K [A, B, p] H' vs (apsL N N1 N2 ++ apsL N N1 N2 ++ [.none, .list [], .tuple [.bool true, .str N.z, .tuple (N.C.map fS)], .tuple [.int N.b, .str "", .tuple []], .list [.int N.b, .str N.z, .tuple (N.C.map fS)]]), ?_, ?_⟩
    · refine ⟨_, rfl, _, rfl, A, A, as, as, rfl, rfl, hA, hA, room (by omega), fun q1 g1 => ?_⟩
      have x1 := same_upd (o := HO.lst (as ++ as)) g1
      have k2 := k1.same x1
      refine ⟨room (by show 0 ≤ _; omega), fun q2 g2 => ⟨room (by show 1 ≤ _; omega), fun q3 g3 => ?_⟩⟩
      have x2 := same_upd (o := HO.lst []) g2
      have k3 := k2.same x2
      have x3 := same_upd (o := HO.tup [.bl true]) g3
      have k4 := k3.same x3
      refine ⟨_, rfl, G, _, 1, _, rfl, rfl, SqL.of (k4.1 _ _ nGp hG (fun _ z => nomatch z)), atI_nat (j := 1) rfl, _, rfl, a1, _, rfl, sq_but hP k4.1 hS1, fun z => absurd z n2, fun _ q4 g4 => ?_⟩
      have x4 := same_upd (o := HO.tup [.str N.z, s1]) g4
      have k5 := k4.same x4
      refine ⟨q3, q4, [.bl true], [.str N.z, s1], rfl, rfl, SqT.of (x4 _ _ upd_same), SqT.of upd_same, room (by show 3 ≤ _; omega), fun z => (nomatch z), fun _ z => (nomatch z), fun _ _ q5 g5 => ?_⟩
      have x5 := same_upd (o := HO.tup [.bl true, .str N.z, s1]) g5
      have k6 := k5.same x5
      refine ⟨_, rfl, room (by show 0 ≤ _; omega), fun q6 g6 => ⟨room (by show 3 ≤ _; omega), fun q7 g7 => ?_⟩⟩
      have x6 := same_upd (o := HO.tup []) g6
      have k7 := k6.same x6
      have x7 := same_upd (o := HO.tup [.int M.b, .str "", .ref q6]) g7
      have k8 := k7.same x7
      refine ⟨_, rfl, G, _, 1, _, rfl, rfl, SqL.of (k8.1 _ _ nGp hG (fun _ z => nomatch z)), atI_nat (j := 1) rfl, a1, _, rfl, .inr (sq_but hP k8.1 hS1), fun q8 g8 => ⟨room (by show 5 ≤ _; omega), fun q9 g9 => ?_⟩⟩
      have x8 := same_upd (o := HO.lst [.int N.b, .str N.z, s1]) g8
      have k9 := k8.same x8
      have x9 := same_upd (o := HO.lst [.non, .ref q2, .ref q5, .ref q7, .ref q8]) g9
      have k10 := k9.same x9
      have w8 := x8.trans x9
      have w7 := x7.trans w8
      have w6 := x6.trans w7
      have w3 := x3.trans (x4.trans (x5.trans w6))
      have w2 := x2.trans w3
      have w1 := x1.trans w2
      refine ⟨q1, q9, as ++ as, _, rfl, rfl, w2 _ _ upd_same, upd_same, room (by rw [List.length_append, las]; show 3 + 3 + 5 ≤ 1000; decide), fun S eS => ?_⟩
      have xS := same_upd (o := HO.lst (as ++ as ++ [.non, .ref q2, .ref q5, .ref q7, .ref q8])) eS
      have yy := w1.trans xS
      have hA9 := yy _ _ hA
      have hB9 := yy _ _ hB
      have not : ∀ {l : Addr} {Hk : Hp}, Wk p c (n + 151) H Hk → Same H1 Hk → Hk l = none → l ∉ [A, B, p] := fun kk sk e m => by
        simp only [List.mem_cons, List.not_mem_nil, or_false] at m
        rcases m with z | z | z
        · rw [z, sk _ _ hA] at e
          cases e
        · rw [z, sk _ _ hB] at e
          cases e
        · exact (kk.ne e).1 z
      have ga : RxAll K [A, B, p] (upd _ S _) as (apsL N N1 N2) := rxAll_of (ras.go yy) (by simp only [apsL, tOs, tO_fM, tO_eM, Bool.and_true])
      have kS := k10.same xS
      have g1' : Rx K [A, B, p] _ s1 (.tuple (N.C.map fS)) := rx_of (r1.go kS.1).rp (by rw [tO]; exact tOs_map tO_fS _)
      have zN : N.z.length ≤ sizeLine := by rw [ez]; exact zs
      refine ⟨S, _, rfl, kS, (k10.ne eS).1, hB9, ry0.go (nwx_same yy), hA9, ras.go yy, upd_same, by rw [List.length_append, List.length_append, las]; rfl, (ga.app ga).app ?_⟩
      refine RxAll.cons rx_non (RxAll.cons (rx_lst (not k2 x1 g2) (xS _ _ (w3 _ _ upd_same)) rxNil) (RxAll.cons (rx_tup (SqT.of (xS _ _ (w6 _ _ upd_same))) ?_) (RxAll.cons (rx_tup (SqT.of (xS _ _ (w8 _ _ upd_same))) ?_) (RxAll.cons (rx_lst (not k8 (x1.trans (x2.trans (x3.trans (x4.trans (x5.trans (x6.trans x7)))))) g8) (xS _ _ (x9 _ _ upd_same)) ?_) rxNil))))
      · exact RxAll.cons (rx_bl _) (RxAll.cons (rx_str _ zN) (RxAll.cons g1' rxNil))
      · have ib : ∀ {Hk : Hp}, Rx K [A, B, p] Hk (.int M.b) (.int N.b) := by
          rw [eb]
          exact rx_int _
        exact RxAll.cons ib (RxAll.cons (rx_str _ (room (by show 0 ≤ _; omega))) (RxAll.cons (rx_tup (SqT.of (xS _ _ (w7 _ _ upd_same))) rxNil) rxNil))
      · exact RxAll.cons (rx_int _) (RxAll.cons (rx_str _ zN) (RxAll.cons g1' rxNil))
    clear k1 hB ry0 hA ras
    rintro σ H1 ⟨S, vs, rfl, k1, nSp, hB, ry0, hA, ras, hS, lvs, rvs⟩
    have dk := dbl_ok (z := M.z) sM.1.ok.ltr
    have dz : (cutS M.z none (some (-1))).length + (Txt.mul (cutS M.z (some (-1)) none) 2).length = (dblS M.z).length := (app_len _ _).symm
    have c1 := cutS_length M.z none (some (-1))
    have c2 := cutS_length M.z (some (-1)) none
    have zl3 : M.z.length ≤ 3 := zl
    have fN : Frame (fM N) N := side_frame sN
    have nb8 : N.b ≤ 8 := by omega
    have noN : o ∉ N.z.cps.toList := by rw [ez]; exact no
    refine ⟨fun σ H' => ∃ (y1 : V) (e1 : PyData), σ = [some (.ref p), some (.int M.b), some (.str M.z), some (.str ⟨#[o]⟩), some (.ref G), some (.ref S), some (.ref B), some (.ref A)] ∧ Wk p c (n + 152) H H' ∧ H' B = some (.lst [y0, y1]) ∧ Rx K [A, B, p] H' y0 e0 ∧ Rx K [A, B, p] H' y1 e1 ∧ Bad1 N (apsL N N1 N2) e1 ∧ H' A = some (.lst as) ∧ RpAll K H' as (apsL N N1 N2), ?_, ?_⟩
    · refine ⟨_, rfl, .inl ⟨rfl, _, SqL.of hB⟩, _, rfl, _, rfl, _, rfl, _, rfl, _, rfl, _, rfl, M.z, rfl, zs, _, rfl, _, rfl, _, rfl, M.z, rfl, zs, _, 2, rfl, rfl, by omega, by decide, by decide, _, _, rfl, rfl, room (by omega), ?_⟩
      refine ⟨_, rfl, G, _, 1, _, rfl, rfl, SqL.of (k1.1 _ _ nGp hG (fun _ z => nomatch z)), atI_nat (j := 1) rfl, a1, _, 2, _, rfl, rfl, sq_but hP k1.1 hS1, atI_nat (j := 2) rfl, room (by show 3 ≤ _; omega), fun q1 g1 => ⟨room (by show 1 ≤ _; omega), fun q2 g2 => ?_⟩⟩
      have x1 := same_upd (o := HO.tup [.int M.b, .str (dblS M.z), s1]) g1
      have k2 := k1.same x1
      have x2 := same_upd (o := HO.lst [.ref q1]) g2
      have k3 := k2.same x2
      refine ⟨S, q2, vs, [.ref q1], rfl, rfl, (x1.trans x2) _ _ hS, upd_same, room (by rw [lvs]; show 11 + 1 ≤ 1000; decide), fun S2 e2 => ?_⟩
      have x3 := same_upd (o := HO.lst (vs ++ [.ref q1])) e2
      have k4 := k3.same x3
      have yy := x1.trans (x2.trans x3)
      have l12 : (vs ++ [V.ref q1]).length = 12 := by rw [List.length_append, lvs]; rfl
      refine ⟨p, c, S2, vs ++ [.ref q1], n + 151, rfl, k4.2, by omega, SqL.of upd_same, (k3.ne e2).1, by rw [l12]; decide, by rw [l12]; decide, fun H2 m v bt hP2 hm => ?_⟩
      have hB2 := bt B _ nB.1 (yy _ _ hB)
      have k5 := (k4.but bt hP2).upd (o := .lst ([y0] ++ [v])) nB
      have g1' : Rx K [A, B, p] _ s1 (.tuple (N.C.map fS)) := rx_of (r1.go k4.1).rp (by rw [tO]; exact tOs_map tO_fS _)
      have ib : ∀ {Hk : Hp}, Rx K [A, B, p] Hk (.int M.b) (.int N.b) := by
        rw [eb]
        exact rx_int _
      have iz : ∀ {Hk : Hp}, Rx K [A, B, p] Hk (.str (dblS M.z)) (.str (dblS N.z)) := by
        rw [ez]
        exact rx_str _ (room (by omega))
      have all : RxAll K [A, B, p] _ (vs ++ [.ref q1]) (bad1L N N1 N2) := (rvs.go (nwx_same yy)).app (RxAll.cons (rx_tup (SqT.of ((x2.trans x3) _ _ upd_same)) (RxAll.cons ib (RxAll.cons iz (RxAll.cons g1' rxNil)))) rxNil)
      obtain ⟨e1, he, rv⟩ := all.at hm
      have w1 : NwX K [A, B, p] _ H2 := nwx_but k4.2.pen (.tail _ (.tail _ (.head _))) bt
      have w2 : NwX K [A, B, p] H2 (upd H2 B (.lst ([y0] ++ [v]))) := nwx_upd (.tail _ (.head _)) hB2
      exact ⟨B, _, _, rfl, rfl, hB2, Nat.lt_of_le_of_lt (show 1 ≤ 1000 by decide) (by decide), v, e1, rfl, k5, upd_same, ry0.go ((nwx_same yy).trans (w1.trans w2)), rv.go (w1.trans w2), bad1_all fN nb8 (side_frame sd1) (by omega) z1 noN (side_frame sd2) b2 e1 (List.mem_of_getElem? he), by rw [upd_ne nAB]; exact bt A _ nA.1 (yy _ _ hA), rpAll_ts ((ts_same yy).trans (w1.ts.trans w2.ts)) ras (by simp only [apsL, tOs, tO_fM, tO_eM, Bool.and_true])⟩
    clear k1 hB ry0 hA ras hS lvs rvs nSp
    rintro σ H1 ⟨y1, e1, rfl, k1, hB, ry0, ry1, hw1, hA, ras⟩
    have tAps : tOs (apsL N N1 N2) = true := by simp only [apsL, tOs, tO_fM, tO_eM, Bool.and_true]
    -- no rule
    refine ⟨fun σ H' => ∃ (T : Addr) (vs : List V), σ = [some (.ref p), some (.int M.b), some (.str M.z), some (.str ⟨#[o]⟩), some (.ref G), some (.ref T), some (.ref B), some (.ref A)] ∧ Wk p c (n + 152) H H' ∧ H' B = some (.lst [y0, y1]) ∧ Rx K [A, B, p] H' y0 e0 ∧ Rx K [A, B, p] H' y1 e1 ∧ H' A = some (.lst as) ∧ RpAll K H' as (apsL N N1 N2) ∧ H' T = some (.lst vs) ∧ vs.length = 6 ∧ RxAll K [A, B, p] H' vs [.none, .str M.z, .tuple [.str M.z], .tuple [.str M.z, .tuple []], .list [.str M.z, .tuple (rowsD (r :: R))], .tuple [.str ⟨#[o]⟩, .tuple (rowsD (r :: R))]], ?_, ?_⟩
    · refine ⟨_, rfl, _, rfl, room (by show 1 ≤ _; omega), fun q1 g1 => ⟨_, rfl, room (by show 0 ≤ _; omega), fun q2 g2 => ⟨room (by show 2 ≤ _; omega), fun q3 g3 => ?_⟩⟩⟩
      have x1 := same_upd (o := HO.tup [.str M.z]) g1
      have k2 := k1.same x1
      have x2 := same_upd (o := HO.tup []) g2
      have k3 := k2.same x2
      have x3 := same_upd (o := HO.tup [.str M.z, .ref q2]) g3
      have k4 := k3.same x3
      refine ⟨_, rfl, G, _, 2, _, rfl, rfl, SqL.of (k4.1 _ _ nGp hG (fun _ z => nomatch z)), atI_nat (j := 2) rfl, a2, _, rfl, .inr (sq_but hP k4.1 hS2), fun q4 g4 => ?_⟩
      have x4 := same_upd (o := HO.lst [.str M.z, .ref bR]) g4
      have k5 := k4.same x4
      refine ⟨_, rfl, _, rfl, G, _, 2, _, rfl, rfl, SqL.of (k5.1 _ _ nGp hG (fun _ z => nomatch z)), atI_nat (j := 2) rfl, a2, _, 1, _, rfl, rfl, sq_but hP k5.1 hS2, atI_nat (j := 1) rfl, room (by show 2 ≤ _; omega), fun q5 g5 => ⟨room (by show 6 ≤ _; omega), fun T gT => ?_⟩⟩
      have x5 := same_upd (o := HO.tup [.str ⟨#[o]⟩, .ref bR]) g5
      have k6 := k5.same x5
      have xT := same_upd (o := HO.lst [.non, .str M.z, .ref q1, .ref q3, .ref q4, .ref q5]) gT
      have kT := k6.same xT
      have w5 := x5.trans xT
      have w4 := x4.trans w5
      have w3 := x3.trans w4
      have w2 := x2.trans w3
      have yy := x1.trans w2
      have n4 : q4 ∉ [A, B, p] := fun m => by
        have s := x1.trans (x2.trans x3)
        simp only [List.mem_cons, List.not_mem_nil, or_false] at m
        rcases m with z | z | z
        · rw [z, s _ _ hA] at g4
          cases g4
        · rw [z, s _ _ hB] at g4
          cases g4
        · exact (k4.ne g4).1 z
      have gR : Rx K [A, B, p] _ (.ref bR) (.tuple (rowsD (r :: R))) := rx_of (r2.go kT.1).rp (tO_rows _)
      have iz : ∀ {Hk : Hp}, Rx K [A, B, p] Hk (.str M.z) (.str M.z) := rx_str _ zs
      have io : ∀ {Hk : Hp}, Rx K [A, B, p] Hk (.str ⟨#[o]⟩) (.str ⟨#[o]⟩) := rx_str _ (room (by show 1 ≤ _; omega))
      refine ⟨T, _, rfl, kT, yy _ _ hB, ry0.go (nwx_same yy), ry1.go (nwx_same yy), yy _ _ hA, ras.go yy, upd_same, rfl, ?_⟩
      exact RxAll.cons rx_non (RxAll.cons iz (RxAll.cons (rx_tup (SqT.of (w2 _ _ upd_same)) (RxAll.cons iz rxNil)) (RxAll.cons (rx_tup (SqT.of (w4 _ _ upd_same)) (RxAll.cons iz (RxAll.cons (rx_tup (SqT.of (w3 _ _ upd_same)) rxNil) rxNil))) (RxAll.cons (rx_lst n4 (w5 _ _ upd_same) (RxAll.cons iz (RxAll.cons gR rxNil))) (RxAll.cons (rx_tup (SqT.of (xT _ _ upd_same)) (RxAll.cons io (RxAll.cons gR rxNil))) rxNil)))))
    clear k1 hB ry0 ry1 hA ras
    rintro σ H1 ⟨T, vs, rfl, k1, hB, ry0, ry1, hA, ras, hT, lvs, rvs⟩
    refine ⟨fun σ H' => ∃ (T : Addr) (vs : List V), σ = [some (.ref p), some (.int M.b), some (.str M.z), some (.str ⟨#[o]⟩), some (.ref G), some (.ref T), some (.ref B), some (.ref A)] ∧ Wk p c (n + 152) H H' ∧ (T ≠ p ∧ T ≠ c ∧ H T = none) ∧ T ≠ B ∧ T ≠ A ∧ H' B = some (.lst [y0, y1]) ∧ Rx K [T, A, B, p] H' y0 e0 ∧ Rx K [T, A, B, p] H' y1 e1 ∧ H' A = some (.lst as) ∧ RpAll K H' as (apsL N N1 N2) ∧ H' T = some (.lst vs) ∧ vs.length = 9 ∧ RxAll K [T, A, B, p] H' vs ([.none, .str M.z, .tuple [.str M.z], .tuple [.str M.z, .tuple []], .list [.str M.z, .tuple (rowsD (r :: R))], .tuple [.str ⟨#[o]⟩, .tuple (rowsD (r :: R))]] ++ [.tuple [.str M.z, .list [.tuple (r.map stD)]], freeD ⟨#[o]⟩, eM M]), ?_, ?_⟩
    · refine ⟨_, rfl, _, rfl, _, rfl, G, _, 2, _, rfl, rfl, SqL.of (k1.1 _ _ nGp hG (fun _ z => nomatch z)), atI_nat (j := 2) rfl, a2, _, 1, _, rfl, rfl, sq_but hP k1.1 hS2, atI_nat (j := 1) rfl, bR, _, 0, _, rfl, rfl, sq_but hP k1.1 hT2, atI_nat (j := 0) rfl, room (by show 1 ≤ _; omega), fun q1 g1 => ⟨room (by show 2 ≤ _; omega), fun q2 g2 => ?_⟩⟩
      have x1 := same_upd (o := HO.lst [yr]) g1
      have k2 := k1.same x1
      have x2 := same_upd (o := HO.tup [.str M.z, .ref q1]) g2
      have k3 := k2.same x2
      refine ⟨_, rfl, ⟨#[o]⟩, rfl, by show 1 ≤ 1; decide, by show 1 ≤ 3; decide, fun H2 tf sF ntf rtf => ?_⟩
      have k4 := k3.same sF
      refine ⟨_, rfl, G, _, 0, _, rfl, rfl, SqL.of (k4.1 _ _ nGp hG (fun _ z => nomatch z)), atI_nat (j := 0) rfl, room (by show 3 ≤ _; omega), fun q3 g3 => ?_⟩
      have x3 := same_upd (o := HO.lst [.ref q2, .ref tf, .ref a0]) g3
      have k5 := k4.same x3
      have y3 := x1.trans (x2.trans (sF.trans x3))
      refine ⟨T, q3, vs, _, rfl, rfl, y3 _ _ hT, upd_same, room (by rw [lvs]; show 6 + 3 ≤ 1000; decide), fun T2 g4 => ?_⟩
      have x4 := same_upd (o := HO.lst (vs ++ [.ref q2, .ref tf, .ref a0])) g4
      have k6 := k5.same x4
      have yy := y3.trans x4
      have n1' : q1 ∉ [A, B, p] := fun m => by
        simp only [List.mem_cons, List.not_mem_nil, or_false] at m
        rcases m with z | z | z
        · rw [z, hA] at g1
          cases g1
        · rw [z, hB] at g1
          cases g1
        · exact (k1.ne g1).1 z
      have n1t : q1 ∉ [T2, A, B, p] := fun m => by
        rcases List.mem_cons.mp m with z | m
        · have := (x2.trans (sF.trans x3)) _ _ (upd_same (H := H1) (a := q1) (o := HO.lst [yr]))
          rw [z, g4] at this
          cases this
        · exact n1' m
      have gr : Rx K [T2, A, B, p] _ yr (.tuple (r.map stD)) := rx_of (hyr.go k6.1).rp (by
        have := tO_rows (r :: R)
        rw [tO, rowsD, List.map_cons, tOs, Bool.and_eq_true] at this
        exact this.1)
      have w0 : ∀ {x : V} {d : PyData}, Rx K [A, B, p] H1 x d → Rx K [T2, A, B, p] _ x d := fun h => ((h.go (nwx_same y3)).fresh g4).go (nwx_same x4)
      have w0A : RxAll K [T2, A, B, p] _ vs _ := ((rvs.go (nwx_same y3)).fresh g4).go (nwx_same x4)
      refine ⟨T2, _, rfl, k6, k5.ne g4, (ne_of_none (y3 _ _ hB) g4).symm, (ne_of_none (y3 _ _ hA) g4).symm, yy _ _ hB, w0 ry0, w0 ry1, yy _ _ hA, ras.go yy, upd_same, by rw [List.length_append, lvs]; rfl, w0A.app ?_⟩
      refine RxAll.cons (rx_tup (SqT.of ((sF.trans (x3.trans x4)) _ _ upd_same)) (RxAll.cons (rx_str _ zs) (RxAll.cons (rx_lst n1t ((x2.trans (sF.trans (x3.trans x4))) _ _ upd_same) (RxAll.cons gr rxNil)) rxNil))) (RxAll.cons (rx_of (rtf.go (x3.trans x4)) (tO_free _)) (RxAll.cons (rx_of (h0.go k6.1).rp (tO_eM M)) rxNil))
    clear k1 hB ry0 ry1 hA ras hT lvs rvs
    rintro σ H1 ⟨T, vs, rfl, k1, nT, nTB, nTA, hB, ry0, ry1, hA, ras, hT, lvs, rvs⟩
    refine ⟨fun σ H' => ∃ (vs : List V), σ = [some (.ref p), some (.int M.b), some (.str M.z), some (.str ⟨#[o]⟩), some (.ref G), some (.ref T), some (.ref B), some (.ref A)] ∧ Wk p c (n + 152) H H' ∧ H' B = some (.lst [y0, y1]) ∧ Rx K [T, A, B, p] H' y0 e0 ∧ Rx K [T, A, B, p] H' y1 e1 ∧ H' A = some (.lst as) ∧ RpAll K H' as (apsL N N1 N2) ∧ H' T = some (.lst vs) ∧ vs.length = 10 ∧ RxAll K [T, A, B, p] H' vs (bad2L M.z ⟨#[o]⟩ r R M), ?_, ?_⟩
    · refine ⟨_, rfl, .inl ⟨rfl, _, SqL.of hT⟩, _, rfl, room (by show 1 ≤ _; omega), fun q1 g1 => ?_⟩
      have x1 := same_upd (o := HO.tup [V.non]) g1
      have k2 := k1.same x1
      refine ⟨_, rfl, M.z, rfl, zs, rep_one (K := K) (SqT.of upd_same) (by omega) fun q2 H2 s2 hq2 => ⟨room (by show 1 ≤ _; omega), fun q3 g3 => ⟨room (by show 2 ≤ _; omega), fun q4 g4 => ?_⟩⟩⟩
      have k3 := k2.same s2
      have x3 := same_upd (o := HO.tup [V.ref q2]) g3
      have k4 := k3.same x3
      have x4 := same_upd (o := HO.tup [V.str M.z, .ref q3]) g4
      have k5 := k4.same x4
      have yy := x1.trans (s2.trans (x3.trans x4))
      have hT2' := yy _ _ hT
      have k6 := k5.upd (o := .lst (vs ++ [.ref q4])) nT
      have w := (nwx_same (K := K) (X := [T, A, B, p]) yy).trans (nwx_upd (o := .lst (vs ++ [.ref q4])) (.head _) hT2')
      have r4 : Rx K [T, A, B, p] _ (.ref q4) (.tuple [.str M.z, .tuple [.tuple (List.replicate M.z.length .none)]]) := rx_tup (SqT.of upd_same) (RxAll.cons (rx_str _ zs) (RxAll.cons (rx_tup (SqT.of (x4 _ _ upd_same)) (RxAll.cons (rx_of (.tup (same_tup (x3.trans x4) hq2) (rpAll_rep .non _)) (by
        rw [tO]
        have h : ∀ n, tOs (List.replicate n .none) = true := fun n => by
          induction n with
          | zero => rfl
          | succ n ih =>
            rw [List.replicate_succ, tOs, ih]
            rfl
        exact h _)) rxNil)) rxNil))
      exact ⟨T, _, _, rfl, rfl, hT2', Nat.lt_of_le_of_lt (show vs.length ≤ 1000 by omega) (by decide), _, rfl, k6, by rw [upd_ne nTB.symm]; exact yy _ _ hB, ry0.go w, ry1.go w, by rw [upd_ne nTA.symm]; exact yy _ _ hA, rpAll_ts w.ts ras tAps, upd_same, by rw [List.length_append, lvs]; rfl, (rvs.go w).app (RxAll.cons (r4.go (nwx_upd (.head _) hT2')) rxNil)⟩
    clear k1 hB ry0 ry1 hA ras hT lvs rvs
    rintro σ H1 ⟨vs, rfl, k1, hB, ry0, ry1, hA, ras, hT, lvs, rvs⟩
    refine ⟨fun σ H' => ∃ (y2 : V) (e2 : PyData), σ = [some (.ref p), some (.int M.b), some (.str M.z), some (.str ⟨#[o]⟩), some (.ref G), some (.ref T), some (.ref B), some (.ref A)] ∧ Wk p c (n + 153) H H' ∧ H' B = some (.lst [y0, y1, y2]) ∧ Rs p K H' y0 e0 ∧ Rs p K H' y1 e1 ∧ Rs p K H' y2 e2 ∧ H' A = some (.lst as) ∧ RsAll p K H' as (apsL N N1 N2) ∧ Bad2 M.z (.tuple [.str M.z, .tuple (rowsD (r :: R))]) e2, ?_, ?_⟩
    · refine ⟨_, rfl, .inl ⟨rfl, _, SqL.of hB⟩, _, rfl, _, rfl, p, c, T, vs, n + 152, rfl, k1.2, by omega, SqL.of hT, nT.1, by omega, by omega, fun H2 m v bt hP2 hm => ?_⟩
      have hB2 := bt B _ nB.1 hB
      have k2 := (k1.but bt hP2).upd (o := .lst ([y0, y1] ++ [v])) nB
      have pm : p ∈ [T, A, B, p] := .tail _ (.tail _ (.tail _ (.head _)))
      have w : NwX K [T, A, B, p] H1 (upd H2 B (.lst ([y0, y1] ++ [v]))) := (nwx_but k1.2.pen pm bt).trans (nwx_upd (.tail _ (.tail _ (.head _))) hB2)
      obtain ⟨e2, he, rv⟩ := rvs.at hm
      exact ⟨B, _, _, rfl, rfl, hB2, Nat.lt_of_le_of_lt (show 2 ≤ 1000 by decide) (by decide), v, e2, rfl, k2, upd_same, (ry0.go w).rs k2.2.pen pm, (ry1.go w).rs k2.2.pen pm, (rv.go w).rs k2.2.pen pm, by rw [upd_ne nAB]; exact bt A _ nA.1 hA, (rxAll_of (X := [T, A, B, p]) (rpAll_ts w.ts ras tAps) tAps).rs k2.2.pen pm, bad2_all sM.1.ok.ltr (by omega) no row sM.1.ok e2 (List.mem_of_getElem? he)⟩
    clear k1 hB ry0 ry1 hA ras hT lvs rvs
    rintro σ H1 ⟨y2, e2, rfl, k1, hB, ry0, ry1, ry2, hA, ras, hw2⟩
    refine ⟨_, rfl, _, rfl, room (by show 2 ≤ _; omega), fun t et => ?_⟩
    have xt := same_upd (o := HO.tup [V.ref B, .ref A]) et
    have k2 := k1.same xt
    have b := butN_same (p := p) xt
    exact q _ t B A y0 y1 y2 as e0 e1 e2 (apsL N N1 N2) k2.3 (k2.2.mono (by omega)).pen upd_same (xt _ _ hB) (xt _ _ hA) nB.1 nA.1 (ry0.go b) (ry1.go b) (ry2.go b) (ras.go b) ⟨hw0, hw1, hw2, .cons (fl_fM (mok_b sN.1.ok (by have := sN.1.ok.b2; omega) (by omega))) (.cons (fl_fM sd1.1.ok) (.cons (fl_eM sd2.1.ok) .nil))⟩
end
end My
/-! ### how many standings there are -/
namespace My
open PySem PySem.Spec PyProof.Rows L2 PySem.Builtin.Str
def allL (vs : List Int) : Nat → Nat → List (List (Int × Int))
  | _, 0 => [[]]
  | k, c + 1 => allL vs (k + 1) c ++ vs.flatMap fun v => (allL vs (k + 1) c).map fun L => ((k : Int), v) :: L
theorem flat_eq {α β : Type} {f : α → List β} {n : Nat} : ∀ (l : List α), (∀ x ∈ l, (f x).length = n) → (l.flatMap f).length = l.length * n
  | [], _ => by simp
  | x :: l, h => by
    rw [List.flatMap_cons, List.length_append, h x (.head _), flat_eq l fun y hy => h y (.tail _ hy), List.length_cons, Nat.succ_mul]
    exact Nat.add_comm _ _
theorem allL_len (vs : List Int) : ∀ (c k : Nat), (allL vs k c).length = (vs.length + 1) ^ c
  | 0, _ => rfl
  | c + 1, k => by
    rw [allL, List.length_append, flat_eq (n := (vs.length + 1) ^ c) vs fun v _ => by rw [List.length_map, allL_len vs c (k + 1)], allL_len vs c (k + 1), Nat.pow_succ, Nat.mul_add, Nat.mul_one, Nat.mul_comm vs.length]
    exact Nat.add_comm _ _
theorem allL_mem {vs : List Int} : ∀ (c k : Nat) (L : List (Int × Int)), (L.Pairwise fun a b => a.1 < b.1) → (∀ e ∈ L, (k : Int) ≤ e.1 ∧ e.1 < (k + c : Nat) ∧ e.2 ∈ vs) → L ∈ allL vs k c
  | 0, k, L, _, h => by
    cases L with
    | nil => exact .head _
    | cons e L =>
      have := h e (.head _)
      omega
  | c + 1, k, L, asc, h => by
    rw [allL, List.mem_append]
    by_cases z : ∃ e L', L = e :: L' ∧ e.1 = (k : Int)
    · obtain ⟨⟨e1, e2⟩, L', rfl, ek⟩ := z
      obtain rfl : e1 = (k : Int) := ek
      have p := List.pairwise_cons.mp asc
      refine .inr (List.mem_flatMap.mpr ⟨e2, (h _ (.head _)).2.2, List.mem_map.mpr ⟨L', allL_mem c (k + 1) L' p.2 fun e he => ?_, rfl⟩⟩)
      have h1 := p.1 e he
      have h2 := h e (.tail _ he)
      exact ⟨by omega, by omega, h2.2.2⟩
    · refine .inl (allL_mem c (k + 1) L asc fun e he => ?_)
      have h2 := h e he
      refine ⟨?_, by omega, h2.2.2⟩
      cases L with
      | nil => cases he
      | cons d L' =>
        have d1 : d.1 ≠ (k : Int) := fun y => z ⟨d, L', rfl, y⟩
        have d2 := h d (.head _)
        rcases List.mem_cons.mp he with rfl | h3
        · omega
        · have := (List.pairwise_cons.mp asc).1 e h3
          omega
def valsC (C : Ct) : List Int := (List.range (C.over + C.below).toNat).map fun (i : Nat) => C.M.b * ((i : Int) + 1 - C.below)
def boxC (C : Ct) : List Sg := (List.range C.R.length).flatMap fun (p : Nat) => (List.range C.M.C.length).flatMap fun (s : Nat) => (allL (valsC C) 0 C.N.C.length).map fun L => ⟨(p : Int), (s : Int), L⟩
def bndC (C : Ct) : Nat := C.R.length * (C.M.C.length * ((C.over + C.below).toNat + 1) ^ C.N.C.length) + 1
theorem boxC_len (C : Ct) : (FIRSTg :: boxC C).length = bndC C := by
  unfold bndC boxC
  rw [List.length_cons, flat_eq (n := C.M.C.length * ((C.over + C.below).toNat + 1) ^ C.N.C.length), List.length_range]
  intro p _
  rw [flat_eq (n := ((C.over + C.below).toNat + 1) ^ C.N.C.length), List.length_range]
  intro s _
  rw [List.length_map, allL_len]
  unfold valsC
  rw [List.length_map, List.length_range]
theorem vals_mem {C : Ct} (h : Cok C) {j : Int} (hv : vainB C.M.b C.below (C.M.b * j) = false) (hk : keepB C.M.b C.over (C.M.b * j) = true) : C.M.b * j ∈ valsC C := by
  have b2 := h.m.b2
  have o := over_rg h
  unfold vainB at hv
  unfold keepB at hk
  have h1 := of_decide_eq_false hv
  have h2 := of_decide_eq_true hk
  have e1 : C.M.b * j * (C.M.b - 1) ≤ C.M.b * C.over := by rw [Int.mul_comm C.M.b C.over]; exact h2
  rw [Int.mul_assoc] at e1
  have e1 := Int.le_of_mul_le_mul_left e1 (by omega)
  have e2 : C.M.b * (-j * (C.M.b - 1)) < C.M.b * C.below := by
    have : -(C.M.b * j) * (C.M.b - 1) = C.M.b * (-j * (C.M.b - 1)) := by rw [Int.neg_mul_eq_mul_neg, Int.mul_assoc]
    rw [Int.mul_comm C.M.b C.below, ← this]
    omega
  have e2 := Int.lt_of_mul_lt_mul_left e2 (by omega)
  have up : j ≤ C.over := by
    rcases Int.le_total 0 j with z | z
    · have := mul_bound b2 z
      omega
    · exact Int.le_trans z o.1
  have lo : -j < C.below := by
    rcases Int.lt_or_le 0 j with z | z
    · omega
    · have := mul_bound b2 (show 0 ≤ -j by omega)
      omega
  unfold valsC
  refine List.mem_map.mpr ⟨(j + C.below - 1).toNat, List.mem_range.mpr (by omega), ?_⟩
  congr 1
  omega
theorem go_box {C : Ct} (h : Cok C) {at_ : Nat} {t u : Sg} {p' : Int} {q : Int × Int} (e : goOn C at_ t p' q = some u) : ∀ x ∈ u.L, x.2 ∈ valsC C := by
  unfold goOn at e
  split at e
  · cases e
  · rename_i nv
    cases e
    intro x hx
    obtain ⟨h1, h2⟩ := List.mem_filter.mp hx
    have hv : vainB C.M.b C.below x.2 = false := by
      rcases SrtO.bcase (vainB C.M.b C.below x.2) with z | z
      · exact absurd (List.any_eq_true.mpr ⟨x, h1, z⟩) nv
      · exact z
    unfold aheadOf at h1
    obtain ⟨k, _, rfl⟩ := List.mem_map.mp h1
    exact vals_mem h hv h2
theorem succ_box {C : Ct} (h : Cok C) {at_ : Nat} {t u : Sg} (ht : t.L.length ≤ 60) (hu : u ∈ succOf C at_ t) : u ∈ boxC C := by
  have ok := succ_sok h ht hu
  have r1 := h.r1
  have c1 := h.m.c1
  unfold succOf at hu
  split at hu
  · cases hu
  · rename_i p' e
    obtain ⟨q, hq, e2⟩ := List.mem_filterMap.mp hu
    have bx := go_box h e2
    unfold boxC
    have p0 := ok.p0
    have p1 := ok.p1
    have s0 := ok.s0
    have s1 := ok.s1
    have g1 : u.p.toNat < C.R.length := by omega
    have g2 : u.s.toNat < C.M.C.length := by omega
    refine List.mem_flatMap.mpr ⟨u.p.toNat, List.mem_range.mpr g1, List.mem_flatMap.mpr ⟨u.s.toNat, List.mem_range.mpr g2, List.mem_map.mpr ⟨u.L, allL_mem _ _ _ ok.asc fun x hx => ?_, ?_⟩⟩⟩
    · have := ok.kin.rg x.1 (List.mem_map_of_mem (f := (·.1)) hx)
      exact ⟨by omega, by omega, bx x hx⟩
    · obtain ⟨p, s, L⟩ := u
      simp only at p0 s0 ⊢
      congr 1 <;> omega
theorem seen_box {C : Ct} (h : Cok C) : ∀ n, ∀ t ∈ seenN C n, t ∈ FIRSTg :: boxC C
  | 0, t, ht => by
    obtain rfl : t = FIRSTg := List.mem_singleton.mp ht
    exact .head _
  | n + 1, t, ht => by
    rw [seen_succ] at ht
    rcases List.mem_append.mp ht with h1 | h1
    · exact seen_box h n t h1
    · rw [lvl_succ, level_has] at h1
      obtain ⟨_, w, h2⟩ := h1
      obtain ⟨q, hq, i, _, hu, _⟩ := mem_moves.mp h2
      exact .tail _ (succ_box h (lvl_ok h n q hq).1.few hu)
theorem tot_le {C : Ct} (h : Cok C) (n : Nat) : tot C n ≤ bndC C := by
  rw [← boxC_len]
  exact len_of_sub (seen_nodup C n) (seen_box h n)
end My
/-! ### what the law needs -/
namespace My
open PySem PySem.Spec PyProof.Rows L2 PySem.Builtin.Str
def PayIn (wd : Int) (M : Mc) : Prop := ∀ cs ∈ M.C, ∀ ps ∈ cs, ∀ p ∈ ps, -wd ≤ p.1 ∧ p.1 ≤ wd
theorem pays_in {wd : Int} {M : Mc} (h : PayIn wd M) : ∀ y ∈ paysL M, -wd ≤ y ∧ y ≤ wd := fun y hy => by
  unfold paysL at hy
  obtain ⟨cs, hcs, hy⟩ := List.mem_flatMap.mp hy
  obtain ⟨ps, hps, hy⟩ := List.mem_flatMap.mp hy
  obtain ⟨p, hp, rfl⟩ := List.mem_map.mp hy
  exact h cs hcs ps hps p hp
theorem bnd_le {C : Ct} (h : Cok C) {wd : Int} (hm : PayIn wd C.M) (hn : PayIn wd C.N) (w0 : 0 ≤ wd) {r a c : Nat} (hr : C.R.length ≤ r) (ha : C.M.C.length ≤ a) (hc : C.N.C.length ≤ c) : bndC C ≤ r * (a * ((4 * wd).toNat + 1) ^ c) + 1 := by
  have a1 := pays_in hm _ (maxL_mem (pays_ne h.m))
  have a2 := pays_in hm _ (minL_mem (pays_ne h.m))
  have a3 := pays_in hn _ (maxL_mem (pays_ne h.n))
  have a4 := pays_in hn _ (minL_mem (pays_ne h.n))
  have b : (C.over + C.below).toNat + 1 ≤ (4 * wd).toNat + 1 := by
    unfold Ct.over Ct.below
    omega
  unfold bndC
  refine Nat.succ_le_succ (Nat.mul_le_mul hr (Nat.mul_le_mul ha ?_))
  exact Nat.le_trans (Nat.pow_le_pow_left b _) (Nat.pow_le_pow_right (Nat.succ_pos _) hc)
theorem other_of {z : Str} (h : lettersL z.cps.toList = true) : ∃ c, c ∈ abc.cps.toList ∧ ¬ c ∈ z.cps.toList := by
  have m : ∀ c, 97 ≤ c → c ≤ 100 → c ∈ abc.cps.toList := by
    intro c h1 h2
    have : c = 97 ∨ c = 98 ∨ c = 99 ∨ c = 100 := by omega
    rcases this with rfl | rfl | rfl | rfl <;> decide +kernel
  by_cases a : 97 ∈ z.cps.toList
  · by_cases b : 98 ∈ z.cps.toList
    · by_cases d : 99 ∈ z.cps.toList
      · by_cases e : 100 ∈ z.cps.toList
        · exfalso
          generalize z.cps.toList = l at *
          unfold lettersL at h
          split at h
          · simp at a b; omega
          · simp at a b d; omega
          · simp at a b d e; omega
          · cases h
        · exact ⟨100, m _ (by decide) (by decide), e⟩
      · exact ⟨99, m _ (by decide) (by decide), d⟩
    · exact ⟨98, m _ (by decide) (by decide), b⟩
  · exact ⟨97, m _ (by decide) (by decide), a⟩
theorem abc_rng : ∀ c ∈ abc.cps.toList, 97 ≤ c ∧ c ≤ 122 := by decide +kernel
theorem sdP {p : Int × Int} (h1 : -wideN ≤ p.1 ∧ p.1 ≤ wideN) (h2 : 0 ≤ p.2 ∧ p.2 ≤ 300) : Sd 1 262 (eP p) := by
  have w := wide_two
  have w2 : wideN.natAbs < 10 ^ 39 := by decide +kernel
  have t : (300 : Nat) < 10 ^ 39 := by decide +kernel
  refine (sd_tup (D := 0) (W := 130) (n := 2) (fun d hd => ?_) (Nat.le_refl _)).mono (Nat.le_refl _) (Nat.le_refl _)
  simp only [List.mem_cons, List.not_mem_nil, or_false] at hd
  rcases hd with rfl | rfl
  · exact sd_int (by omega)
  · exact sd_int (by omega)
/-- a machine of at most two states is small -/
theorem eM_small {M : Mc} (hM : Mok M) (h2 : M.C.length ≤ 2) (h3 : M.z.length ≤ 3) : (eM M).depth ≤ 8 ∧ (eM M).weight ≤ 900000 := by
  have b2 := hM.b2
  have b9 := hM.b9
  have zs := letters_small hM.ltr
  have t9 : (9 : Nat) < 10 ^ 39 := by decide +kernel
  have t : Sd 5 (3 * 300001) (eM M) := by
    refine sd_tup (n := 3) (fun d hd => ?_) (Nat.le_refl _)
    simp only [List.mem_cons, List.not_mem_nil, or_false] at hd
    rcases hd with rfl | rfl | rfl
    · exact (sd_int (by omega)).mono (by decide) (by decide)
    · exact (sd_str zs h3).mono (by decide) (by decide)
    · refine (sd_tup (D := 3) (W := 3 * 790) (n := 2) (fun d hd => ?_) (by rw [List.length_map]; exact h2)).mono (by decide) (by decide)
      obtain ⟨cs, hcs, rfl⟩ := List.mem_map.mp hd
      refine (sd_tup (D := 2) (W := 789) (n := 3) (fun e he => ?_) (by rw [List.length_map, hM.row cs hcs]; exact h3)).mono (by decide) (by decide)
      obtain ⟨ps, hps, rfl⟩ := List.mem_map.mp he
      refine (sd_tup (D := 1) (W := 262) (n := 3) (fun e he => ?_) (by rw [List.length_map]; exact (hM.ch cs hcs ps hps).2)).mono (by decide) (by decide)
      obtain ⟨p, hp, rfl⟩ := List.mem_map.mp he
      obtain ⟨h1, h2', h3', h4⟩ := hM.pr cs hcs ps hps p hp
      exact sdP ⟨h1, h2'⟩ ⟨h3', by omega⟩
  refine ⟨Nat.le_trans t.dp (by decide), ?_⟩
  have h0 : Sd 4 (2 * 2371) (.tuple (M.C.map eS)) := by
    refine sd_tup (D := 3) (W := 3 * 790) (n := 2) (fun d hd => ?_) (by rw [List.length_map]; exact h2)
    obtain ⟨cs, hcs, rfl⟩ := List.mem_map.mp hd
    refine (sd_tup (D := 2) (W := 789) (n := 3) (fun e he => ?_) (by rw [List.length_map, hM.row cs hcs]; exact h3)).mono (by decide) (by decide)
    obtain ⟨ps, hps, rfl⟩ := List.mem_map.mp he
    refine (sd_tup (D := 1) (W := 262) (n := 3) (fun e he => ?_) (by rw [List.length_map]; exact (hM.ch cs hcs ps hps).2)).mono (by decide) (by decide)
    obtain ⟨p, hp, rfl⟩ := List.mem_map.mp he
    obtain ⟨h1, h2', h3', h4⟩ := hM.pr cs hcs ps hps p hp
    exact sdP ⟨h1, h2'⟩ ⟨h3', by omega⟩
  have w1 := (sd_int (i := M.b) (by omega)).wt
  have w2 := (sd_str zs h3).wt
  have w3 := h0.wt
  unfold eM
  rw [PyData.weight, PyData.weightAll, PyData.weightAll, PyData.weightAll, PyData.weightAll]
  omega
theorem fl_ruleT {n : Nat} {z : Str} {R : List (List (Option Int))} (h : lettersL z.cps.toList = true) : Fl (n + 4) (.tuple [.str z, .tuple (rowsD R)]) := .tup (.cons (.str (strOk_of h)) (.cons (.tup (fl_rows R)) .nil))
/-- the three that are asked, and what is due -/
theorem due_wd {CM CX CR : Addr} {M N : Mc} {R : List (List (Option Int))} {aps : List PyData} {e0 e1 e2 d1 d2 d3 : PyData} (hM : Side (eM M) M) (hN : Side (fM N) N) (eb : N.b = M.b) (ez : N.z = M.z) (hw : BadW M N M.z (.tuple [.str M.z, .tuple (rowsD R)]) e0 e1 e2 aps) (rd : rulD (.tuple [.str M.z, .tuple (rowsD R)]) = true)
    (hC : Cok ⟨M, N, R⟩) (few : N.C.length ≤ 60) (fit : ∀ n, tot ⟨M, N, R⟩ n ≤ 2000) (h1 : d1 = eM M ∨ d1 = e0) (h2 : d2 = fM N ∨ d2 = e1) (h3 : d3 = .tuple [.str M.z, .tuple (rowsD R)] ∨ d3 = e2) :
    Wd CM CX CR d1 d2 d3 (dueW d1 d2 d3 (eM M) (fM N) (.tuple [.str M.z, .tuple (rowsD R)]) aps) ∧ (dueW d1 d2 d3 (eM M) (fM N) (.tuple [.str M.z, .tuple (rowsD R)]) aps = "fine" → d1 = eM M) ∧ FlAll 20 [d1, d2, d3, eM M, fM N, .tuple [.str M.z, .tuple (rowsD R)]] := by
  have s1 : PyData.eqv (eM M) (eM M) = true := (fl_eM (n := 0) hM.1.ok).self
  have s2 : PyData.eqv (fM N) (fM N) = true := (fl_fM (n := 0) hN.1.ok).self
  have s3 : PyData.eqv (.tuple [.str M.z, .tuple (rowsD R)]) (.tuple [.str M.z, .tuple (rowsD R)]) = true := (fl_ruleT (n := 0) hM.1.ok.ltr).self
  have f1 : Fl 20 d1 := by
    rcases h1 with rfl | rfl
    · exact fl_eM hM.1.ok
    · exact hw.w0.fl.mono (by decide)
  have f2 : Fl 20 d2 := by
    rcases h2 with rfl | rfl
    · exact fl_fM hN.1.ok
    · exact hw.w1.fl.mono (by decide)
  have f3 : Fl 20 d3 := by
    rcases h3 with rfl | rfl
    · exact fl_ruleT hM.1.ok.ltr
    · exact hw.w2.fl.mono (by decide)
  refine ⟨?_, ?_, .cons f1 (.cons f2 (.cons f3 (.cons (fl_eM hM.1.ok) (.cons (fl_fM hN.1.ok) (.cons (fl_ruleT hM.1.ok.ltr) .nil)))))⟩
  · have fM1 := side_frame hM
    have fN1 := side_frame hN
    unfold dueW
    rcases h1 with rfl | rfl
    · rw [if_neg (by rw [s1]; decide)]
      rcases h2 with rfl | rfl
      · rw [if_neg (by rw [s2]; decide)]
        rcases h3 with rfl | rfl
        · rw [if_neg (by rw [s3]; decide)]
          exact .f ⟨M, N, R⟩ few fit fun er ok o => .inr ⟨M, fM1, .inr ⟨N, fN1, .inr ⟨eb.symm, ez.symm, .inr ⟨R, rfl, rd, hC, o⟩⟩⟩⟩
        · rw [if_pos hw.w2.ne]
          exact .r fun er ok o => .inr ⟨M, fM1, .inr ⟨N, fN1, .inr ⟨eb.symm, ez.symm, .inl ⟨hw.w2.r, o⟩⟩⟩⟩
      · rw [if_pos hw.w1.ne]
        rcases hw.w1.or with ⟨a, N', fr, n⟩ | ⟨a, m, p⟩
        · rw [if_pos a]
          exact .x fun er ok o => .inr ⟨M, fM1, .inr ⟨N', fr, .inl ⟨fun z => n ⟨by rw [eb]; exact z.1, by rw [ez]; exact z.2⟩, o⟩⟩⟩
        · rw [if_neg (by rw [a]; decide)]
          exact .m fun er ok o => .inr ⟨M, fM1, .inl ⟨m, p, o⟩⟩
    · rw [if_pos hw.w0.ne]
      exact .m fun er ok o => .inl ⟨hw.w0.m, hw.w0.p, o⟩
  · intro e
    rcases h1 with rfl | rfl
    · rfl
    · unfold dueW at e
      rw [if_pos hw.w0.ne] at e
      exact absurd e (by decide)
end My
/-! ### the law -/
namespace My
open PySem PySem.Spec PyProof.Rows L2 PySem.Builtin.Str
abbrev sLaw : Stmt := topS 73
theorem scLaw : FnScope ["script", "pen", "turn", "letters", "base", "other", "good", "bad", "apart_ones", "wrong", "one", "two", "rule", "due", "k", "letter"] ["script"] (defScope sLaw) := ⟨rfl, rfl, rfl, by decide +kernel, rfl, by decide +kernel, by decide +kernel⟩
structure LawTxt (K : PySem.W.Frag) (mg : Str → Option Value) : Prop where
  range : mg "range" = none
theorem ix_lstK {X : Cx} {K : PySem.W.Frag} (e : X.K = K) : IxR X (rIxL K) := by
  subst e
  exact ix_list
def TL2 (P1 P2 : Addr) : List (Addr × Str) := [(P1, qAsk), (P2, qGreat)]
def spLaw (K : PySem.W.Frag) (P1 P2 : Addr) : Sp := fun vs H Q _ => ∃ (a : Addr) (ns : List Int), vs = [.ref a] ∧ SqL K H a (ns.map V.int) ∧ ns.length ≤ 63 ∧ H P1 = some (.tbl #[]) ∧ H P2 = some (.tbl #[]) ∧ ∀ H', Q (.bl true) H'
section
variable {P : Program} {w : World} {K : PySem.W.Frag} {mg : Str → Option Value} {base : Heap} {f1 f2 f3 f4 : Addr} {d1 d2 d3 d4 : FuncData} {m1 m2 m3 m4 m5 m6 m7 m8 m9 m10 m11 m12 : Addr} {n1 n2 n3 n4 n5 n6 n7 n8 n9 n10 n11 n12 : FuncData} {t1 t2 t3 t4 t5 t6 : Tok} {a1 a3 : Addr} {b1 b3 : FuncData} {r1 r2 r3 r4 r5 p1 : Addr} {v1 v2 v3 v4 v5 q1 : FuncData} {mR mW : Addr} {nR nW : FuncData} {g1 g2 g3 g4 g5 : Addr} {e1 e2 e3 e4 e5 : FuncData} {fF p7 p8 : Addr} {q7 q8 : FuncData}
  {h1 h2 h3 h4 : Addr} {k1 k2 k3 k4 : FuncData} {C0 C1 C2 C3 C4 C5 C6 C7 C8 C9 C10 C11 CL : Addr} {fW xA xG xD xW xF xL xR xm xp xf xs : Addr} {dW yA yG yD yW yF yL yR ym yp yf ys : FuncData} {c1 c2 P1 P2 : Addr}
theorem ok_law {f : Addr} {fd : FuncData} (F : Fun K "law" "law" sLaw f fd) (hcd1 : yA.code = .ref c1) (hcd2 : yG.code = .ref c2) (hne : P1 ≠ P2) (TP : PenTxt K mg f1 f2 f3 f4 d1 d2 d3 d4) (TPA : PaTxt K mg m1 m2 m3 m4 m5 m6 m7 m8 m9 m10 m11 m12 n1 n2 n3 n4 n5 n6 n7 n8 n9 n10 n11 n12 t1 t2 t3 t4 t5 t6 C0 a1 a3 b1 b3 r1 r2 r3 r4 r5 p1 v1 v2 v3 v4 v5 q1 C8 C3 C10 mR mW nR nW g1 g2 g3 g4 g5 e1 e2 e3 e4 e5 C9 fF p7 p8 q7 q8)
    (TSH : ShTxt K mg m1 m2 m3 m4 m5 m6 m7 m8 m9 m10 m11 m12 n1 n2 n3 n4 n5 n6 n7 n8 n9 n10 n11 n12 t1 t2 t3 t4 t5 C0 a1 a3 b1 b3 r1 r2 r3 r4 r5 p1 v1 v2 v3 v4 v5 q1 C8 C3 C10 mR mW nR nW g1 g2 g3 g4 g5 e1 e2 e3 e4 e5 C9 fF h1 h2 k1 k2)
    (TNV : NvTxt K mg m1 m2 m3 m4 m5 m6 m7 m8 m9 m10 m11 m12 n1 n2 n3 n4 n5 n6 n7 n8 n9 n10 n11 n12 t1 t2 t3 t4 t5 C0 a1 a3 b1 b3 r1 r2 r3 r4 r5 p1 v1 v2 v3 v4 v5 q1 C8 C3 C10 mR mW nR nW g1 g2 g3 g4 g5 e1 e2 e3 e4 e5 C9 fF h3 h4 k3 k4)
    (TE : WordTxt K mg C0 C1 C2 C3 C4 C5 C6 C7 C8 C9 C10 C11 CL) (TW : WT K mg fW dW) (TA : AskTxt K mg xA yA) (TG : GreatTxt K mg xF yF xG yG) (TD : DueTxt K mg xD yD) (TX : WrTxt K mg xW yW) (TL : LetTxt K mg xL yL) (TB : BlTxt K mg xm xp xf xs ym yp yf ys) (TR : RulTxt K mg xR yR) (T : LawTxt K mg)
    (hTB1 : LamX.TabB base mg c1 P1) (hTB2 : LamX.TabB base mg c2 P2) : FnG P w K mg base CX0 19 f fd ["script"] (spLaw K P1 P2) := by
  have GO : FnOk P w K mg base CX0 18 f2 d2 ["script"] (spOpen K) := ok_open TP (k := 17)
  have GT : FnOk P w K mg base CX0 18 f3 d3 ["pen", "many"] spTake := ok_take TP (k := 16)
  have GTC : FnOk P w K mg base CX0 18 f3 d3 ["pen", "many"] spTakeC := ok_takeC TP (k := 16)
  have GPK : FnOk P w K mg base CX0 18 f4 d4 ["pen", "some"] (spPick K) := ok_pick TP (k := 15)
  have GL : FnOk P w K mg base CX0 18 xL yL ["pen"] spXLetters := ok_xLetters TP TL (k := 14)
  have GM : FnOk P w K mg base CX0 18 xm ym ["pen", "base", "letters", "most", "wide"] (spMach3 K) := ok_mach3 TP TB (k := 14)
  have GPL : FnOk P w K mg base CX0 18 xp yp ["pen", "base", "letters", "most", "wide"] (spPln3 K) := ok_pln3 TP TB (k := 14)
  have GR : FnOk P w K mg base CX0 18 xR yR ["pen", "letters", "most"] (spXRule K) := ok_xRule TP TR (k := 14)
  have GW : FnOk P w K mg base CX0 18 xW yW ["pen", "base", "letters", "other", "good"] (spWrong K) := ok_wrong TP TB TG.fr TX (k := 13)
  have GD : FnOk P w K mg base CX0 18 xD yD ["one", "two", "rule", "good", "apart_ones"] (spDue K) := ok_due TD (k := 17)
  have GA : FnG P w K mg base CX0 18 xA yA ["pen", "one", "two", "rule", "due"] (spAsk K C0 C8 C3 (TL2 P1 P2)) := ok_ask hcd1 TP TPA TSH TNV TE TW TA hTB1 (.head _) fun q hq e => by
    simp only [TL2, List.mem_cons, List.not_mem_nil, or_false] at hq
    rcases hq with rfl | rfl
    · rfl
    · exact absurd e.symm hne
  have GG : FnG P w K mg base CX0 18 xG yG ["pen"] (spGreat K (TL2 P1 P2)) := ok_great hcd2 TP TPA TNV TE TW TG hTB2 (.tail _ (.head _)) fun q hq e => by
    simp only [TL2, List.mem_cons, List.not_mem_nil, or_false] at hq
    rcases hq with rfl | rfl
    · exact absurd e hne
    · rfl
  refine Fun.okG F scLaw (fun vs H Q E h => ?_) (fun cdv A outer s H vs Q E hgd hr h => ?_)
  · obtain ⟨a, ns, rfl, _⟩ := h
    rfl
  · obtain ⟨a, ns, rfl, hS, hl63, hT1, hT2, q⟩ := h
    refine ⟨_, PSs.nox (pss_cons (ps_set (i := 1) scLaw.nd rfl (.inr rfl) (pe_call GO hr (by rfl) TP.gOpen TP.FOpen.kp TP.bOpen .nil pass0 (pa_cons (pv 0) pa_nil)))
 (pss_cons (ps_for PassesOwn.never rfl (pi_range1 (by rfl) T.range (pa_cons pe_int pa_nil)) (pg_name (i := 2) scLaw.nd rfl (.inl rfl))
 (Evl.pss_cut (ps_asg (pe_tup (pa_cons (pe_call GL hr (by rfl) TL.gXLetters TL.FXLetters.kp TL.bXLetters .nil pass0 (pa_cons (pv 1) pa_nil)) (pa_cons (pe_op op_add pe_int (pe_call GT hr (by rfl) TP.gTake TP.FTake.kp TP.bTake .nil pass0 (pa_cons (pv 1) (pa_cons pe_int pa_nil)))) pa_nil))) (pg_tup rfl (pgs_cons (pg_name (i := 3) scLaw.nd rfl (.inr rfl)) (pgs_cons (pg_name (i := 4) scLaw.nd rfl (.inl rfl)) pgs_nil))))
 (Evl.pss_cut (ps_set (i := 5) scLaw.nd rfl (.inl rfl) (pe_call GPK hr (by rfl) TP.gPick TP.FPick.kp TP.bPick .nil pass0 (pa_cons (pv 1) (pa_cons (pe_lc (own := [("letter", 15)]) (g := gName 15) (by rfl) scLaw.nd (pi_str pe_str) (blkOk_by (N := ["script", "pen", "turn", "letters", "base", "other", "good", "bad", "apart_ones", "wrong", "one", "two", "rule", "due", "k", "letter"]) (sc := defScope sLaw) (by decide +kernel)) (fun _ _ _ _ _ => pg_name (i := 15) scLaw.nd rfl (Or.inl rfl)) (fun _ _ _ _ _ => (pts_one (pt_cmpR op_notIn_sign (pv 15) (pv 3) (by rfl)))) (fun _ _ _ _ _ => (pv 15))) pa_nil))))
 (Evl.pss_cut (ps_set (i := 6) scLaw.nd rfl (.inr rfl) (pe_lst (pa_cons (pe_call GM hr (by rfl) TB.gXMachineB TB.FXMachineB.kp TB.bXMachineB .nil pass0 (pa_cons (pv 1) (pa_cons (pv 4) (pa_cons (pv 3) (pa_cons pe_int (pa_cons pe_int pa_nil)))))) (pa_cons (pe_call GPL hr (by rfl) TB.gXPlainB TB.FXPlainB.kp TB.bXPlainB .nil pass0 (pa_cons (pv 1) (pa_cons (pv 4) (pa_cons (pv 3) (pa_cons pe_int (pa_cons pe_int pa_nil)))))) pa_nil))))
 (Evl.pss_cut (ps_expr (pe_bm PySem.F.plainAttrs_list PySem.F.slot_list_append PySem.F.type_list_append mt_append (pv 6) (pa_cons (pe_call GR hr (by rfl) TR.gXRule TR.FXRule.kp TR.bXRule .nil pass0 (pa_cons (pv 1) (pa_cons (pv 3) (pa_cons pe_int pa_nil)))) pa_nil)))
 (Evl.pss_cut (ps_asg (pe_call GW hr (by rfl) TX.gXWrong TX.FXWrong.kp TX.bXWrong .nil pass0 (pa_cons (pv 1) (pa_cons (pv 4) (pa_cons (pv 3) (pa_cons (pv 5) (pa_cons (pv 6) pa_nil)))))) (pg_tup rfl (pgs_cons (pg_name (i := 7) scLaw.nd rfl (.inr rfl)) (pgs_cons (pg_name (i := 8) scLaw.nd rfl (.inl rfl)) pgs_nil))))
 (Evl.pss_cut (ps_set (i := 9) scLaw.nd rfl (.inr rfl) (pe_lc (own := [("k", 14)]) (g := gName 14) (tt := tYes) (by rfl) scLaw.nd (pi_range1 (by rfl) T.range (pa_cons pe_int pa_nil)) (blkOk_by (N := ["script", "pen", "turn", "letters", "base", "other", "good", "bad", "apart_ones", "wrong", "one", "two", "rule", "due", "k", "letter"]) (sc := defScope sLaw) (by decide +kernel)) (fun _ _ _ _ _ => pg_name (i := 14) scLaw.nd rfl (Or.inl rfl)) (fun _ _ _ _ _ => pts_nil) (fun _ _ _ _ _ => (pe_cmpR op_eq (pe_call GTC hr (by rfl) TP.gTake TP.FTake.kp TP.bTake .nil pass0 (pa_cons (pv 1) (pa_cons pe_int pa_nil))) pe_int (nomark _)))))
 (Evl.pss_cut (ps_asg (pe_lc (own := [("k", 14)]) (g := gName 14) (tt := tYes) (by rfl) scLaw.nd (pi_range1 (by rfl) T.range (pa_cons pe_int pa_nil)) (blkOk_by (N := ["script", "pen", "turn", "letters", "base", "other", "good", "bad", "apart_ones", "wrong", "one", "two", "rule", "due", "k", "letter"]) (sc := defScope sLaw) (by decide +kernel)) (fun _ _ _ _ _ => pg_name (i := 14) scLaw.nd rfl (Or.inl rfl)) (fun _ _ _ _ _ => pts_nil) (fun _ _ _ _ _ => (pe_ifExp (pt_val (pe_ix (ix_lstK (K := K) rfl) (pv 9) (pv 14) (fun _ _ => rfl))) (pe_ix (ix_lstK (K := K) rfl) (pv 7) (pv 14) (fun _ _ => rfl)) (pe_ix (ix_lstK (K := K) rfl) (pv 6) (pv 14) (fun _ _ => rfl))))) (pg_lst rfl (pgs_cons (pg_name (i := 10) scLaw.nd rfl (.inl rfl)) (pgs_cons (pg_name (i := 11) scLaw.nd rfl (.inl rfl)) (pgs_cons (pg_name (i := 12) scLaw.nd rfl (.inl rfl)) pgs_nil)))))
 (Evl.pss_cut (ps_set (i := 13) scLaw.nd rfl (.inl rfl) (pe_call GD hr (by rfl) TD.gXDue TD.FXDue.kp TD.bXDue .nil pass0 (pa_cons (pv 10) (pa_cons (pv 11) (pa_cons (pv 12) (pa_cons (pv 6) (pa_cons (pv 8) pa_nil)))))))
 (pss_one (ps_if (pt_not (pt_val (pe_callG GA hgd hr (by rfl) TA.gAsk TA.FAsk.kp TA.bAsk .nil pass0 (pa_cons (pv 1) (pa_cons (pv 10) (pa_cons (pv 11) (pa_cons (pv 12) (pa_cons (pv 13) pa_nil)))))))) (pss_one (ps_ret pe_bl)) pss_nil)))))))))))
 (pss_one (ps_ret (pe_or (pe_cmpR op_eq (pe_call GT hr (by rfl) TP.gTake TP.FTake.kp TP.bTake .nil pass0 (pa_cons (pv 1) (pa_cons pe_int pa_nil))) pe_int (nomark _)) (pe_one (pe_callG GG hgd hr (by rfl) TG.gGreat TG.FGreat.kp TG.bGreat .nil pass0 (pa_cons (pv 1) pa_nil)))))))), ?_⟩
    have room : ∀ {m : Nat}, m ≤ 1000 → m ≤ sizeLine := fun h => Nat.le_trans h (by decide)
    have roomL : ∀ {m : Nat}, m ≤ 1000 → m < sizeLine := fun h => Nat.lt_of_le_of_lt h (by decide)
    refine ⟨_, rfl, a, ns, rfl, hS, hl63, fun H0 p s0 np hP0 => ?_⟩
    have hT0 : LamX.Tabs (TL2 P1 P2) H0 := fun x hx => by
      simp only [TL2, List.mem_cons, List.not_mem_nil, or_false] at hx
      rcases hx with rfl | rfl
      · exact LamX.TabS.nil (s0 _ _ hT1)
      · exact LamX.TabS.nil (s0 _ _ hT2)
    clear hT1 hT2
    refine ⟨6, rfl, by decide, by decide, for_range (lo := 0) (n := 6) (fun i σ H' => ∃ v2 v3 v4 v5 v6 v7 v8 v9 v10 v11 v12 v13 v14 v15 : Option V, σ = [some (.ref a), some (.ref p), v2, v3, v4, v5, v6, v7, v8, v9, v10, v11, v12, v13, v14, v15] ∧ Pen H' p (500 * i) ∧ LamX.Tabs (TL2 P1 P2) H')
      ⟨none, none, none, none, none, none, none, none, none, none, none, none, none, none, rfl, hP0, hT0⟩ ?_ ?_⟩
    · rintro i σ H hi ⟨v2, v3, v4, v5, v6, v7, v8, v9, v10, v11, v12, v13, v14, v15, rfl, hP, hT⟩
      -- letters, base
      refine ⟨fun σ H' => ∃ (z : Str) (b : Int), σ = [some (.ref a), some (.ref p), some (.int (0 + (i : Int))), some (.str z), some (.int b), v5, v6, v7, v8, v9, v10, v11, v12, v13, v14, v15] ∧ Pen H' p (500 * i + 5) ∧ LamX.Tabs (TL2 P1 P2) H' ∧ lettersL z.cps.toList = true ∧ 2 ≤ b ∧ b ≤ 8, ?_, ?_⟩
      · refine ⟨_, rfl, p, _, rfl, hP, by omega, fun H1 z b1 hP1 hl => ⟨_, rfl, p, 7, _, rfl, hP1, by omega, by decide, by decide, fun H2 k0 b2 hP2 k00 k01 => ⟨_, _, rfl, rfl, room (by show 2 ≤ _; omega), fun t ht => ?_⟩⟩⟩
        have xt := same_upd (o := HO.tup [V.str z, V.int (2 + k0)]) ht
        exact ⟨t, _, rfl, SqT.of upd_same, rfl, _, _, rfl, _, _, rfl, rfl, z, 2 + k0, rfl, hP2.same xt, tabs_same (tabs_pen (tabs_pen hT hP b1) hP1 b2) xt, hl, by omega, by omega⟩
      clear hP hT
      rintro σ H ⟨z, b, rfl, hP, hT, hl, b2, b8⟩
      have z3 : z.length ≤ 3 := ltrD_len (d := .str z) hl
      -- other
      refine ⟨fun σ H' => ∃ o : Nat, σ = [some (.ref a), some (.ref p), some (.int (0 + (i : Int))), some (.str z), some (.int b), some (.str ⟨#[o]⟩), v6, v7, v8, v9, v10, v11, v12, v13, v14, v15] ∧ Pen H' p (500 * i + 6) ∧ LamX.Tabs (TL2 P1 P2) H' ∧ 97 ≤ o ∧ o ≤ 122 ∧ o ∉ z.cps.toList, ?_, ?_⟩
      · refine ⟨_, rfl, abc, rfl, fun D nD => ?_⟩
        refine lc_it walk_str (fun j H' => Same H H' ∧ H' D = some (.lst (((abc.cps.toList.take j).filter fun c => !decide (c ∈ z.cps.toList)).map fun c => V.str ⟨#[c]⟩))) ⟨same_upd nD, upd_same⟩ (fun _ _ _ _ => trivial) ?_ ?_
        · rintro j u H' H3 hj ⟨sm, hD⟩ ⟨rfl, cc, hcc, rfl⟩
          have hc2 : abc.cps.toList[j]? = some cc := by rw [Array.getElem?_toList]; exact hcc
          refine ⟨rfl, ?_⟩
          refine ⟨_, rfl, _, rfl, cc, z, rfl, rfl, _, rfl, ite2 (fun u => ?_) (fun u => ?_)⟩
          · refine ⟨_, rfl, _, hD, ?_, same_new sm nD, ?_⟩
            · rw [List.length_map]
              have h1 := List.length_filter_le (fun c => !decide (c ∈ z.cps.toList)) (abc.cps.toList.take j)
              have h2 := List.length_take_le' j abc.cps.toList
              have h3 : abc.cps.toList.length = 26 := by decide +kernel
              exact Nat.lt_of_le_of_lt (show _ ≤ 26 by omega) (by decide)
            · rw [upd_same, List.take_succ, hc2, List.filter_append, List.map_append]
              show _ = some (HO.lst (_ ++ (List.filter _ [cc]).map _))
              rw [List.filter_cons, u]
              rfl
          · refine ⟨sm, ?_⟩
            rw [hD, List.take_succ, hc2, List.filter_append]
            show _ = some (HO.lst ((_ ++ List.filter _ [cc]).map _))
            rw [List.filter_cons, eq_false_of_ne_true u]
            simp
        · rintro H' ⟨sm, hD⟩
          rw [show abc.cps.size = abc.cps.toList.length from Array.length_toList.symm, List.take_length] at hD
          have hle := List.length_filter_le (fun c => !decide (c ∈ z.cps.toList)) abc.cps.toList
          have h26 : abc.cps.toList.length = 26 := by decide +kernel
          obtain ⟨c0, hc0, hn0⟩ := other_of hl
          have hpos := List.length_pos_of_mem (List.mem_filter (p := fun c => !decide (c ∈ z.cps.toList)) |>.mpr ⟨hc0, show (!decide (c0 ∈ z.cps.toList)) = true by rw [decide_eq_false hn0]; rfl⟩)
          refine ⟨p, D, _, _, rfl, hP.same sm, by omega, SqL.of hD, new_ne hP nD, (by rw [List.length_map]; exact hpos), (by rw [List.length_map]; omega), fun H2 m v b2 hP2 hm => ?_⟩
          rw [List.getElem?_map] at hm
          cases e : (abc.cps.toList.filter fun c => !decide (c ∈ z.cps.toList))[m]? with
          | none =>
            rw [e] at hm
            cases hm
          | some c1 =>
            rw [e] at hm
            obtain rfl := Option.some.inj hm
            obtain ⟨q1, q2⟩ := List.mem_filter.mp (List.mem_of_getElem? e)
            obtain ⟨o1, o2⟩ := abc_rng c1 q1
            refine ⟨c1, rfl, hP2, tabs_pen (tabs_same hT sm) (hP.same sm) b2, o1, o2, fun h => ?_⟩
            rw [decide_eq_true h] at q2
            cases q2
      clear hP hT
      rintro σ H ⟨o, rfl, hP, hT, o1, o2, no⟩
      -- good
      refine ⟨fun σ H' => ∃ (G : Addr) (x0 x1 : V) (M N : Mc), σ = [some (.ref a), some (.ref p), some (.int (0 + (i : Int))), some (.str M.z), some (.int M.b), some (.str ⟨#[o]⟩), some (.ref G), v7, v8, v9, v10, v11, v12, v13, v14, v15] ∧ Pen H' p (500 * i + 156) ∧ LamX.Tabs (TL2 P1 P2) H' ∧ M.b = b ∧ M.z = z ∧ G ≠ p ∧ H' G = some (.lst [x0, x1]) ∧ Rs p K H' x0 (eM M) ∧ Rs p K H' x1 (fM N) ∧ Side (eM M) M ∧ Side (fM N) N ∧ N.b = b ∧ N.z = z ∧ M.C.length ≤ 2 ∧ N.C.length ≤ 1 ∧ PayIn 1 M ∧ PayIn 1 N, ?_, ?_⟩
      · obtain ⟨c, hPc⟩ := hP.at
        refine ⟨_, rfl, _, rfl, _, rfl, p, c, _, b, z, 2, 1, rfl, hPc, by omega, hl, b2, by omega, by decide, by decide, by decide, by decide, fun H1 t0 M bt1 hP1 nt0 r0 sM bM zM lM pM => ?_⟩
        refine ⟨_, rfl, _, rfl, _, rfl, p, c, _, b, z, 1, 1, rfl, hP1, by omega, hl, b2, by omega, by decide, by decide, by decide, by decide +kernel, fun H2 t1 N bt2 hP2 nt1 r1 sN bN zN lN pN => ⟨room (by show 2 ≤ _; omega), fun G nG => ?_⟩⟩
        have xG := same_upd (o := HO.lst [V.ref t0, V.ref t1]) nG
        have r0' := (rs_of hP1.pen r0 (tO_eM M)).go (butN_but bt2) |>.go (butN_same xG)
        have r1' := (rs_of hP2.pen r1 (tO_fM N)).go (butN_same xG)
        subst bM zM
        exact ⟨G, .ref t0, .ref t1, M, N, rfl, (hP2.same xG).pen.mono (by omega), tabs_same (tabs_pen (tabs_pen hT hP bt1) hP1.pen bt2) xG, rfl, rfl, new_ne hP2.pen nG, upd_same, r0', r1', sM, sN, bN, zN, by omega, by omega, pM, pN⟩
      clear hP hT
      rintro σ H ⟨G, x0, x1, M, N, rfl, hP, hT, rfl, rfl, nGp, hG, rx0, rx1, sM, sN, bN, zN, lM, lN, pM, pN⟩
      -- the rule
      refine ⟨fun σ H' => ∃ (x2 : V) (r : List (Option Int)) (R : List (List (Option Int))), σ = [some (.ref a), some (.ref p), some (.int (0 + (i : Int))), some (.str M.z), some (.int M.b), some (.str ⟨#[o]⟩), some (.ref G), v7, v8, v9, v10, v11, v12, v13, v14, v15] ∧ Pen H' p (500 * i + 201) ∧ LamX.Tabs (TL2 P1 P2) H' ∧ H' G = some (.lst [x0, x1, x2]) ∧ Rs p K H' x0 (eM M) ∧ Rs p K H' x1 (fM N) ∧ Rs p K H' x2 (.tuple [.str M.z, .tuple (rowsD (r :: R))]) ∧ rulD (.tuple [.str M.z, .tuple (rowsD (r :: R))]) = true ∧ (r :: R).length ≤ 2 ∧ ∀ q ∈ r :: R, RowOk M.z.length (r :: R).length q, ?_, ?_⟩
      · refine ⟨_, rfl, .inl ⟨rfl, _, SqL.of hG⟩, _, rfl, _, rfl, p, _, M.z, 2, rfl, hP, by omega, hl, by decide, by decide, fun H1 t rows bt hP1 rt rd r1 r2 rok => ?_⟩
        have hG1 := bt _ _ nGp hG
        obtain ⟨ax0, _, rfl, _, _⟩ := rs_open (ds := [.int M.b, .str M.z, .tuple (M.C.map eS)]) hP rx0 (tO_eM M)
        have tl : TStay K H1 (upd H1 G (.lst ([.ref ax0, x1] ++ [.ref t]))) := ts_lst hG1
        have hP2 : Pen (upd H1 G (.lst ([.ref ax0, x1] ++ [.ref t]))) p (500 * i + 156 + 45) := pen_upd hP1 nGp hG1 fun is z => by
          cases is with
          | nil => cases z
          | cons j js => cases z
        cases rows with
        | nil => exact absurd r1 (by show ¬ 1 ≤ 0; decide)
        | cons r R =>
        exact ⟨G, _, _, rfl, rfl, hG1, roomL (by show 2 ≤ _; omega), _, r, R, rfl, hP2.mono (by omega), tabs_upd (tabs_pen hT hP bt) hG1 (fun _ z => nomatch z) (fun _ _ z => nomatch z), upd_same, rs_of hP2 (rp_ts tl (rx0.go (butN_but bt)).rp (tO_eM M)) (tO_eM M), rs_of hP2 (rp_ts tl (rx1.go (butN_but bt)).rp (tO_fM N)) (tO_fM N), rs_of hP2 (rp_ts tl rt.rp (tO_rule ⟨M, N, r :: R⟩)) (tO_rule ⟨M, N, r :: R⟩), rd, by omega, rok⟩
      clear hP hT hG rx0 rx1
      rintro σ H ⟨x2, r, R, rfl, hP, hT, hG, rx0, rx1, rx2, rd, lR, rok⟩
      have hC : Cok ⟨M, N, r :: R⟩ := ⟨sM.1.ok, sN.1.ok, bN, zN, Nat.succ_le_succ (Nat.zero_le _), by show (r :: R).length ≤ 4; omega, rok⟩
      have fit : ∀ n, tot ⟨M, N, r :: R⟩ n ≤ 2000 := fun n => Nat.le_trans (tot_le hC n) (Nat.le_trans (bnd_le hC (wd := 1) pM pN (by decide) (r := 2) (a := 2) (c := 1) lR lM lN) (by decide))
      -- the wrong ones
      refine ⟨fun σ H' => ∃ (B A : Addr) (y0 y1 y2 : V) (as : List V) (e0 e1 e2 : PyData) (aps : List PyData), σ = [some (.ref a), some (.ref p), some (.int (0 + (i : Int))), some (.str M.z), some (.int M.b), some (.str ⟨#[o]⟩), some (.ref G), some (.ref B), some (.ref A), v9, v10, v11, v12, v13, v14, v15] ∧ Pen H' p (500 * i + 401) ∧ LamX.Tabs (TL2 P1 P2) H' ∧ H' G = some (.lst [x0, x1, x2]) ∧ Rs p K H' x0 (eM M) ∧ Rs p K H' x1 (fM N) ∧ Rs p K H' x2 (.tuple [.str M.z, .tuple (rowsD (r :: R))]) ∧ H' B = some (.lst [y0, y1, y2]) ∧ H' A = some (.lst as) ∧ B ≠ p ∧ A ≠ p ∧ Rs p K H' y0 e0 ∧ Rs p K H' y1 e1 ∧ Rs p K H' y2 e2 ∧ RsAll p K H' as aps ∧ BadW M N M.z (.tuple [.str M.z, .tuple (rowsD (r :: R))]) e0 e1 e2 aps, ?_, ?_⟩
      · refine ⟨_, rfl, _, rfl, _, rfl, _, rfl, _, rfl, p, G, _, M, N, o, x0, x1, x2, r, R, rfl, hP, by omega, nGp, hG, rx0, rx1, rx2, sM, sN, bN, zN, b8, o1, o2, no, rok r (.head _), fun H1 t B A y0 y1 y2 as e0 e1 e2 aps bt hP1 ht hB hA nB nA ry0 ry1 ry2 ras hw => ?_⟩
        exact ⟨t, _, rfl, SqT.of ht, rfl, _, _, rfl, _, _, rfl, rfl, B, A, y0, y1, y2, as, e0, e1, e2, aps, rfl, hP1.mono (by omega), tabs_pen hT hP bt, bt _ _ nGp hG, rx0.go (butN_but bt), rx1.go (butN_but bt), rx2.go (butN_but bt), hB, hA, nB, nA, ry0, ry1, ry2, ras, hw⟩
      clear hP hT hG rx0 rx1 rx2
      rintro σ H ⟨B, A, y0, y1, y2, as, e0, e1, e2, aps, rfl, hP, hT, hG, rx0, rx1, rx2, hB, hA, nB, nA, ry0, ry1, ry2, ras, hw⟩
      refine ⟨fun σ H' => ∃ (W : Addr) (w0 w1 w2 : Bool), σ = [some (.ref a), some (.ref p), some (.int (0 + (i : Int))), some (.str M.z), some (.int M.b), some (.str ⟨#[o]⟩), some (.ref G), some (.ref B), some (.ref A), some (.ref W), v10, v11, v12, v13, v14, v15] ∧ Go (TL2 P1 P2) p (500 * i + 404) H H' ∧ H' W = some (.lst [.bl w0, .bl w1, .bl w2]) ∧ W ≠ p, ?_, ?_⟩
      · have g0 : Go (TL2 P1 P2) p (500 * i + 401) H H := ⟨ButN.refl p H, hP, hT⟩
        obtain ⟨c, hPc⟩ := hP.at
        obtain ⟨_, _, _, hp1, hc1, _⟩ := hPc.ex
        refine ⟨3, rfl, by decide, by decide, fun D nD => ?_⟩
        have nDp := new_ne hP nD
        have nDc : D ≠ c := (ne_of_none hc1 nD).symm
        refine lc_range (lo := 0) (n := 3) (fun j H' => ∃ bs : List Bool, But p H H' ∧ PenC H' p c (500 * i + 401 + j) ∧ H' D = some (.lst (bs.map V.bl)) ∧ bs.length = j) ⟨[], But.of (same_upd nD), hPc.same (same_upd nD), upd_same, rfl⟩ ?_ ?_
        · rintro j H' hj ⟨bs, bj, hPj, hD, lj⟩
          refine ⟨rfl, ?_⟩
          refine ⟨_, rfl, p, c, 4, _, rfl, hPj, by omega, by decide, by decide, fun H2 k2 b2 hP2 k20 k21 => ⟨rfl, ?_⟩⟩
          refine ⟨_, b2 _ _ nDp hD, ?_, bs ++ [decide (V.int k2 = V.int 0)], ?_, ?_, ?_, ?_⟩
          · rw [List.length_map, lj]
            exact Nat.lt_of_lt_of_le hj (by decide)
          · intro b o nb e
            rw [upd_ne (ne_of_none e nD)]
            exact b2 _ _ nb (bj _ _ nb e)
          · exact hP2.keep (fun o e => by rw [upd_ne nDp.symm]; exact e) (fun o e => by rw [upd_ne nDc.symm]; exact e)
          · rw [upd_same, List.map_append]
            rfl
          · rw [List.length_append, lj]
            rfl
        · rintro H' ⟨bs, bj, hPj, hD, lj⟩
          match bs, lj, hD with
          | [w0, w1, w2], _, hD => exact ⟨D, w0, w1, w2, rfl, (g0.but bj hPj.pen).mono (by omega), hD, nDp⟩
      rintro σ H1 ⟨W, w0, w1, w2, rfl, g1, hW, nW⟩
      have e3 : ∀ j, j < 3 → ∃ (wj : Bool) (yj xj : V), ([V.bl w0, .bl w1, .bl w2] : List V)[j]? = some (.bl wj) ∧ ([y0, y1, y2] : List V)[j]? = some yj ∧ ([x0, x1, x2] : List V)[j]? = some xj ∧ ([if w0 = true then y0 else x0, if w1 = true then y1 else x1, if w2 = true then y2 else x2] : List V)[j]? = some (if wj = true then yj else xj) := fun j hj => by
        match j, hj with
        | 0, _ => exact ⟨w0, y0, x0, rfl, rfl, rfl, rfl⟩
        | 1, _ => exact ⟨w1, y1, x1, rfl, rfl, rfl, rfl⟩
        | 2, _ => exact ⟨w2, y2, x2, rfl, rfl, rfl, rfl⟩
      have hG1 := g1.1 _ _ nGp hG (fun _ z => nomatch z)
      have hB1 := g1.1 _ _ nB hB (fun _ z => nomatch z)
      -- the three
      refine ⟨fun σ H' => σ = [some (.ref a), some (.ref p), some (.int (0 + (i : Int))), some (.str M.z), some (.int M.b), some (.str ⟨#[o]⟩), some (.ref G), some (.ref B), some (.ref A), some (.ref W), some (if w0 = true then y0 else x0), some (if w1 = true then y1 else x1), some (if w2 = true then y2 else x2), v13, v14, v15] ∧ Go (TL2 P1 P2) p (500 * i + 404) H H', ?_, ?_⟩
      · refine ⟨3, rfl, by decide, by decide, fun D nD => ?_⟩
        refine lc_range (lo := 0) (n := 3) (fun j H' => Same H1 H' ∧ H' D = some (.lst (([if w0 = true then y0 else x0, if w1 = true then y1 else x1, if w2 = true then y2 else x2] : List V).take j))) ⟨same_upd nD, upd_same⟩ ?_ ?_
        · rintro j H' hj ⟨sj, hD⟩
          refine ⟨rfl, ?_⟩
          obtain ⟨wj, yj, xj, ew, ey, ex, e⟩ := e3 j hj
          have fin : ∀ v : V, (if wj = true then yj else xj) = v → ∃ xs, H' D = some (.lst xs) ∧ xs.length < sizeLine ∧ Same H1 (upd H' D (.lst (xs ++ [v]))) ∧ (upd H' D (.lst (xs ++ [v]))) D = some (.lst (([if w0 = true then y0 else x0, if w1 = true then y1 else x1, if w2 = true then y2 else x2] : List V).take (j + 1))) := fun v hv => by
            refine ⟨_, hD, ?_, same_new sj nD, ?_⟩
            · have := List.length_take_le' j ([if w0 = true then y0 else x0, if w1 = true then y1 else x1, if w2 = true then y2 else x2] : List V)
              exact Nat.lt_of_le_of_lt this (by show 3 < _; decide)
            · rw [upd_same, List.take_succ, e, hv]
              rfl
          refine ⟨_, rfl, _, rfl, W, _, (0 + (j : Int)), _, rfl, rfl, SqL.of (sj _ _ hW), (by rw [Int.zero_add]; exact atI_nat ew), wj, rfl, ite2 (fun u => ?_) (fun u => ?_)⟩
          · refine ⟨_, rfl, _, rfl, B, _, (0 + (j : Int)), _, rfl, rfl, SqL.of (sj _ _ hB1), (by rw [Int.zero_add]; exact atI_nat ey), ?_⟩
            exact fin yj (if_pos u)
          · refine ⟨_, rfl, _, rfl, G, _, (0 + (j : Int)), _, rfl, rfl, SqL.of (sj _ _ hG1), (by rw [Int.zero_add]; exact atI_nat ex), ?_⟩
            exact fin xj (if_neg u)
        · rintro H' ⟨sj, hD⟩
          exact ⟨D, _, rfl, SqL.of hD, rfl, _, _, rfl, _, _, rfl, _, _, rfl, rfl, rfl, g1.same sj⟩
      clear g1 hW hG1 hB1 e3
      rintro σ H1 ⟨rfl, g1⟩
      have hd1 : Rs p K H1 (if w0 = true then y0 else x0) (if w0 = true then e0 else eM M) := by
        cases w0
        · exact rx0.go g1.1
        · exact ry0.go g1.1
      have hd2 : Rs p K H1 (if w1 = true then y1 else x1) (if w1 = true then e1 else fM N) := by
        cases w1
        · exact rx1.go g1.1
        · exact ry1.go g1.1
      have hd3 : Rs p K H1 (if w2 = true then y2 else x2) (if w2 = true then e2 else .tuple [.str M.z, .tuple (rowsD (r :: R))]) := by
        cases w2
        · exact rx2.go g1.1
        · exact ry2.go g1.1
      have cs : ∀ {u : Bool} {d e : PyData}, (if u = true then e else d) = d ∨ (if u = true then e else d) = e := fun {u d e} => by
        cases u
        · exact .inl rfl
        · exact .inr rfl
      obtain ⟨hWd, hfine, hFl⟩ := due_wd (CM := C0) (CX := C8) (CR := C3) (d1 := if w0 = true then e0 else eM M) (d2 := if w1 = true then e1 else fM N) (d3 := if w2 = true then e2 else .tuple [.str M.z, .tuple (rowsD (r :: R))]) sM sN bN zN hw rd hC (by omega) fit cs cs cs
      -- what is due
      generalize (if w0 = true then y0 else x0) = x at *
      generalize (if w1 = true then y1 else x1) = y at *
      generalize (if w2 = true then y2 else x2) = rr at *
      generalize (if w0 = true then e0 else eM M) = dx at *
      generalize (if w1 = true then e1 else fM N) = dy at *
      generalize (if w2 = true then e2 else PyData.tuple [.str M.z, .tuple (rowsD (r :: R))]) = dr at *
      refine ⟨fun σ H' => σ = [some (.ref a), some (.ref p), some (.int (0 + (i : Int))), some (.str M.z), some (.int M.b), some (.str ⟨#[o]⟩), some (.ref G), some (.ref B), some (.ref A), some (.ref W), some x, some y, some rr, some (.str (dueW dx dy dr (eM M) (fM N) (.tuple [.str M.z, .tuple (rowsD (r :: R))]) aps)), v14, v15] ∧ H' = H1, ?_, ?_⟩
      · refine ⟨_, rfl, _, rfl, _, rfl, _, rfl, _, rfl, x, y, rr, G, A, _, _, dx, dy, dr, eM M, fM N, _, aps, rfl, hd1.rp, hd2.rp, hd3.rp, g1.1 _ _ nGp hG (fun _ z => nomatch z), .cons (rx0.go g1.1).rp (.cons (rx1.go g1.1).rp (.cons (rx2.go g1.1).rp .nil)), g1.1 _ _ nA hA (fun _ z => nomatch z), (ras.go g1.1).rp, hFl, ⟨hw.fl.lay, Nat.le_trans hw.fl.dp (by decide)⟩, rfl, rfl⟩
      rintro σ H2 ⟨rfl, rfl⟩
      -- asked
      refine ⟨_, rfl, _, rfl, _, rfl, _, rfl, _, rfl, p, _, x, y, rr, dx, dy, dr, _, rfl, g1.pen, by omega, hd1, hd2, hd3, hWd, fun e => ⟨M.b, M.z, _, hfine e, by rw [hfine e]; exact (eM_small sM.1.ok lM z3).1, by rw [hfine e]; exact (eM_small sM.1.ok lM z3).2⟩, g1.2.2, fun H3 b3 hP3 hT3 => ⟨_, rfl, iteF ⟨_, _, _, _, _, _, _, _, _, _, _, _, _, _, rfl, hP3.mono (by omega), hT3⟩⟩⟩
    · rintro σ H ⟨v2, v3, v4, v5, v6, v7, v8, v9, v10, v11, v12, v13, v14, v15, rfl, hP, hT⟩
      refine ⟨_, rfl, p, 2, _, rfl, hP, by omega, by decide, by decide, fun H1 k0 b1 hP1 _ _ => ⟨rfl, _, rfl, ite2 (fun _ => q H1) (fun _ => ?_)⟩⟩
      exact ⟨_, rfl, p, _, rfl, hP1, by omega, tabs_pen hT hP b1, q⟩
end
end My
/-! ### the end of a law that shows data, with any tables of lambdas -/
namespace My
open PySem PySem.Spec PyProof.Rows L2
theorem tbls_at {Ps : List (Addr × Addr)} {b : Addr} (h : b ∈ Ps.map Prod.snd) : ∃ c, (c, b) ∈ Ps := by
  obtain ⟨q, hq, rfl⟩ := List.mem_map.mp h
  exact ⟨q.1, hq⟩
/-- the law's call at the head: the script and tables of code objects are tracked -/
theorem law_callGL {P : Program} {w : World} {K : PySem.W.Frag} {mg mb : Str → Option Value} {CX : CXT} {k : Nat} {fa a : Addr} {Ps : List (Addr × Addr)} {fd : FuncData} {x : Str} {sp : Sp} {st : Shared} {vs : List Value} {ns : List Int}
    (KX : K.In st.heap) (hns : st.heap.Ns mainGlobals mg) (hb : st.heap.Ns builtinsNs mb) (hbb : ∀ x : Str, x ≠ "__name__" → mb x = bootBuiltins x) (hlim : st.heap.NoLimit) (hg : st.gens = #[])
    (tP : ∀ q ∈ Ps, st.heap.get? q.2 = some { cls := .none, data := .fields #[] }) (kP : ∀ q ∈ Ps, K.lookup q.2 = none) (cP : ∀ q ∈ Ps, PySem.W.CodeHd st.heap q.1 q.2)
    (bP : ∃ (bm : Addr) (ob : Obj), mg "__builtins__" = some (.ref bm) ∧ bm ≠ builtinsNs ∧ st.heap.get? bm = some ob ∧ ob.cls = .type "module" ∧ ob.dict = some builtinsNs ∧ ob.data = .plain)
    (ha : st.heap.get? a = some { cls := .type "list", data := .seq vs.toArray }) (hi : IntsAre vs ns) (hl : ns.length ≤ sizeLine) (hr : Room k callerA)
    (F : ∀ base : Heap, K.In base → base.Ns mainGlobals mg → (∀ q ∈ Ps, LamX.TabB base mg q.1 q.2) → FnG P w K mg base CX k fa fd [x] sp)
    (hbind : ∀ (s : Shared) (u : Value), BindsTo s fd ⟨[u], []⟩ [(x, u)])
    (hsp : ∀ H : Hp, (∀ q ∈ Ps, H q.2 = some (.tbl #[])) → SqL K H a (ns.map V.int) → sp [.ref a] H (fun v _ => v = .bl true) fun _ _ _ => False)
    (hCX : ∀ H e s', CX [] H st (fun _ _ _ => False) e s' → False) :
    codeAny (model P w) callerA (.call (.ref fa) ⟨[.ref a], []⟩) (fun r s' => r = .ok (.ret (.bool true)) ∧ OldK st.heap s'.heap ∧ s'.os = st.os ∧ AllBare s'.gens) st := by
  have vints := vals_ints hi
  have vlen := hi.length
  have tB : ∀ b, b ∈ Ps.map Prod.snd → st.heap.get? b = some { cls := .none, data := .fields #[] } := fun b hb => by
    obtain ⟨q, hq, rfl⟩ := List.mem_map.mp hb
    exact tP q hq
  have naP : a ∉ Ps.map Prod.snd := fun z => by
    rw [tB a z] at ha
    cases ha
  have main : ∀ H : Hp, (∀ q ∈ Ps, H q.2 = some (.tbl #[])) → SqL K H a (ns.map V.int) → HOk P w H st.heap → (∀ b, b ≠ a → b ∉ Ps.map Prod.snd → H b = none) → (H a = none ∨ ∃ o xs, H a = some (.frz o (.lst xs))) → (K.lookup a = none ∨ H a = none) →
      codeAny (model P w) callerA (.call (.ref fa) ⟨[.ref a], []⟩) (fun r s' => r = .ok (.ret (.bool true)) ∧ OldK st.heap s'.heap ∧ s'.os = st.os ∧ AllBare s'.gens) st := by
    intro H hP scr hok off atA onK
    have untracked : ∀ b o, st.heap.get? b = some o → (∀ us n, o.data ≠ .seq us n) → o.data ≠ .fields #[] → H b = none := fun b o e n1 n2 => by
      by_cases z : b = a
      · rw [z, ha] at e
        cases e
        exact absurd rfl (n1 _ _)
      · by_cases y : b ∈ Ps.map Prod.snd
        · rw [tB b y] at e
          cases e
          exact absurd rfl n2
        · exact off b z y
    have dictFree : ∀ {b : Addr} {m : Str → Option Value}, st.heap.Ns b m → (hidT st.heap H).Ns b m := by
      rintro b m ⟨o, es, ep, e, d, r⟩
      refine ⟨o, es, ep, hidT_get e (untracked b o e (fun us n q => ?_) fun q => ?_), d, r⟩ <;> rw [d] at q <;> cases q
    have kIn : K.In (hidT st.heap H) := by
      intro b o e
      by_cases z : b = a
      · rcases onK with q | q
        · rw [z, q] at e
          cases e
        · exact hidT_get (KX b o e) (by rw [z]; exact q)
      · by_cases y : b ∈ Ps.map Prod.snd
        · obtain ⟨q, hq, rfl⟩ := List.mem_map.mp y
          rw [kP q hq] at e
          cases e
        · exact hidT_get (KX b o e) (off b z y)
    obtain ⟨mc, lim1, lim2⟩ := hlim
    have md : Mod K mg (hidT st.heap H) := ⟨kIn, dictFree hns, ⟨mb, dictFree hb, hbb⟩, ⟨mc, dictFree lim1, lim2⟩⟩
    have tb : ∀ q ∈ Ps, LamX.TabB (hidT st.heap H) mg q.1 q.2 := by
      intro q hq
      refine ⟨?_, ?_, fun z => ?_⟩
      · obtain ⟨c1, c2, c3, c4, c5, c6, c7, c8, c9, q1, q2, q3, q4, q5, q6, q7, q8, q9, q10⟩ := cP q hq
        refine ⟨c1, c2, c3, c4, c5, c6, c7, c8, c9, hidT_get q1 (untracked q.1 c1 q1 (fun us n q => ?_) fun q => ?_), q2, q3, q4, q5, q6, q7, q8, q9, q10⟩
        · rw [q3] at q
          cases q
        · rw [q3] at q
          cases q
          simp at q4
      · obtain ⟨m1, m2, q1, q2, q3, q4, q5, q6⟩ := bP
        have free : H m1 = none := untracked m1 m2 q3 (fun us n q => by rw [q6] at q; cases q) fun q => by rw [q6] at q; cases q
        refine ⟨m1, m2, q1, q2, fun z => ?_, fun z => ?_, hidT_get q3 free, q4, q5, q6⟩
        · obtain ⟨o, es, ep, e, d, _⟩ := hns
          rw [z, e] at q3
          cases q3
          rw [d] at q6
          cases q6
        · rw [z, hP q hq] at free
          cases free
      · obtain ⟨o, es, ep, e, d, _⟩ := hns
        rw [z, tP q hq] at e
        cases e
        cases d
    have e0 : Env0 P w K mg (hidT st.heap H) callerA [] st H :=
      { frames := rfl, mod := md, bs := fun b o e => of_hidT e, bsz := Nat.le_of_eq (hidT_size _ _), funs := trivial, frf := fun b z => (nomatch z), hok := hok, bare := .of_eq hg }
    have run := (F _ kIn (dictFree hns) tb).run callerA rfl hr [] st H ⟨[.ref a], []⟩ [.ref a] [.ref a] _ _ e0 (hbind st (.ref a)) (.cons rfl .nil) (hsp H hP scr)
    refine codeAny_mono run fun r s' h => ?_
    match r, h with
    | .error e, h => exact (hCX H e s' h).elim
    | .ok .next, h => exact h.elim
    | .ok .brk, h => exact h.elim
    | .ok .cont, h => exact h.elim
    | .ok (.ret u), h =>
      obtain ⟨v, H', os, bare, un, hok', rv, q⟩ := h
      obtain rfl : v = .bl true := q
      obtain rfl : u = Value.bool true := rv
      have stays : ∀ b o, b ∉ Ps.map Prod.snd → st.heap.get? b = some o → s'.heap.get? b = some o := fun b o nb e => by
        by_cases z : b = a
        · rcases atA with y | ⟨ob, ys, y⟩
          · rw [z] at e ⊢
            exact un.keep a o e y (fun z => nomatch z) (fun z => nomatch z)
          · have old := (hok a _ y).1
            rw [z] at e ⊢
            rw [e] at old
            cases old
            exact (hok' a _ (un.frzs a _ _ y)).1
        · exact un.keep b o e (off b z nb) (fun z => nomatch z) (fun z => nomatch z)
      have grow : ∀ q ∈ Ps, ∃ more, s'.heap.get? q.2 = some { cls := .none, data := .fields (#[] ++ more) } := fun q hq => by
        obtain ⟨more, grown⟩ := un.tbls q.2 #[] (hP q hq)
        exact ⟨more, hok' q.2 _ grown⟩
      refine ⟨rfl, ⟨fun b o e => ?_, fun b o e => ?_⟩, os, bare⟩
      · by_cases z : b ∈ Ps.map Prod.snd
        · obtain ⟨q, hq, rfl⟩ := List.mem_map.mp z
          obtain ⟨more, now⟩ := grow q hq
          rw [Array.empty_append] at now
          rw [tP q hq] at e
          cases e
          exact .inr (.inl ⟨((cP q hq).tab (tP q hq)).isCodeTable, rfl, #[], more, rfl, by rw [Array.empty_append]; exact now⟩)
        · exact .inl (stays b o z e)
      · by_cases z : b ∈ Ps.map Prod.snd
        · obtain ⟨q, hq, rfl⟩ := List.mem_map.mp z
          obtain ⟨more, now⟩ := grow q hq
          exact ⟨_, now⟩
        · exact ⟨o, stays b o z e⟩
  have inP : ∀ q ∈ Ps, q.2 ∈ Ps.map Prod.snd := fun q hq => List.mem_map_of_mem hq
  cases hk : K.lookup a with
  | some o =>
    have e := KX a o hk
    rw [ha] at e
    cases e
    have nn : (fun b => if b ∈ Ps.map Prod.snd then some (HO.tbl #[]) else none : Hp) a = none := if_neg naP
    refine main (fun b => if b ∈ Ps.map Prod.snd then some (.tbl #[]) else none) (fun q hq => if_pos (inP q hq)) (.inr ⟨_, vs.toArray, _, hk, rfl, rfl, rfl, by rw [List.size_toArray, vlen]; exact hl, by simpa using vints⟩) (fun b u z => ?_) (fun b _ z => if_neg z) (.inl nn) (.inr nn)
    by_cases y : b ∈ Ps.map Prod.snd
    · have q := (if_pos y).symm.trans z
      cases q
      exact tB b y
    · have q := (if_neg y).symm.trans z
      cases q
  | none =>
    have atP : ∀ q ∈ Ps, (fun b => if b = a then some (HO.frz { cls := .type "list", data := .seq vs.toArray } (.lst (ns.map V.int))) else if b ∈ Ps.map Prod.snd then some (.tbl #[]) else none : Hp) q.2 = some (.tbl #[]) := fun q hq => (if_neg (fun z : q.2 = a => naP (z ▸ inP q hq))).trans (if_pos (inP q hq))
    refine main (fun b => if b = a then some (.frz { cls := .type "list", data := .seq vs.toArray } (.lst (ns.map V.int))) else if b ∈ Ps.map Prod.snd then some (.tbl #[]) else none) atP (.inl (.inr ⟨_, if_pos rfl⟩)) (fun b u z => ?_) (fun b z y => (if_neg z).trans (if_neg y)) (.inr ⟨_, _, if_pos rfl⟩) (.inl hk)
    by_cases y : b = a
    · have q := (if_pos y).symm.trans z
      cases q
      rw [y]
      exact ⟨ha, by rw [List.length_map]; exact hl, vs, _, vints, ha⟩
    · have q1 := (if_neg y).symm.trans z
      by_cases y2 : b ∈ Ps.map Prod.snd
      · have q := (if_pos y2).symm.trans q1
        cases q
        exact tB b y2
      · have q := (if_neg y2).symm.trans q1
        cases q
/-- what is known at the head's heap h of a law with tables -/
def LawGL (l : PySem.W.OpenLaw) (w : World) (K : PySem.W.Frag) (CX : CXT) (k n : Nat) (x : Str) (mg : Str → Option Value) (fa : Addr) (h : Heap) : Prop :=
  ∃ (fd : FuncData) (Ps : List (Addr × Addr)) (sp : Sp), (∀ q ∈ Ps, h.get? q.2 = some { cls := .none, data := .fields #[] } ∧ K.lookup q.2 = none ∧ PySem.W.CodeHd h q.1 q.2) ∧ (∀ (s : Shared) (u : Value), BindsTo s fd ⟨[u], []⟩ [(x, u)]) ∧
    (∀ (H : Hp) (a : Addr) (ns : List Int), ns.length ≤ n → (∀ q ∈ Ps, H q.2 = some (.tbl #[])) → SqL K H a (ns.map V.int) → sp [.ref a] H (fun v _ => v = .bl true) fun _ _ _ => False) ∧
    ∀ base : Heap, K.In base → base.Ns mainGlobals mg → (∀ q ∈ Ps, LamX.TabB base mg q.1 q.2) → FnG l.prog w K mg base CX k fa fd [x] sp
/-- what k_head leaves; the tables of the defs ys are told as empty -/
theorem walk_ofGL {l : PySem.W.OpenLaw} {n k : Nat} {q : Program} {loose : List Str} {XP : (Str → Option Value) → Heap → Prop} {YP : World → Heap → Prop} {d : DefRec} {K : Params → PySem.W.Frag} {CX : World → CXT} {x : Str} (ys : List Str)
    (hn : l.most = some n) (hn2 : n ≤ sizeLine) (hdf : d.params.defaults = []) (hr : Room k callerA) (hrec : (ys.all fun y => (recsOf q).any fun e => e.name == y) = true) (hY : ∀ (w : World) (h : Heap), YP w h → (K w.params).In h)
    (F : ∀ (w : World) (mg : Str → Option Value) (fa : Addr) (h : Heap), (K w.params).In h → h.Ns mainGlobals mg → mg d.name = some (.ref fa) →
      (∀ y ∈ ys, ∀ fy : Addr, mg y = some (.ref fy) → LamX.OwnTab (K w.params) fy h) → LawGL l w (K w.params) (CX w) k n x mg fa h)
    (hCX : ∀ (w : World) (H : Hp) (s : Shared) (e : Value) (s' : Shared), CX w [] H s (fun _ _ _ => False) e s' → False) :
    PySem.W.WalkO q loose XP YP l.row.toRowW d [] (fun f vs => PySem.call f vs) := by
  refine Att.attach_callB hn hdf ?_
  intro w s₀ st mg mb fa o pm cd doc a vs ns G Y ho hd hcd hmg hobj hints hlen hbits hg
  have KX := hY w _ Y
  have tabs : ∀ y ∈ ys, ∀ fy : Addr, mg y = some (.ref fy) → LamX.OwnTab (K w.params) fy st.heap := by
    intro y hy fy my c1 P1 o1 g1 e1 e2 us sl k1 k2 k3 k4 k5
    obtain ⟨dL, mem, same⟩ := List.any_eq_true.mp (List.all_eq_true.mp hrec y hy)
    have same2 : dL.name = y := beq_iff_eq.mp same
    obtain ⟨b1, b2, b3, b4, b5, j1, j2, j3, j4, j0, ⟨⟨u1, u2, j5, _, j6, j7⟩, j8⟩⟩ := G.T.tab dL mem
    rw [same2, my] at j1
    cases j1
    have z1 := KX _ _ k1
    rw [z1] at j2
    cases j2
    rw [k2] at j3
    cases j3
    rw [k3] at j4
    cases j4
    have z2 := KX _ _ k4
    rw [z2] at j5
    cases j5
    cases j6
    rw [k5] at j7
    cases j7
    exact j8
  obtain ⟨fd, Ps, sp, tP, hb, hsp, hF⟩ := F w mg fa _ KX G.T.g hmg tabs
  exact law_callGL KX G.T.g G.T.b G.T.builtins G.T.nolimit hg (fun q hq => (tP q hq).1) (fun q hq => (tP q hq).2.1) (fun q hq => (tP q hq).2.2) G.T.bmain hobj hints (Nat.le_trans hlen hn2) hr hF hb (fun H hH hS => hsp H a ns hlen hH hS) fun H => hCX w H st
end My
/-! ### what the top has written, the head -/
namespace My
open PySem PySem.Spec PyProof.Rows L2
theorem excF_of {K : PySem.W.Frag} {mg : Str → Option Value} {x : Str} {D : Addr} (g : mg x = some (.ref D)) (h : mkFacts K D = true) : ExcF K mg x D := by
  unfold mkFacts at h
  simp only [Bool.and_eq_true, beq_iff_eq] at h
  exact ⟨g, h.1, h.2.1, h.2.2.1, h.2.2.2.1⟩
theorem fun_some {K : PySem.W.Frag} {x q : Str} {st : Stmt} {f : Addr} {fd : FuncData} (_ : Fun K x q st f fd) : Nonempty FuncData := ⟨fd⟩
theorem all_mk {l : PySem.W.OpenLaw} {w : World} {K : PySem.W.Frag} {h : Heap} {mg : Str → Option Value} {fa C0 C1 C2 C3 C4 C5 C6 C7 C8 C9 C10 C11 CL : Addr} {cL0 PT0 : Addr} {eC0 : Value} {dC0 : Option Addr} {vC0 : Array Value} {sC0 : Array (Option Value)} {cL1 PT1 : Addr} {eC1 : Value} {dC1 : Option Addr} {vC1 : Array Value} {sC1 : Array (Option Value)} {DK45 : Addr} {DK46 : Addr} {t1 t2 t3 t4 t5 t8 t6 ta tb : Tok} {fF gA gB : Addr} {dFa dFb dFc : Option Addr} {nFa nFb nFc : Nat} {sFa sFb sFc : Array (Option Value)} {tk1 tk2 tk3 tk4 : Tok} {f1 f2 f3 f4 f5 f6 f7 f8 f9 f10 f11 f12 f13 f14 f15 f16 f17 f18 f19 f20 f21 f22 f23 f24 f25 f26 f27 f28 f29 f30 f31 f32 f33 f34 f35 f36 f37 f38 f39 f40 f41 f42 f43 f44 f45 f46 : Addr} {od1 od2 od3 od4 od5 od6 od7 od8 od9 od10 od11 od12 od13 od14 od15 od16 od17 od18 od19 od20 od21 od22 od23 od24 od25 od26 od27 od28 od29 od30 od31 od32 od33 od34 od35 od36 od37 od38 od39 od40 od41 od42 od43 od44 od45 od46 an1 an2 an3 an4 an5 an6 an7 an8 an9 an10 an11 an12 an13 an14 an15 an16 an17 an18 an19 an20 an21 an22 an23 an24 an25 an26 an27 an28 an29 an30 an31 an32 an33 an34 an35 an36 an37 an38 an39 an40 an41 an42 an43 an44 an45 an46 : Option Addr} {sl1 sl2 sl3 sl4 sl5 sl6 sl7 sl8 sl9 sl10 sl11 sl12 sl13 sl14 sl15 sl16 sl17 sl18 sl19 sl20 sl21 sl22 sl23 sl24 sl25 sl26 sl27 sl28 sl29 sl30 sl31 sl32 sl33 sl34 sl35 sl36 sl37 sl38 sl39 sl40 sl41 sl42 sl43 sl44 sl45 sl46 : Array (Option Value)} {oc1 oc2 oc3 oc4 oc5 oc6 oc7 oc8 oc9 oc10 oc11 oc12 oc13 oc14 oc15 oc16 oc17 oc18 oc19 oc20 oc21 oc22 oc23 oc24 oc25 oc26 oc27 oc28 oc29 oc30 oc31 oc32 oc33 oc34 oc35 oc36 oc37 oc38 oc39 oc40 oc41 oc42 oc43 oc44 oc45 oc46 kV1 kV2 kV3 kV4 kV5 kV6 kV7 kV8 kV9 kV10 kV11 kV12 kV13 kV14 kV15 kV16 kV17 kV18 kV19 kV20 kV21 kV22 kV23 kV24 kV25 kV26 kV27 kV28 kV29 kV30 kV31 kV32 kV33 kV34 kV35 kV36 kV37 kV38 kV39 kV40 kV41 kV42 kV43 kV44 kV45 kV46 dc1 dc2 dc3 dc4 dc5 dc6 dc7 dc8 dc9 dc10 dc11 dc12 dc13 dc14 dc15 dc16 dc17 dc18 dc19 dc20 dc21 dc22 dc23 dc24 dc25 dc26 dc27 dc28 dc29 dc30 dc31 dc32 dc33 dc34 dc35 dc36 dc37 dc38 dc39 dc40 dc41 dc42 dc43 dc44 dc45 dc46 pm1 pm2 pm3 pm4 pm5 pm6 pm7 pm8 pm9 pm10 pm11 pm12 pm13 pm14 pm15 pm16 pm17 pm18 pm19 pm20 pm21 pm22 pm23 pm24 pm25 pm26 pm27 pm28 pm29 pm30 pm31 pm32 pm33 pm34 pm35 pm36 pm37 pm38 pm39 pm40 pm41 pm42 pm43 pm44 pm45 pm46 cd1 cd2 cd3 cd4 cd5 cd6 cd7 cd8 cd9 cd10 cd11 cd12 cd13 cd14 cd15 cd16 cd17 cd18 cd19 cd20 cd21 cd22 cd23 cd24 cd25 cd26 cd27 cd28 cd29 cd30 cd31 cd32 cd33 cd34 cd35 cd36 cd37 cd38 cd39 cd40 cd41 cd42 cd43 cd44 cd45 cd46 ct1 ct2 ct3 ct4 ct5 ct6 ct7 ct8 ct9 ct10 ct11 ct12 ct13 ct14 ct15 ct16 ct17 ct18 ct19 ct20 ct21 ct22 ct23 ct24 ct25 ct26 ct27 ct28 ct29 ct30 ct31 ct32 ct33 ct34 ct35 ct36 ct37 ct38 ct39 ct40 ct41 ct42 ct43 ct44 ct45 ct46 : Value}
    (X : K.In h) (G : h.Ns mainGlobals mg) (hfa : mg "law" = some (.ref fa)) (own0 : ∀ fy : Addr, mg "_law_x_asked_right" = some (.ref fy) → LamX.OwnTab K fy h) (own1 : ∀ fy : Addr, mg "_law_x_great_right" = some (.ref fy) → LamX.OwnTab K fy h)
    (a1 : PySem.W.nsIn K mainGlobals "_law_spread" = some (some (.ref f1)))
    (l1 : K.lookup f1 = some ⟨oc1, od1, .func (PySem.W.fnOf "_law_spread" "_law_spread" (defArgs sSpread) (defBody sSpread) (defScope sSpread) .none kV1 dc1 pm1 an1 cd1 ct1), sl1⟩)
    (c1 : PySem.W.codeIn K cd1 "_law_spread" = true) (k1 : PySem.W.keepIn K (.ref f1) = true)
    (a2 : PySem.W.nsIn K mainGlobals "_law_open" = some (some (.ref f2)))
    (l2 : K.lookup f2 = some ⟨oc2, od2, .func (PySem.W.fnOf "_law_open" "_law_open" (defArgs sOpen) (defBody sOpen) (defScope sOpen) .none kV2 dc2 pm2 an2 cd2 ct2), sl2⟩)
    (c2 : PySem.W.codeIn K cd2 "_law_open" = true) (k2 : PySem.W.keepIn K (.ref f2) = true)
    (a3 : PySem.W.nsIn K mainGlobals "_law_take" = some (some (.ref f3)))
    (l3 : K.lookup f3 = some ⟨oc3, od3, .func (PySem.W.fnOf "_law_take" "_law_take" (defArgs sTake) (defBody sTake) (defScope sTake) .none kV3 dc3 pm3 an3 cd3 ct3), sl3⟩)
    (c3 : PySem.W.codeIn K cd3 "_law_take" = true) (k3 : PySem.W.keepIn K (.ref f3) = true)
    (a4 : PySem.W.nsIn K mainGlobals "_law_x_pick" = some (some (.ref f4)))
    (l4 : K.lookup f4 = some ⟨oc4, od4, .func (PySem.W.fnOf "_law_x_pick" "_law_x_pick" (defArgs sPick) (defBody sPick) (defScope sPick) .none kV4 dc4 pm4 an4 cd4 ct4), sl4⟩)
    (c4 : PySem.W.codeIn K cd4 "_law_x_pick" = true) (k4 : PySem.W.keepIn K (.ref f4) = true)
    (a5 : PySem.W.nsIn K mainGlobals "is_whole" = some (some (.ref f5)))
    (l5 : K.lookup f5 = some ⟨oc5, od5, .func (PySem.W.fnOf "is_whole" "is_whole" (defArgs sWhole) (defBody sWhole) (defScope sWhole) .none kV5 dc5 pm5 an5 cd5 ct5), sl5⟩)
    (c5 : PySem.W.codeIn K cd5 "is_whole" = true) (k5 : PySem.W.keepIn K (.ref f5) = true)
    (a6 : PySem.W.nsIn K mainGlobals "is_between" = some (some (.ref f6)))
    (l6 : K.lookup f6 = some ⟨oc6, od6, .func (PySem.W.fnOf "is_between" "is_between" (defArgs sBetween) (defBody sBetween) (defScope sBetween) .none kV6 dc6 pm6 an6 cd6 ct6), sl6⟩)
    (c6 : PySem.W.codeIn K cd6 "is_between" = true) (k6 : PySem.W.keepIn K (.ref f6) = true)
    (a7 : PySem.W.nsIn K mainGlobals "is_tuple" = some (some (.ref f7)))
    (l7 : K.lookup f7 = some ⟨oc7, od7, .func (PySem.W.fnOf "is_tuple" "is_tuple" (defArgs sTuple) (defBody sTuple) (defScope sTuple) .none kV7 dc7 pm7 an7 cd7 ct7), sl7⟩)
    (c7 : PySem.W.codeIn K cd7 "is_tuple" = true) (k7 : PySem.W.keepIn K (.ref f7) = true)
    (a8 : PySem.W.nsIn K mainGlobals "is_letters" = some (some (.ref f8)))
    (l8 : K.lookup f8 = some ⟨oc8, od8, .func (PySem.W.fnOf "is_letters" "is_letters" (defArgs sLetters) (defBody sLetters) (defScope sLetters) .none kV8 dc8 pm8 an8 cd8 ct8), sl8⟩)
    (c8 : PySem.W.codeIn K cd8 "is_letters" = true) (k8 : PySem.W.keepIn K (.ref f8) = true)
    (a9 : PySem.W.nsIn K mainGlobals "is_way_on" = some (some (.ref f9)))
    (l9 : K.lookup f9 = some ⟨oc9, od9, .func (PySem.W.fnOf "is_way_on" "is_way_on" (defArgs sWayOn) (defBody sWayOn) (defScope sWayOn) .none kV9 dc9 pm9 an9 cd9 ct9), sl9⟩)
    (c9 : PySem.W.codeIn K cd9 "is_way_on" = true) (k9 : PySem.W.keepIn K (.ref f9) = true)
    (a10 : PySem.W.nsIn K mainGlobals "is_table" = some (some (.ref f10)))
    (l10 : K.lookup f10 = some ⟨oc10, od10, .func (PySem.W.fnOf "is_table" "is_table" (defArgs sTable) (defBody sTable) (defScope sTable) .none kV10 dc10 pm10 an10 cd10 ct10), sl10⟩)
    (c10 : PySem.W.codeIn K cd10 "is_table" = true) (k10 : PySem.W.keepIn K (.ref f10) = true)
    (a11 : PySem.W.nsIn K mainGlobals "is_rule" = some (some (.ref f11)))
    (l11 : K.lookup f11 = some ⟨oc11, od11, .func (PySem.W.fnOf "is_rule" "is_rule" (defArgs sRule) (defBody sRule) (defScope sRule) .none kV11 dc11 pm11 an11 cd11 ct11), sl11⟩)
    (c11 : PySem.W.codeIn K cd11 "is_rule" = true) (k11 : PySem.W.keepIn K (.ref f11) = true)
    (a12 : PySem.W.nsIn K mainGlobals "is_pair" = some (some (.ref f12)))
    (l12 : K.lookup f12 = some ⟨oc12, od12, .func (PySem.W.fnOf "is_pair" "is_pair" (defArgs sPair) (defBody sPair) (defScope sPair) .none kV12 dc12 pm12 an12 cd12 ct12), sl12⟩)
    (c12 : PySem.W.codeIn K cd12 "is_pair" = true) (k12 : PySem.W.keepIn K (.ref f12) = true)
    (a13 : PySem.W.nsIn K mainGlobals "is_frame" = some (some (.ref f13)))
    (l13 : K.lookup f13 = some ⟨oc13, od13, .func (PySem.W.fnOf "is_frame" "is_frame" (defArgs sFrame) (defBody sFrame) (defScope sFrame) .none kV13 dc13 pm13 an13 cd13 ct13), sl13⟩)
    (c13 : PySem.W.codeIn K cd13 "is_frame" = true) (k13 : PySem.W.keepIn K (.ref f13) = true)
    (a14 : PySem.W.nsIn K mainGlobals "is_choice" = some (some (.ref f14)))
    (l14 : K.lookup f14 = some ⟨oc14, od14, .func (PySem.W.fnOf "is_choice" "is_choice" (defArgs sChoice) (defBody sChoice) (defScope sChoice) .none kV14 dc14 pm14 an14 cd14 ct14), sl14⟩)
    (c14 : PySem.W.codeIn K cd14 "is_choice" = true) (k14 : PySem.W.keepIn K (.ref f14) = true)
    (a15 : PySem.W.nsIn K mainGlobals "is_machine" = some (some (.ref f15)))
    (l15 : K.lookup f15 = some ⟨oc15, od15, .func (PySem.W.fnOf "is_machine" "is_machine" (defArgs sMachine) (defBody sMachine) (defScope sMachine) .none kV15 dc15 pm15 an15 cd15 ct15), sl15⟩)
    (c15 : PySem.W.codeIn K cd15 "is_machine" = true) (k15 : PySem.W.keepIn K (.ref f15) = true)
    (a16 : PySem.W.nsIn K mainGlobals "is_plain" = some (some (.ref f16)))
    (l16 : K.lookup f16 = some ⟨oc16, od16, .func (PySem.W.fnOf "is_plain" "is_plain" (defArgs sPlain) (defBody sPlain) (defScope sPlain) .none kV16 dc16 pm16 an16 cd16 ct16), sl16⟩)
    (c16 : PySem.W.codeIn K cd16 "is_plain" = true) (k16 : PySem.W.keepIn K (.ref f16) = true)
    (a17 : PySem.W.nsIn K mainGlobals "need_machine" = some (some (.ref f17)))
    (l17 : K.lookup f17 = some ⟨oc17, od17, .func (PySem.W.fnOf "need_machine" "need_machine" (defArgs sNeedMachine) (defBody sNeedMachine) (defScope sNeedMachine) .none kV17 dc17 pm17 an17 cd17 ct17), sl17⟩)
    (c17 : PySem.W.codeIn K cd17 "need_machine" = true) (k17 : PySem.W.keepIn K (.ref f17) = true)
    (a18 : PySem.W.nsIn K mainGlobals "with_choices" = some (some (.ref f18)))
    (l18 : K.lookup f18 = some ⟨oc18, od18, .func (PySem.W.fnOf "with_choices" "with_choices" (defArgs sWith) (defBody sWith) (defScope sWith) .none kV18 dc18 pm18 an18 cd18 ct18), sl18⟩)
    (c18 : PySem.W.codeIn K cd18 "with_choices" = true) (k18 : PySem.W.keepIn K (.ref f18) = true)
    (a19 : PySem.W.nsIn K mainGlobals "need_match" = some (some (.ref f19)))
    (l19 : K.lookup f19 = some ⟨oc19, od19, .func (PySem.W.fnOf "need_match" "need_match" (defArgs sNeedMatch) (defBody sNeedMatch) (defScope sNeedMatch) .none kV19 dc19 pm19 an19 cd19 ct19), sl19⟩)
    (c19 : PySem.W.codeIn K cd19 "need_match" = true) (k19 : PySem.W.keepIn K (.ref f19) = true)
    (a20 : PySem.W.nsIn K mainGlobals "need_rule" = some (some (.ref f20)))
    (l20 : K.lookup f20 = some ⟨oc20, od20, .func (PySem.W.fnOf "need_rule" "need_rule" (defArgs sNeedRule) (defBody sNeedRule) (defScope sNeedRule) .none kV20 dc20 pm20 an20 cd20 ct20), sl20⟩)
    (c20 : PySem.W.codeIn K cd20 "need_rule" = true) (k20 : PySem.W.keepIn K (.ref f20) = true)
    (a21 : PySem.W.nsIn K mainGlobals "need_contest" = some (some (.ref f21)))
    (l21 : K.lookup f21 = some ⟨oc21, od21, .func (PySem.W.fnOf "need_contest" "need_contest" (defArgs sNeedContest) (defBody sNeedContest) (defScope sNeedContest) .none kV21 dc21 pm21 an21 cd21 ct21), sl21⟩)
    (c21 : PySem.W.codeIn K cd21 "need_contest" = true) (k21 : PySem.W.keepIn K (.ref f21) = true)
    (a22 : PySem.W.nsIn K mainGlobals "contest_of" = some (some (.ref f22)))
    (l22 : K.lookup f22 = some ⟨oc22, od22, .func (PySem.W.fnOf "contest_of" "contest_of" (defArgs sContestOf) (defBody sContestOf) (defScope sContestOf) .none kV22 dc22 pm22 an22 cd22 ct22), sl22⟩)
    (c22 : PySem.W.codeIn K cd22 "contest_of" = true) (k22 : PySem.W.keepIn K (.ref f22) = true)
    (a23 : PySem.W.nsIn K mainGlobals "need_limit" = some (some (.ref f23)))
    (l23 : K.lookup f23 = some ⟨oc23, od23, .func (PySem.W.fnOf "need_limit" "need_limit" (defArgs sNeedLimit) (defBody sNeedLimit) (defScope sNeedLimit) .none kV23 dc23 pm23 an23 cd23 ct23), sl23⟩)
    (c23 : PySem.W.codeIn K cd23 "need_limit" = true) (k23 : PySem.W.keepIn K (.ref f23) = true)
    (a24 : PySem.W.nsIn K mainGlobals "pays_of" = some (some (.ref f24)))
    (l24 : K.lookup f24 = some ⟨oc24, od24, .func (PySem.W.fnOf "pays_of" "pays_of" (defArgs sPaysOf) (defBody sPaysOf) (defScope sPaysOf) .none kV24 dc24 pm24 an24 cd24 ct24), sl24⟩)
    (c24 : PySem.W.codeIn K cd24 "pays_of" = true) (k24 : PySem.W.keepIn K (.ref f24) = true)
    (a25 : PySem.W.nsIn K mainGlobals "successors" = some (some (.ref f25)))
    (l25 : K.lookup f25 = some ⟨oc25, od25, .func (PySem.W.fnOf "successors" "successors" (defArgs sSucc) (defBody sSucc) (defScope sSucc) .none kV25 dc25 pm25 an25 cd25 ct25), sl25⟩)
    (c25 : PySem.W.codeIn K cd25 "successors" = true) (k25 : PySem.W.keepIn K (.ref f25) = true)
    (a26 : PySem.W.nsIn K mainGlobals "is_won" = some (some (.ref f26)))
    (l26 : K.lookup f26 = some ⟨oc26, od26, .func (PySem.W.fnOf "is_won" "is_won" (defArgs sIsWon) (defBody sIsWon) (defScope sIsWon) .none kV26 dc26 pm26 an26 cd26 ct26), sl26⟩)
    (c26 : PySem.W.codeIn K cd26 "is_won" = true) (k26 : PySem.W.keepIn K (.ref f26) = true)
    (a27 : PySem.W.nsIn K mainGlobals "has_won" = some (some (.ref f27)))
    (l27 : K.lookup f27 = some ⟨oc27, od27, .func (PySem.W.fnOf "has_won" "has_won" (defArgs sHasWon) (defBody sHasWon) (defScope sHasWon) .none kV27 dc27 pm27 an27 cd27 ct27), sl27⟩)
    (c27 : PySem.W.codeIn K cd27 "has_won" = true) (k27 : PySem.W.keepIn K (.ref f27) = true)
    (a28 : PySem.W.nsIn K mainGlobals "level_after" = some (some (.ref f28)))
    (l28 : K.lookup f28 = some ⟨oc28, od28, .func (PySem.W.fnOf "level_after" "level_after" (defArgs sLevelAfter) (defBody sLevelAfter) (defScope sLevelAfter) .none kV28 dc28 pm28 an28 cd28 ct28), sl28⟩)
    (c28 : PySem.W.codeIn K cd28 "level_after" = true) (k28 : PySem.W.keepIn K (.ref f28) = true)
    (a29 : PySem.W.nsIn K mainGlobals "levels_until_won" = some (some (.ref f29)))
    (l29 : K.lookup f29 = some ⟨oc29, od29, .func (PySem.W.fnOf "levels_until_won" "levels_until_won" (defArgs sLevelsUntil) (defBody sLevelsUntil) (defScope sLevelsUntil) .none kV29 dc29 pm29 an29 cd29 ct29), sl29⟩)
    (c29 : PySem.W.codeIn K cd29 "levels_until_won" = true) (k29 : PySem.W.keepIn K (.ref f29) = true)
    (a30 : PySem.W.nsIn K mainGlobals "is_exactly" = some (some (.ref f30)))
    (l30 : K.lookup f30 = some ⟨oc30, od30, .func (PySem.W.fnOf "is_exactly" "is_exactly" (defArgs sIsEx) (defBody sIsEx) (defScope sIsEx) .none kV30 dc30 pm30 an30 cd30 ct30), sl30⟩)
    (c30 : PySem.W.codeIn K cd30 "is_exactly" = true) (k30 : PySem.W.keepIn K (.ref f30) = true)
    (a31 : PySem.W.nsIn K mainGlobals "shows_levels" = some (some (.ref f31)))
    (l31 : K.lookup f31 = some ⟨oc31, od31, .func (PySem.W.fnOf "shows_levels" "shows_levels" (defArgs sShowsLevels) (defBody sShowsLevels) (defScope sShowsLevels) .none kV31 dc31 pm31 an31 cd31 ct31), sl31⟩)
    (c31 : PySem.W.codeIn K cd31 "shows_levels" = true) (k31 : PySem.W.keepIn K (.ref f31) = true)
    (a32 : PySem.W.nsIn K mainGlobals "is_standing" = some (some (.ref f32)))
    (l32 : K.lookup f32 = some ⟨oc32, od32, .func (PySem.W.fnOf "is_standing" "is_standing" (defArgs sIsStd) (defBody sIsStd) (defScope sIsStd) .none kV32 dc32 pm32 an32 cd32 ct32), sl32⟩)
    (c32 : PySem.W.codeIn K cd32 "is_standing" = true) (k32 : PySem.W.keepIn K (.ref f32) = true)
    (a33 : PySem.W.nsIn K mainGlobals "shows_never" = some (some (.ref f33)))
    (l33 : K.lookup f33 = some ⟨oc33, od33, .func (PySem.W.fnOf "shows_never" "shows_never" (defArgs sShowsNever) (defBody sShowsNever) (defScope sShowsNever) .none kV33 dc33 pm33 an33 cd33 ct33), sl33⟩)
    (c33 : PySem.W.codeIn K cd33 "shows_never" = true) (k33 : PySem.W.keepIn K (.ref f33) = true)
    (a34 : PySem.W.nsIn K mainGlobals "_law_x_letters" = some (some (.ref f34)))
    (l34 : K.lookup f34 = some ⟨oc34, od34, .func (PySem.W.fnOf "_law_x_letters" "_law_x_letters" (defArgs sXLetters) (defBody sXLetters) (defScope sXLetters) .none kV34 dc34 pm34 an34 cd34 ct34), sl34⟩)
    (c34 : PySem.W.codeIn K cd34 "_law_x_letters" = true) (k34 : PySem.W.keepIn K (.ref f34) = true)
    (a35 : PySem.W.nsIn K mainGlobals "_law_x_machine" = some (some (.ref f35)))
    (l35 : K.lookup f35 = some ⟨oc35, od35, .func (PySem.W.fnOf "_law_x_machine" "_law_x_machine" (defArgs sXMachineB) (defBody sXMachineB) (defScope sXMachineB) .none kV35 dc35 pm35 an35 cd35 ct35), sl35⟩)
    (c35 : PySem.W.codeIn K cd35 "_law_x_machine" = true) (k35 : PySem.W.keepIn K (.ref f35) = true)
    (a36 : PySem.W.nsIn K mainGlobals "_law_x_plain" = some (some (.ref f36)))
    (l36 : K.lookup f36 = some ⟨oc36, od36, .func (PySem.W.fnOf "_law_x_plain" "_law_x_plain" (defArgs sXPlainB) (defBody sXPlainB) (defScope sXPlainB) .none kV36 dc36 pm36 an36 cd36 ct36), sl36⟩)
    (c36 : PySem.W.codeIn K cd36 "_law_x_plain" = true) (k36 : PySem.W.keepIn K (.ref f36) = true)
    (a37 : PySem.W.nsIn K mainGlobals "_law_x_rule" = some (some (.ref f37)))
    (l37 : K.lookup f37 = some ⟨oc37, od37, .func (PySem.W.fnOf "_law_x_rule" "_law_x_rule" (defArgs sXRule) (defBody sXRule) (defScope sXRule) .none kV37 dc37 pm37 an37 cd37 ct37), sl37⟩)
    (c37 : PySem.W.codeIn K cd37 "_law_x_rule" = true) (k37 : PySem.W.keepIn K (.ref f37) = true)
    (a38 : PySem.W.nsIn K mainGlobals "_law_x_free" = some (some (.ref f38)))
    (l38 : K.lookup f38 = some ⟨oc38, od38, .func (PySem.W.fnOf "_law_x_free" "_law_x_free" (defArgs sXFreeB) (defBody sXFreeB) (defScope sXFreeB) .none kV38 dc38 pm38 an38 cd38 ct38), sl38⟩)
    (c38 : PySem.W.codeIn K cd38 "_law_x_free" = true) (k38 : PySem.W.keepIn K (.ref f38) = true)
    (a39 : PySem.W.nsIn K mainGlobals "_law_x_word" = some (some (.ref f39)))
    (l39 : K.lookup f39 = some ⟨oc39, od39, .func (PySem.W.fnOf "_law_x_word" "_law_x_word" (defArgs sWord) (defBody sWord) (defScope sWord) .none kV39 dc39 pm39 an39 cd39 ct39), sl39⟩)
    (c39 : PySem.W.codeIn K cd39 "_law_x_word" = true) (k39 : PySem.W.keepIn K (.ref f39) = true)
    (a40 : PySem.W.nsIn K mainGlobals "_law_x_due" = some (some (.ref f40)))
    (l40 : K.lookup f40 = some ⟨oc40, od40, .func (PySem.W.fnOf "_law_x_due" "_law_x_due" (defArgs sXDue) (defBody sXDue) (defScope sXDue) .none kV40 dc40 pm40 an40 cd40 ct40), sl40⟩)
    (c40 : PySem.W.codeIn K cd40 "_law_x_due" = true) (k40 : PySem.W.keepIn K (.ref f40) = true)
    (a41 : PySem.W.nsIn K mainGlobals "_law_x_great_right" = some (some (.ref f41)))
    (l41 : K.lookup f41 = some ⟨oc41, od41, .func (PySem.W.fnOf "_law_x_great_right" "_law_x_great_right" (defArgs sGreat) (defBody sGreat) (defScope sGreat) .none kV41 dc41 pm41 an41 cd41 ct41), sl41⟩)
    (c41 : PySem.W.codeIn K cd41 "_law_x_great_right" = true) (k41 : PySem.W.keepIn K (.ref f41) = true)
    (a42 : PySem.W.nsIn K mainGlobals "_law_x_wrong" = some (some (.ref f42)))
    (l42 : K.lookup f42 = some ⟨oc42, od42, .func (PySem.W.fnOf "_law_x_wrong" "_law_x_wrong" (defArgs sXWrong) (defBody sXWrong) (defScope sXWrong) .none kV42 dc42 pm42 an42 cd42 ct42), sl42⟩)
    (c42 : PySem.W.codeIn K cd42 "_law_x_wrong" = true) (k42 : PySem.W.keepIn K (.ref f42) = true)
    (a43 : PySem.W.nsIn K mainGlobals "_law_x_asked_right" = some (some (.ref f43)))
    (l43 : K.lookup f43 = some ⟨oc43, od43, .func (PySem.W.fnOf "_law_x_asked_right" "_law_x_asked_right" (defArgs sAsk) (defBody sAsk) (defScope sAsk) .none kV43 dc43 pm43 an43 cd43 ct43), sl43⟩)
    (c43 : PySem.W.codeIn K cd43 "_law_x_asked_right" = true) (k43 : PySem.W.keepIn K (.ref f43) = true)
    (a44 : PySem.W.nsIn K mainGlobals "law" = some (some (.ref f44)))
    (l44 : K.lookup f44 = some ⟨oc44, od44, .func (PySem.W.fnOf "law" "law" (defArgs sLaw) (defBody sLaw) (defScope sLaw) .none kV44 dc44 pm44 an44 cd44 ct44), sl44⟩)
    (c44 : PySem.W.codeIn K cd44 "law" = true) (k44 : PySem.W.keepIn K (.ref f44) = true)
    (a45 : PySem.W.nsIn K mainGlobals "parted" = some (some (.ref f45)))
    (l45 : K.lookup f45 = some ⟨oc45, od45, .func (PySem.W.fnOf "parted" "parted" (defArgs sParted) (defBody sParted) (defScope sParted) .none kV45 dc45 pm45 an45 cd45 ct45), sl45⟩)
    (c45 : PySem.W.codeIn K cd45 "parted" = true) (k45 : PySem.W.keepIn K (.ref f45) = true)
    (a46 : PySem.W.nsIn K mainGlobals "levels_of" = some (some (.ref f46)))
    (l46 : K.lookup f46 = some ⟨oc46, od46, .func (PySem.W.fnOf "levels_of" "levels_of" (defArgs sLevelsOf) (defBody sLevelsOf) (defScope sLevelsOf) .none kV46 dc46 pm46 an46 cd46 ct46), sl46⟩)
    (c46 : PySem.W.codeIn K cd46 "levels_of" = true) (k46 : PySem.W.keepIn K (.ref f46) = true)
    (e0 : PySem.W.nsIn K mainGlobals "NoMachine" = some (some (.ref C0)))
    (e1 : PySem.W.nsIn K mainGlobals "NoPlain" = some (some (.ref C1)))
    (e2 : PySem.W.nsIn K mainGlobals "NoLetters" = some (some (.ref C2)))
    (e3 : PySem.W.nsIn K mainGlobals "NoRule" = some (some (.ref C3)))
    (e4 : PySem.W.nsIn K mainGlobals "NoRow" = some (some (.ref C4)))
    (e5 : PySem.W.nsIn K mainGlobals "NoWord" = some (some (.ref C5)))
    (e6 : PySem.W.nsIn K mainGlobals "NoNumber" = some (some (.ref C6)))
    (e7 : PySem.W.nsIn K mainGlobals "NoDivisor" = some (some (.ref C7)))
    (e8 : PySem.W.nsIn K mainGlobals "NoMatch" = some (some (.ref C8)))
    (e9 : PySem.W.nsIn K mainGlobals "TooGreat" = some (some (.ref C9)))
    (e10 : PySem.W.nsIn K mainGlobals "NoLimit" = some (some (.ref C10)))
    (e11 : PySem.W.nsIn K mainGlobals "HasRow" = some (some (.ref C11)))
    (eL : PySem.W.nsIn K mainGlobals "LaterError" = some (some (.ref CL)))
    (kall : kitW K [C0, C1, C2, C3, C4, C5, C6, C7, C8, C9, C10, C11] = true) (kup : upW K [C0, C1, C2, C3, C4, C5, C6, C7, C8, C9, C10, C11] CL = true)
    (hm1 : PySem.W.nsIn K mainGlobals "MOST_LETTERS" = some (some (.int 3 t1)))
    (hm2 : PySem.W.nsIn K mainGlobals "MOST_STATES" = some (some (.int 4 t2)))
    (hm3 : PySem.W.nsIn K mainGlobals "MOST_PLAIN_STATES" = some (some (.int 300 t3)))
    (hm4 : PySem.W.nsIn K mainGlobals "MOST_PAIRS" = some (some (.int 3 t4)))
    (hm5 : PySem.W.nsIn K mainGlobals "MOST_PAY" = some (some (.int 20 t5)))
    (hm8 : PySem.W.nsIn K mainGlobals "MOST_PLAIN_PAY" = some (some (.int 1000000000000000000000000000000 t8)))
    (hm6 : PySem.W.nsIn K mainGlobals "MOST_STANDINGS" = some (some (.int 2000 t6)))
    (hkV45 : kV45 = .ref DK45) (hDK45 : PySem.W.nsIn K DK45 "limit" = some (some (.int 2000 ta)))
    (hkV46 : kV46 = .ref DK46) (hDK46 : PySem.W.nsIn K DK46 "limit" = some (some (.int 2000 tb)))
    (hcd0 : cd43 = .ref cL0) (hcL0 : K.lookup cL0 = some ⟨eC0, dC0, .fields vC0, sC0⟩) (hvs0 : vC0[11]? = some (.ref PT0)) (hhd0 : PySem.W.codeHdIn K cL0 PT0 = true) (hPT0 : K.lookup PT0 = none)
    (hcd1 : cd41 = .ref cL1) (hcL1 : K.lookup cL1 = some ⟨eC1, dC1, .fields vC1, sC1⟩) (hvs1 : vC1[11]? = some (.ref PT1)) (hhd1 : PySem.W.codeHdIn K cL1 PT1 = true) (hPT1 : K.lookup PT1 = none)
    (hne0_1 : (PT0 == PT1) = false)
    (hF0 : PySem.W.nsIn K mainGlobals "FIRST" = some (some (.ref fF)))
    (hF1 : K.lookup fF = some ⟨.type "tuple", dFa, .seq #[.int 0 tk1, .int 0 tk2, .ref gA] nFa, sFa⟩)
    (hF2 : K.lookup gA = some ⟨.type "tuple", dFb, .seq #[.ref gB] nFb, sFb⟩)
    (hF3 : K.lookup gB = some ⟨.type "tuple", dFc, .seq #[.int 0 tk3, .int 0 tk4] nFc, sFc⟩)
    (z0 : PySem.W.nsIn K mainGlobals "int" = some none)
    (z1 : PySem.W.nsIn K mainGlobals "list" = some none)
    (z2 : PySem.W.nsIn K mainGlobals "len" = some none)
    (z3 : PySem.W.nsIn K mainGlobals "enumerate" = some none)
    (z4 : PySem.W.nsIn K mainGlobals "type" = some none)
    (z5 : PySem.W.nsIn K mainGlobals "tuple" = some none)
    (z6 : PySem.W.nsIn K mainGlobals "str" = some none)
    (z7 : PySem.W.nsIn K mainGlobals "all" = some none)
    (z8 : PySem.W.nsIn K mainGlobals "range" = some none)
    (z9 : PySem.W.nsIn K mainGlobals "isinstance" = some none)
    (z10 : PySem.W.nsIn K mainGlobals "ValueError" = some none)
    (z11 : PySem.W.nsIn K mainGlobals "repr" = some none)
    (z12 : PySem.W.nsIn K mainGlobals "set" = some none)
    (z13 : PySem.W.nsIn K mainGlobals "max" = some none)
    (z14 : PySem.W.nsIn K mainGlobals "min" = some none)
    (z15 : PySem.W.nsIn K mainGlobals "sorted" = some none)
    (z16 : PySem.W.nsIn K mainGlobals "any" = some none)
    (z17 : PySem.W.nsIn K mainGlobals "dict" = some none)
    (z18 : PySem.W.nsIn K mainGlobals "zip" = some none) :
    LawGL l w K CX0 19 63 "script" mg fa h := by
  cases hfa.symm.trans (PySem.W.mg_of X G a44)
  have F1 := fun_mk (st := sSpread) l1 c1 k1
  have b1 := F1.binds (ps := ["cell", "at"]) fun _ _ _ _ _ _ us hl => match us, hl with | [_, _], _ => rfl
  have F2 := fun_mk (st := sOpen) l2 c2 k2
  have b2 := F2.binds (ps := ["script"]) fun _ _ _ _ _ _ us hl => match us, hl with | [_], _ => rfl
  have F3 := fun_mk (st := sTake) l3 c3 k3
  have b3 := F3.binds (ps := ["pen", "many"]) fun _ _ _ _ _ _ us hl => match us, hl with | [_, _], _ => rfl
  have F4 := fun_mk (st := sPick) l4 c4 k4
  have b4 := F4.binds (ps := ["pen", "some"]) fun _ _ _ _ _ _ us hl => match us, hl with | [_, _], _ => rfl
  have F5 := fun_mk (st := sWhole) l5 c5 k5
  have b5 := F5.binds (ps := ["thing"]) fun _ _ _ _ _ _ us hl => match us, hl with | [_], _ => rfl
  have F6 := fun_mk (st := sBetween) l6 c6 k6
  have b6 := F6.binds (ps := ["thing", "low", "high"]) fun _ _ _ _ _ _ us hl => match us, hl with | [_, _, _], _ => rfl
  have F7 := fun_mk (st := sTuple) l7 c7 k7
  have b7 := F7.binds (ps := ["thing", "least", "most"]) fun _ _ _ _ _ _ us hl => match us, hl with | [_, _, _], _ => rfl
  have F8 := fun_mk (st := sLetters) l8 c8 k8
  have b8 := F8.binds (ps := ["thing"]) fun _ _ _ _ _ _ us hl => match us, hl with | [_], _ => rfl
  have F9 := fun_mk (st := sWayOn) l9 c9 k9
  have b9 := F9.binds (ps := ["state", "many"]) fun _ _ _ _ _ _ us hl => match us, hl with | [_, _], _ => rfl
  have F10 := fun_mk (st := sTable) l10 c10 k10
  have b10 := F10.binds (ps := ["thing", "letters", "most"]) fun _ _ _ _ _ _ us hl => match us, hl with | [_, _, _], _ => rfl
  have F11 := fun_mk (st := sRule) l11 c11 k11
  have b11 := F11.binds (ps := ["thing"]) fun _ _ _ _ _ _ us hl => match us, hl with | [_], _ => rfl
  have F12 := fun_mk (st := sPair) l12 c12 k12
  have b12 := F12.binds (ps := ["thing", "most", "many"]) fun _ _ _ _ _ _ us hl => match us, hl with | [_, _, _], _ => rfl
  have F13 := fun_mk (st := sFrame) l13 c13 k13
  have b13 := F13.binds (ps := ["thing", "most"]) fun _ _ _ _ _ _ us hl => match us, hl with | [_, _], _ => rfl
  have F14 := fun_mk (st := sChoice) l14 c14 k14
  have b14 := F14.binds (ps := ["thing", "many"]) fun _ _ _ _ _ _ us hl => match us, hl with | [_, _], _ => rfl
  have F15 := fun_mk (st := sMachine) l15 c15 k15
  have b15 := F15.binds (ps := ["thing"]) fun _ _ _ _ _ _ us hl => match us, hl with | [_], _ => rfl
  have F16 := fun_mk (st := sPlain) l16 c16 k16
  have b16 := F16.binds (ps := ["thing"]) fun _ _ _ _ _ _ us hl => match us, hl with | [_], _ => rfl
  have F17 := fun_mk (st := sNeedMachine) l17 c17 k17
  have b17 := F17.binds (ps := ["thing", "name"]) fun _ _ _ _ _ _ us hl => match us, hl with | [_, _], _ => rfl
  have F18 := fun_mk (st := sWith) l18 c18 k18
  have b18 := F18.binds (ps := ["plain"]) fun _ _ _ _ _ _ us hl => match us, hl with | [_], _ => rfl
  have F19 := fun_mk (st := sNeedMatch) l19 c19 k19
  have b19 := F19.binds (ps := ["one", "other"]) fun _ _ _ _ _ _ us hl => match us, hl with | [_, _], _ => rfl
  have F20 := fun_mk (st := sNeedRule) l20 c20 k20
  have b20 := F20.binds (ps := ["thing", "letters"]) fun _ _ _ _ _ _ us hl => match us, hl with | [_, _], _ => rfl
  have F21 := fun_mk (st := sNeedContest) l21 c21 k21
  have b21 := F21.binds (ps := ["one", "other", "rule"]) fun _ _ _ _ _ _ us hl => match us, hl with | [_, _, _], _ => rfl
  have F22 := fun_mk (st := sContestOf) l22 c22 k22
  have b22 := F22.binds (ps := ["one", "other", "rule"]) fun _ _ _ _ _ _ us hl => match us, hl with | [_, _, _], _ => rfl
  have F23 := fun_mk (st := sNeedLimit) l23 c23 k23
  have b23 := F23.binds (ps := ["thing", "most"]) fun _ _ _ _ _ _ us hl => match us, hl with | [_, _], _ => rfl
  have F24 := fun_mk (st := sPaysOf) l24 c24 k24
  have b24 := F24.binds (ps := ["machine"]) fun _ _ _ _ _ _ us hl => match us, hl with | [_], _ => rfl
  have F25 := fun_mk (st := sSucc) l25 c25 k25
  have b25 := F25.binds (ps := ["contest", "standing", "at"]) fun _ _ _ _ _ _ us hl => match us, hl with | [_, _, _], _ => rfl
  have F26 := fun_mk (st := sIsWon) l26 c26 k26
  have b26 := F26.binds (ps := ["standing"]) fun _ _ _ _ _ _ us hl => match us, hl with | [_], _ => rfl
  have F27 := fun_mk (st := sHasWon) l27 c27 k27
  have b27 := F27.binds (ps := ["level"]) fun _ _ _ _ _ _ us hl => match us, hl with | [_], _ => rfl
  have F28 := fun_mk (st := sLevelAfter) l28 c28 k28
  have b28 := F28.binds (ps := ["contest", "level", "seen"]) fun _ _ _ _ _ _ us hl => match us, hl with | [_, _, _], _ => rfl
  have F29 := fun_mk (st := sLevelsUntil) l29 c29 k29
  have b29 := F29.binds (ps := ["contest", "limit"]) fun _ _ _ _ _ _ us hl => match us, hl with | [_, _], _ => rfl
  have F30 := fun_mk (st := sIsEx) l30 c30 k30
  have b30 := F30.binds (ps := ["thing", "right"]) fun _ _ _ _ _ _ us hl => match us, hl with | [_, _], _ => rfl
  have F31 := fun_mk (st := sShowsLevels) l31 c31 k31
  have b31 := F31.binds (ps := ["one", "other", "rule", "thing"]) fun _ _ _ _ _ _ us hl => match us, hl with | [_, _, _, _], _ => rfl
  have F32 := fun_mk (st := sIsStd) l32 c32 k32
  have b32 := F32.binds (ps := ["thing", "contest"]) fun _ _ _ _ _ _ us hl => match us, hl with | [_, _], _ => rfl
  have F33 := fun_mk (st := sShowsNever) l33 c33 k33
  have b33 := F33.binds (ps := ["one", "other", "rule", "thing"]) fun _ _ _ _ _ _ us hl => match us, hl with | [_, _, _, _], _ => rfl
  have F34 := fun_mk (st := sXLetters) l34 c34 k34
  have b34 := F34.binds (ps := ["pen"]) fun _ _ _ _ _ _ us hl => match us, hl with | [_], _ => rfl
  have F35 := fun_mk (st := sXMachineB) l35 c35 k35
  have b35 := F35.binds (ps := ["pen", "base", "letters", "most", "wide"]) fun _ _ _ _ _ _ us hl => match us, hl with | [_, _, _, _, _], _ => rfl
  have F36 := fun_mk (st := sXPlainB) l36 c36 k36
  have b36 := F36.binds (ps := ["pen", "base", "letters", "most", "wide"]) fun _ _ _ _ _ _ us hl => match us, hl with | [_, _, _, _, _], _ => rfl
  have F37 := fun_mk (st := sXRule) l37 c37 k37
  have b37 := F37.binds (ps := ["pen", "letters", "most"]) fun _ _ _ _ _ _ us hl => match us, hl with | [_, _, _], _ => rfl
  have F38 := fun_mk (st := sXFreeB) l38 c38 k38
  have b38 := F38.binds (ps := ["letters"]) fun _ _ _ _ _ _ us hl => match us, hl with | [_], _ => rfl
  have F39 := fun_mk (st := sWord) l39 c39 k39
  have b39 := F39.binds (ps := ["act"]) fun _ _ _ _ _ _ us hl => match us, hl with | [_], _ => rfl
  have F40 := fun_mk (st := sXDue) l40 c40 k40
  have b40 := F40.binds (ps := ["one", "two", "rule", "good", "apart_ones"]) fun _ _ _ _ _ _ us hl => match us, hl with | [_, _, _, _, _], _ => rfl
  have F41 := fun_mk (st := sGreat) l41 c41 k41
  have b41 := F41.binds (ps := ["pen"]) fun _ _ _ _ _ _ us hl => match us, hl with | [_], _ => rfl
  have F42 := fun_mk (st := sXWrong) l42 c42 k42
  have b42 := F42.binds (ps := ["pen", "base", "letters", "other", "good"]) fun _ _ _ _ _ _ us hl => match us, hl with | [_, _, _, _, _], _ => rfl
  have F43 := fun_mk (st := sAsk) l43 c43 k43
  have b43 := F43.binds (ps := ["pen", "one", "two", "rule", "due"]) fun _ _ _ _ _ _ us hl => match us, hl with | [_, _, _, _, _], _ => rfl
  have F44 := fun_mk (st := sLaw) l44 c44 k44
  have b44 := F44.binds (ps := ["script"]) fun _ _ _ _ _ _ us hl => match us, hl with | [_], _ => rfl
  obtain ⟨fdx⟩ := fun_some F1
  have mk : ∀ i, i < 12 → mkFacts K ([C0, C1, C2, C3, C4, C5, C6, C7, C8, C9, C10, C11].getD i 0) = true := fun i hi => (upW_of kup hi).1
  subst hkV45
  have F45 : FunD K "parted" "parted" (defArgs sParted) (defBody sParted) (defScope sParted) [] [("limit", .int 2000)] f45 _ := ⟨⟨_, _, _, _, _, _, _, _, _, _, rfl, l45, c45, .inl ⟨rfl, rfl⟩, .inr ⟨DK45, rfl, fun q hq => by
    rw [List.mem_singleton.mp hq]
    exact ⟨_, hDK45, ⟨_, rfl⟩⟩⟩⟩, k45⟩
  subst hkV46
  have F46 : FunD K "levels_of" "levels_of" (defArgs sLevelsOf) (defBody sLevelsOf) (defScope sLevelsOf) [] [("limit", .int 2000)] f46 _ := ⟨⟨_, _, _, _, _, _, _, _, _, _, rfl, l46, c46, .inl ⟨rfl, rfl⟩, .inr ⟨DK46, rfl, fun q hq => by
    rw [List.mem_singleton.mp hq]
    exact ⟨_, hDK46, ⟨_, rfl⟩⟩⟩⟩, k46⟩
  have TP : PenTxt K mg f1 f2 f3 f4 _ _ _ _ := { int := PySem.W.mg_none_of X G z0, list := PySem.W.mg_none_of X G z1, len := PySem.W.mg_none_of X G z2, enumerate := PySem.W.mg_none_of X G z3, FSpread := F1, bSpread := b1, gSpread := PySem.W.mg_of X G a1, FOpen := F2, bOpen := b2, gOpen := PySem.W.mg_of X G a2, FTake := F3, bTake := b3, gTake := PySem.W.mg_of X G a3, FPick := F4, bPick := b4, gPick := PySem.W.mg_of X G a4 }
  have TK : LookTxt K mg f5 f6 f7 f8 f9 f10 f11 _ _ _ _ _ _ _ t1 t2 := { mLetters := PySem.W.mg_of X G hm1, mStates := PySem.W.mg_of X G hm2, type := PySem.W.mg_none_of X G z4, int := PySem.W.mg_none_of X G z0, tuple := PySem.W.mg_none_of X G z5, str := PySem.W.mg_none_of X G z6, len := PySem.W.mg_none_of X G z2, all := PySem.W.mg_none_of X G z7, range := PySem.W.mg_none_of X G z8, FWhole := F5, bWhole := b5, gWhole := PySem.W.mg_of X G a5, FBetween := F6, bBetween := b6, gBetween := PySem.W.mg_of X G a6, FTuple := F7, bTuple := b7, gTuple := PySem.W.mg_of X G a7, FLetters := F8, bLetters := b8, gLetters := PySem.W.mg_of X G a8, FWayOn := F9, bWayOn := b9, gWayOn := PySem.W.mg_of X G a9, FTable := F10, bTable := b10, gTable := PySem.W.mg_of X G a10, FRule := F11, bRule := b11, gRule := PySem.W.mg_of X G a11 }
  have TM : MachTxt K mg f5 f6 f7 f8 f12 f9 f10 f13 f14 f15 f16 f11 _ _ _ _ _ _ _ _ _ _ _ _ t1 t2 t3 t4 t5 := { look := TK, mPlain := PySem.W.mg_of X G hm3, mWide := ⟨t8, by rw [show ((10 : Int) ^ (30 : Int).toNat) = 1000000000000000000000000000000 from by decide +kernel]; exact PySem.W.mg_of X G hm8⟩, mPairs := PySem.W.mg_of X G hm4, mPay := PySem.W.mg_of X G hm5, set := PySem.W.mg_none_of X G z12, FPair := F12, bPair := b12, gPair := PySem.W.mg_of X G a12, FFrame := F13, bFrame := b13, gFrame := PySem.W.mg_of X G a13, FChoice := F14, bChoice := b14, gChoice := PySem.W.mg_of X G a14, FMachine := F15, bMachine := b15, gMachine := PySem.W.mg_of X G a15, FPlain := F16, bPlain := b16, gPlain := PySem.W.mg_of X G a16 }
  have TFr : FrmTxt K mg f5 f6 f7 f8 f12 f9 f10 f13 f14 f15 f16 f11 _ _ _ _ _ _ _ _ _ _ _ _ t1 t2 t3 t4 t5 C0 f17 f18 _ _ := { mach := TM, noMachine := excF_of (PySem.W.mg_of X G e0) (mk 0 (by decide)), FNeedMachine := F17, bNeedMachine := b17, gNeedMachine := PySem.W.mg_of X G a17, FWith := F18, bWith := b18, gWith := PySem.W.mg_of X G a18 }
  have TS : ∀ (pz : Addr) (qz : FuncData), SprTxt K mg f24 pz _ qz := fun _ _ => { max := PySem.W.mg_none_of X G z13, min := PySem.W.mg_none_of X G z14, FPaysOf := F24, bPaysOf := b24, gPaysOf := PySem.W.mg_of X G a24 }
  have TCo : CoTxt K mg f5 f6 f7 f8 f12 f9 f10 f13 f14 f15 f16 f11 _ _ _ _ _ _ _ _ _ _ _ _ t1 t2 t3 t4 t5 C0 f17 f18 _ _ f19 f20 f21 f22 f23 f24 _ _ _ _ _ _ C8 C3 C10 := { frm := TFr, pays := TS _ _, noMatch := excF_of (PySem.W.mg_of X G e8) (mk 8 (by decide)), noRule := excF_of (PySem.W.mg_of X G e3) (mk 3 (by decide)), noLimit := excF_of (PySem.W.mg_of X G e10) (mk 10 (by decide)), FNeedMatch := F19, bNeedMatch := b19, gNeedMatch := PySem.W.mg_of X G a19, FNeedRule := F20, bNeedRule := b20, gNeedRule := PySem.W.mg_of X G a20, FNeedContest := F21, bNeedContest := b21, gNeedContest := PySem.W.mg_of X G a21, FContestOf := F22, bContestOf := b22, gContestOf := PySem.W.mg_of X G a22, FNeedLimit := F23, bNeedLimit := b23, gNeedLimit := PySem.W.mg_of X G a23 }
  have TSu : SuTxt K mg f25 f26 f27 _ _ _ := { sorted := PySem.W.mg_none_of X G z15, any := PySem.W.mg_none_of X G z16, tuple := PySem.W.mg_none_of X G z5, FSucc := F25, bSucc := b25, gSucc := PySem.W.mg_of X G a25, FIsWon := F26, bIsWon := b26, gIsWon := PySem.W.mg_of X G a26, FHasWon := F27, bHasWon := b27, gHasWon := PySem.W.mg_of X G a27 }
  have TLv : LvTxt K mg f25 f26 f27 f28 _ _ _ _ := { su := TSu, enumerate := PySem.W.mg_none_of X G z3, FLevelAfter := F28, bLevelAfter := b28, gLevelAfter := PySem.W.mg_of X G a28 }
  have sz2 : ∀ {m : Nat}, m ≤ 9 → m ≤ sizeLine := fun h => Nat.le_trans h (by decide)
  have first : ∀ H : Hp, Rp K H (.ref fF) (eSg FIRSTg) := fun H => by
    have v2 : Vals [V.int 0, V.int 0] [Value.int 0 tk3, Value.int 0 tk4] := .cons ⟨_, rfl⟩ (.cons ⟨_, rfl⟩ .nil)
    have v1 : Vals [V.ref gB] [Value.ref gB] := .cons rfl .nil
    have v0 : Vals [V.int 0, V.int 0, V.ref gA] [Value.int 0 tk1, Value.int 0 tk2, Value.ref gA] := .cons ⟨_, rfl⟩ (.cons ⟨_, rfl⟩ (.cons rfl .nil))
    exact .tup (.inr ⟨_, _, _, hF1, rfl, rfl, sz2 (by simp), v0⟩) (.cons (.int 0) (.cons (.int 0) (.cons (.tup (.inr ⟨_, _, _, hF2, rfl, rfl, sz2 (by simp), v1⟩) (.cons (.tup (.inr ⟨_, _, _, hF3, rfl, rfl, sz2 (by simp), v2⟩) (.cons (.int 0) (.cons (.int 0) .nil))) .nil)) .nil)))
  have TLu : LuTxt K mg f25 f26 f27 f28 f29 _ _ _ _ _ C9 fF := { lv := TLv, great := excF_of (PySem.W.mg_of X G e9) (mk 9 (by decide)), gFirst := PySem.W.mg_of X G hF0, first := first, len := PySem.W.mg_none_of X G z2, FLevelsUntil := F29, bLevelsUntil := b29, gLevelsUntil := PySem.W.mg_of X G a29 }
  have TPA : PaTxt K mg f5 f6 f7 f8 f12 f9 f10 f13 f14 f15 f16 f11 _ _ _ _ _ _ _ _ _ _ _ _ t1 t2 t3 t4 t5 t6 C0 f17 f18 _ _ f19 f20 f21 f22 f23 f24 _ _ _ _ _ _ C8 C3 C10 f11 f9 _ _ f25 f26 f27 f28 f29 _ _ _ _ _ C9 fF f45 f46 _ _ := { co := TCo, look := TK, lu := TLu, mMost := PySem.W.mg_of X G hm6, FParted := F45, gParted := PySem.W.mg_of X G a45, FLevelsOf := F46, gLevelsOf := PySem.W.mg_of X G a46 }
  have TEx : ExTxt K mg f30 _ := { type := PySem.W.mg_none_of X G z4, dict := PySem.W.mg_none_of X G z17, list := PySem.W.mg_none_of X G z1, tuple := PySem.W.mg_none_of X G z5, int := PySem.W.mg_none_of X G z0, len := PySem.W.mg_none_of X G z2, all := PySem.W.mg_none_of X G z7, zip := PySem.W.mg_none_of X G z18, FIsEx := F30, bIsEx := b30, gIsEx := PySem.W.mg_of X G a30 }
  have TSH : ShTxt K mg f5 f6 f7 f8 f12 f9 f10 f13 f14 f15 f16 f11 _ _ _ _ _ _ _ _ _ _ _ _ t1 t2 t3 t4 t5 C0 f17 f18 _ _ f19 f20 f21 f22 f23 f24 _ _ _ _ _ _ C8 C3 C10 f11 f9 _ _ f25 f26 f27 f28 f29 _ _ _ _ _ C9 fF f30 f31 _ _ := { co := TCo, look := TK, lu := TLu, ex := TEx, list := PySem.W.mg_none_of X G z1, enumerate := PySem.W.mg_none_of X G z3, FShowsLevels := F31, bShowsLevels := b31, gShowsLevels := PySem.W.mg_of X G a31 }
  have TSt : StTxt K mg f5 f6 f7 f8 f9 f10 f11 _ _ _ _ _ _ _ t1 t2 f32 _ := { look := TK, FIsStd := F32, bIsStd := b32, gIsStd := PySem.W.mg_of X G a32 }
  have TNV : NvTxt K mg f5 f6 f7 f8 f12 f9 f10 f13 f14 f15 f16 f11 _ _ _ _ _ _ _ _ _ _ _ _ t1 t2 t3 t4 t5 C0 f17 f18 _ _ f19 f20 f21 f22 f23 f24 _ _ _ _ _ _ C8 C3 C10 f11 f9 _ _ f25 f26 f27 f28 f29 _ _ _ _ _ C9 fF f32 f33 _ _ := { co := TCo, look := TK, lu := TLu, st := TSt, list := PySem.W.mg_none_of X G z1, FShowsNever := F33, bShowsNever := b33, gShowsNever := PySem.W.mg_of X G a33 }
  have TE : WordTxt K mg C0 C1 C2 C3 C4 C5 C6 C7 C8 C9 C10 C11 CL := { isi := PySem.W.mg_none_of X G z9, ve := PySem.W.mg_none_of X G z10, later := PySem.W.mg_of X G eL, c0 := PySem.W.mg_of X G e0, c1 := PySem.W.mg_of X G e1, c2 := PySem.W.mg_of X G e2, c3 := PySem.W.mg_of X G e3, c4 := PySem.W.mg_of X G e4, c5 := PySem.W.mg_of X G e5, c6 := PySem.W.mg_of X G e6, c7 := PySem.W.mg_of X G e7, c8 := PySem.W.mg_of X G e8, c9 := PySem.W.mg_of X G e9, c10 := PySem.W.mg_of X G e10, c11 := PySem.W.mg_of X G e11, all := kall, up := kup }
  have TW : WT K mg f39 _ := { FWord := F39, bWord := b39, gWord := PySem.W.mg_of X G a39 }
  have TL : LetTxt K mg f34 _ := { FXLetters := F34, bXLetters := b34, gXLetters := PySem.W.mg_of X G a34 }
  have TB : BlTxt K mg f35 f36 f1 f1 _ _ fdx fdx := { range := PySem.W.mg_none_of X G z8, len := PySem.W.mg_none_of X G z2, tuple := PySem.W.mg_none_of X G z5, int := PySem.W.mg_none_of X G z0, FXMachineB := F35, bXMachineB := b35, gXMachineB := PySem.W.mg_of X G a35, FXPlainB := F36, bXPlainB := b36, gXPlainB := PySem.W.mg_of X G a36 }
  have TR : RulTxt K mg f37 _ := { range := PySem.W.mg_none_of X G z8, len := PySem.W.mg_none_of X G z2, tuple := PySem.W.mg_none_of X G z5, FXRule := F37, bXRule := b37, gXRule := PySem.W.mg_of X G a37 }
  have TFx : FrTxt K mg f38 _ := { len := PySem.W.mg_none_of X G z2, FXFreeB := F38, bXFreeB := b38, gXFreeB := PySem.W.mg_of X G a38 }
  have TA : AskTxt K mg f43 _ := { repr := PySem.W.mg_none_of X G z11, FAsk := F43, bAsk := b43, gAsk := PySem.W.mg_of X G a43 }
  have TG : GreatTxt K mg f38 _ f41 _ := { fr := TFx, FGreat := F41, bGreat := b41, gGreat := PySem.W.mg_of X G a41 }
  have TD : DueTxt K mg f40 _ := { FXDue := F40, bXDue := b40, gXDue := PySem.W.mg_of X G a40 }
  have TX : WrTxt K mg f42 _ := { len := PySem.W.mg_none_of X G z2, list := PySem.W.mg_none_of X G z1, FXWrong := F42, bXWrong := b42, gXWrong := PySem.W.mg_of X G a42 }
  have T0 : LawTxt K mg := { range := PySem.W.mg_none_of X G z8 }
  have hP0 := own0 _ (PySem.W.mg_of X G a43) cL0 PT0 _ _ eC0 dC0 vC0 sC0 l43 rfl hcd0 hcL0 hvs0
  have hP1 := own1 _ (PySem.W.mg_of X G a41) cL1 PT1 _ _ eC1 dC1 vC1 sC1 l41 rfl hcd1 hcL1 hvs1
  have ne0_1 : PT0 ≠ PT1 := fun z => by simp [z] at hne0_1
  have hPs : ∀ q ∈ ([(cL0, PT0), (cL1, PT1)] : List (Addr × Addr)), h.get? q.2 = some { cls := .none, data := .fields #[] } ∧ K.lookup q.2 = none ∧ PySem.W.CodeHd h q.1 q.2 := by
    intro q hq
    simp only [List.mem_cons, List.not_mem_nil, or_false] at hq
    rcases hq with rfl | rfl
    · exact ⟨hP0, hPT0, PySem.W.codeHd_of_K X hhd0⟩
    · exact ⟨hP1, hPT1, PySem.W.codeHd_of_K X hhd1⟩
  refine ⟨_, [(cL0, PT0), (cL1, PT1)], spLaw K PT0 PT1, hPs, fun s v => .of_eq rfl, fun H a ns hl hT hS => ⟨a, ns, rfl, hS, hl, hT _ (.head _), hT _ (.tail _ (.head _)), fun _ => rfl⟩, fun base _ _ TAB => ok_law F44 hcd0 hcd1 ne0_1 TP TPA TSH TNV TE TW TA TG TD TX TL TB TR T0 (TAB _ (.head _)) (TAB _ (.tail _ (.head _)))⟩
end My
open PySem PySem.W PyProof.Rows
set_option maxHeartbeats 0 in
theorem PySem.Challenge.cw_laterless_k46_leads_refused_holds : PySem.Challenge.rw_laterless_k46_leads_refused.Holds := by
  w_on; o_law; k_head; (case hw => w_witness2)
  k_fill
  refine My.walk_ofGL (l := PySem.Challenge.rw_laterless_k46_leads_refused) (n := 63) (k := 19) (x := "script") (CX := fun _ => L2.CX0) ["_law_x_asked_right", "_law_x_great_right"] rfl (by decide) rfl ⟨rfl, by decide, by decide⟩ ?hrec (fun w h Y => PySem.W.km_in_of Y) ?F (fun _ _ _ _ _ h => h)
  case hrec => kernel_rfl
  case F =>
    intro w mg fa h KX G hmg own
    refine' My.all_mk KX G hmg (own _ (by simp)) (own _ (by simp)) ?a1 ?l1 ?c1 ?k1 ?a2 ?l2 ?c2 ?k2 ?a3 ?l3 ?c3 ?k3 ?a4 ?l4 ?c4 ?k4 ?a5 ?l5 ?c5 ?k5 ?a6 ?l6 ?c6 ?k6 ?a7 ?l7 ?c7 ?k7 ?a8 ?l8 ?c8 ?k8 ?a9 ?l9 ?c9 ?k9 ?a10 ?l10 ?c10 ?k10 ?a11 ?l11 ?c11 ?k11 ?a12 ?l12 ?c12 ?k12 ?a13 ?l13 ?c13 ?k13 ?a14 ?l14 ?c14 ?k14 ?a15 ?l15 ?c15 ?k15 ?a16 ?l16 ?c16 ?k16 ?a17 ?l17 ?c17 ?k17 ?a18 ?l18 ?c18 ?k18 ?a19 ?l19 ?c19 ?k19 ?a20 ?l20 ?c20 ?k20 ?a21 ?l21 ?c21 ?k21 ?a22 ?l22 ?c22 ?k22 ?a23 ?l23 ?c23 ?k23 ?a24 ?l24 ?c24 ?k24 ?a25 ?l25 ?c25 ?k25 ?a26 ?l26 ?c26 ?k26 ?a27 ?l27 ?c27 ?k27 ?a28 ?l28 ?c28 ?k28 ?a29 ?l29 ?c29 ?k29 ?a30 ?l30 ?c30 ?k30 ?a31 ?l31 ?c31 ?k31 ?a32 ?l32 ?c32 ?k32 ?a33 ?l33 ?c33 ?k33 ?a34 ?l34 ?c34 ?k34 ?a35 ?l35 ?c35 ?k35 ?a36 ?l36 ?c36 ?k36 ?a37 ?l37 ?c37 ?k37 ?a38 ?l38 ?c38 ?k38 ?a39 ?l39 ?c39 ?k39 ?a40 ?l40 ?c40 ?k40 ?a41 ?l41 ?c41 ?k41 ?a42 ?l42 ?c42 ?k42 ?a43 ?l43 ?c43 ?k43 ?a44 ?l44 ?c44 ?k44 ?a45 ?l45 ?c45 ?k45 ?a46 ?l46 ?c46 ?k46 ?e0 ?e1 ?e2 ?e3 ?e4 ?e5 ?e6 ?e7 ?e8 ?e9 ?e10 ?e11 ?eL ?kall ?kup ?hm1 ?hm2 ?hm3 ?hm4 ?hm5 ?hm8 ?hm6 ?hkV45 ?hDK45 ?hkV46 ?hDK46 ?hcd0 ?hcL0 ?hvs0 ?hhd0 ?hPT0 ?hcd1 ?hcL1 ?hvs1 ?hhd1 ?hPT1 ?hne0_1 ?hF0 ?hF1 ?hF2 ?hF3 ?z0 ?z1 ?z2 ?z3 ?z4 ?z5 ?z6 ?z7 ?z8 ?z9 ?z10 ?z11 ?z12 ?z13 ?z14 ?z15 ?z16 ?z17 ?z18
    (case a1 => k_is); (case l1 => k_is); (case c1 => k_is); (case k1 => k_is)
    (case a2 => k_is); (case l2 => k_is); (case c2 => k_is); (case k2 => k_is)
    (case a3 => k_is); (case l3 => k_is); (case c3 => k_is); (case k3 => k_is)
    (case a4 => k_is); (case l4 => k_is); (case c4 => k_is); (case k4 => k_is)
    (case a5 => k_is); (case l5 => k_is); (case c5 => k_is); (case k5 => k_is)
    (case a6 => k_is); (case l6 => k_is); (case c6 => k_is); (case k6 => k_is)
    (case a7 => k_is); (case l7 => k_is); (case c7 => k_is); (case k7 => k_is)
    (case a8 => k_is); (case l8 => k_is); (case c8 => k_is); (case k8 => k_is)
    (case a9 => k_is); (case l9 => k_is); (case c9 => k_is); (case k9 => k_is)
    (case a10 => k_is); (case l10 => k_is); (case c10 => k_is); (case k10 => k_is)
    (case a11 => k_is); (case l11 => k_is); (case c11 => k_is); (case k11 => k_is)
    (case a12 => k_is); (case l12 => k_is); (case c12 => k_is); (case k12 => k_is)
    (case a13 => k_is); (case l13 => k_is); (case c13 => k_is); (case k13 => k_is)
    (case a14 => k_is); (case l14 => k_is); (case c14 => k_is); (case k14 => k_is)
    (case a15 => k_is); (case l15 => k_is); (case c15 => k_is); (case k15 => k_is)
    (case a16 => k_is); (case l16 => k_is); (case c16 => k_is); (case k16 => k_is)
    (case a17 => k_is); (case l17 => k_is); (case c17 => k_is); (case k17 => k_is)
    (case a18 => k_is); (case l18 => k_is); (case c18 => k_is); (case k18 => k_is)
    (case a19 => k_is); (case l19 => k_is); (case c19 => k_is); (case k19 => k_is)
    (case a20 => k_is); (case l20 => k_is); (case c20 => k_is); (case k20 => k_is)
    (case a21 => k_is); (case l21 => k_is); (case c21 => k_is); (case k21 => k_is)
    (case a22 => k_is); (case l22 => k_is); (case c22 => k_is); (case k22 => k_is)
    (case a23 => k_is); (case l23 => k_is); (case c23 => k_is); (case k23 => k_is)
    (case a24 => k_is); (case l24 => k_is); (case c24 => k_is); (case k24 => k_is)
    (case a25 => k_is); (case l25 => k_is); (case c25 => k_is); (case k25 => k_is)
    (case a26 => k_is); (case l26 => k_is); (case c26 => k_is); (case k26 => k_is)
    (case a27 => k_is); (case l27 => k_is); (case c27 => k_is); (case k27 => k_is)
    (case a28 => k_is); (case l28 => k_is); (case c28 => k_is); (case k28 => k_is)
    (case a29 => k_is); (case l29 => k_is); (case c29 => k_is); (case k29 => k_is)
    (case a30 => k_is); (case l30 => k_is); (case c30 => k_is); (case k30 => k_is)
    (case a31 => k_is); (case l31 => k_is); (case c31 => k_is); (case k31 => k_is)
    (case a32 => k_is); (case l32 => k_is); (case c32 => k_is); (case k32 => k_is)
    (case a33 => k_is); (case l33 => k_is); (case c33 => k_is); (case k33 => k_is)
    (case a34 => k_is); (case l34 => k_is); (case c34 => k_is); (case k34 => k_is)
    (case a35 => k_is); (case l35 => k_is); (case c35 => k_is); (case k35 => k_is)
    (case a36 => k_is); (case l36 => k_is); (case c36 => k_is); (case k36 => k_is)
    (case a37 => k_is); (case l37 => k_is); (case c37 => k_is); (case k37 => k_is)
    (case a38 => k_is); (case l38 => k_is); (case c38 => k_is); (case k38 => k_is)
    (case a39 => k_is); (case l39 => k_is); (case c39 => k_is); (case k39 => k_is)
    (case a40 => k_is); (case l40 => k_is); (case c40 => k_is); (case k40 => k_is)
    (case a41 => k_is); (case l41 => k_is); (case c41 => k_is); (case k41 => k_is)
    (case a42 => k_is); (case l42 => k_is); (case c42 => k_is); (case k42 => k_is)
    (case a43 => k_is); (case l43 => k_is); (case c43 => k_is); (case k43 => k_is)
    (case a44 => k_is); (case l44 => k_is); (case c44 => k_is); (case k44 => k_is)
    (case a45 => k_is); (case l45 => k_is); (case c45 => k_is); (case k45 => k_is)
    (case a46 => k_is); (case l46 => k_is); (case c46 => k_is); (case k46 => k_is)
    (case e0 => k_is); (case e1 => k_is); (case e2 => k_is); (case e3 => k_is); (case e4 => k_is); (case e5 => k_is); (case e6 => k_is); (case e7 => k_is); (case e8 => k_is); (case e9 => k_is); (case e10 => k_is); (case e11 => k_is); (case eL => k_is); (case kall => kernel_rfl); (case kup => kernel_rfl); (case hm1 => k_is); (case hm2 => k_is); (case hm3 => k_is); (case hm4 => k_is); (case hm5 => k_is); (case hm8 => k_is); (case hm6 => k_is); (case hkV45 => rfl); (case hDK45 => k_is); (case hkV46 => rfl); (case hDK46 => k_is); (case hcd0 => rfl); (case hcL0 => k_is); (case hvs0 => rfl); (case hhd0 => kernel_rfl); (case hPT0 => kernel_rfl); (case hcd1 => rfl); (case hcL1 => k_is); (case hvs1 => rfl); (case hhd1 => kernel_rfl); (case hPT1 => kernel_rfl); (case hne0_1 => kernel_rfl); (case hF0 => k_is); (case hF1 => k_is); (case hF2 => k_is); (case hF3 => k_is); (case z0 => k_is); (case z1 => k_is); (case z2 => k_is); (case z3 => k_is); (case z4 => k_is); (case z5 => k_is); (case z6 => k_is); (case z7 => k_is); (case z8 => k_is); (case z9 => k_is); (case z10 => k_is); (case z11 => k_is); (case z12 => k_is); (case z13 => k_is); (case z14 => k_is); (case z15 => k_is); (case z16 => k_is); (case z17 => k_is); (case z18 => k_is)
