import PyProof.Rows.All
import Wide.All
import OpenK.AllK
import Wide.FinOn
import HandS.ForMost
import HandS.ForExc
import HandS.Wide
import HandS.Gcd
import HandS.Evl
import HandS.Walk
import HandS.More
import HandS.FStr
import HandS.IsInst
import HandS.RaiseMore
import HandS.Style
import HandS.ExcValue
import HandS.ExcIs
import HandS.Lambda
import HandS.EndTab
import HandS.EndOwn
import PyProof.TypeEq
import PyProof.ReprLen
import HandS.TupSets
import HandS.Replace
import HandS.Defaults
import PyProof.ListStr
import KE.GoesEnum
import HandS.TupMul
import HandS.TupAny
import HandS.Deep
import HandS.Zip
import HandS.RevRange
import HandS.WideBits
import HandS.ListItems
import HandS.DictComp
import HandS.Finally
import HandS.SortRule
import KE.KDictKeyed
import KE.KDictDisplayH
import HandS.MakeKwOnly
import PySem.Challenge.RW_laterless_k40_machines_led
set_option Elab.async false
set_option linter.all false
set_option maxRecDepth 100000
set_option maxHeartbeats 4000000
namespace My
open PySem PySem.Spec PyProof.Rows L2
/-! ### the text by places -/
def topS (i : Nat) : Stmt := PySem.Challenge.pw_laterless_k40_machines_led.main.body.getD i (.Pass ⟨0, 0, 0, 0⟩)
abbrev sSpread : Stmt := topS 45
abbrev sOpen : Stmt := topS 46
abbrev sTake : Stmt := topS 47
abbrev sPick : Stmt := topS 48
theorem scSpread : FnScope ["cell", "at", "primes", "one", "two", "three"] ["cell", "at"] (defScope sSpread) := ⟨rfl, rfl, rfl, by decide +kernel, rfl, by decide +kernel, by decide +kernel⟩
theorem scOpen : FnScope ["script", "cells", "nth", "cell"] ["script"] (defScope sOpen) := ⟨rfl, rfl, rfl, by decide +kernel, rfl, by decide +kernel, by decide +kernel⟩
theorem scTake : FnScope ["pen", "many", "at", "cell", "found"] ["pen", "many"] (defScope sTake) := ⟨rfl, rfl, rfl, by decide +kernel, rfl, by decide +kernel, by decide +kernel⟩
theorem scPick : FnScope ["pen", "some"] ["pen", "some"] (defScope sPick) := ⟨rfl, rfl, rfl, by decide +kernel, rfl, by decide +kernel, by decide +kernel⟩
/-! ### heaps -/
theorem same_upd {H : Hp} {p : Addr} {o : HO} (h : H p = none) : Same H (upd H p o) := fun b x e => by
  rw [upd_ne (ne_of_none e h)]
  exact e
/-- all tracked things but the one at p stand as they stood -/
def But (p : Addr) (H H' : Hp) : Prop := ∀ b o, b ≠ p → H b = some o → H' b = some o
theorem But.of {p : Addr} {H H' : Hp} (s : Same H H') : But p H H' := fun b o _ e => s b o e
theorem But.trans {p : Addr} {H H1 H2 : Hp} (a : But p H H1) (b : But p H1 H2) : But p H H2 := fun c o n e => b c o n (a c o n e)
theorem but_upd {H : Hp} {p : Addr} {o : HO} : But p H (upd H p o) := fun b x n e => by
  rw [upd_ne n]
  exact e
/-- a pen stands at p: a list of the list of cells (at c), the number of cells read so far, at most n, and what is left of the last one -/
structure Pen (H : Hp) (p : Addr) (n : Nat) : Prop where
  ex : ∃ (c : Addr) (cs : List Int) (a r : Int), H p = some (.lst [.ref c, .int a, .int r]) ∧ H c = some (.lst (cs.map V.int)) ∧ c ≠ p ∧ cs.length ≤ 12 ∧ 0 ≤ a ∧ a ≤ (n : Int) ∧ 0 ≤ r
theorem Pen.same {H H' : Hp} {p : Addr} {n : Nat} (h : Pen H p n) (s : Same H H') : Pen H' p n := by
  obtain ⟨c, cs, a, r, h1, h2, h3⟩ := h.ex
  exact ⟨c, cs, a, r, s _ _ h1, s _ _ h2, h3⟩
theorem Pen.mono {H : Hp} {p : Addr} {n m : Nat} (h : Pen H p n) (l : n ≤ m) : Pen H p m := by
  obtain ⟨c, cs, a, r, h1, h2, h3, h4, h5, h6, h7⟩ := h.ex
  exact ⟨c, cs, a, r, h1, h2, h3, h4, h5, by omega, h7⟩
theorem Pen.ls {H : Hp} {p : Addr} {n : Nat} (h : Pen H p n) : ∃ xs, H p = some (.lst xs) := by
  obtain ⟨c, cs, a, r, h1, _⟩ := h.ex
  exact ⟨_, h1⟩
/-! ### the promises -/
def spSpread : Sp := fun vs H Q _ => ∃ (c a : Int), vs = [.int c, .int a] ∧ 0 ≤ a ∧ a < 1048576 ∧ ∀ H' r, Same H H' → 0 ≤ r → Q (.int r) H'
def spOpen (K : PySem.W.Frag) : Sp := fun vs H Q _ => ∃ (a : Addr) (ns : List Int), vs = [.ref a] ∧ SqL K H a (ns.map V.int) ∧ ns.length ≤ 63 ∧ ∀ H' p, Same H H' → H p = none → Pen H' p 0 → Q (.ref p) H'
def spTake : Sp := fun vs H Q _ => ∃ (p : Addr) (many : Int) (n : Nat), vs = [.ref p, .int many] ∧ Pen H p n ∧ n < 1048000 ∧ 0 < many ∧ many.natAbs.log2 < 9000 ∧ ∀ H' k, But p H H' → Pen H' p (n + 1) → 0 ≤ k → k < many → Q (.int k) H'
def spPick (K : PySem.W.Frag) : Sp := fun vs H Q _ => ∃ (p s : Addr) (xs : List V) (n : Nat), vs = [.ref p, .ref s] ∧ Pen H p n ∧ n < 1048000 ∧ SqL K H s xs ∧ s ≠ p ∧ 0 < xs.length ∧ xs.length ≤ 1000 ∧ ∀ (H' : Hp) (k : Nat) (v : V), But p H H' → Pen H' p (n + 1) → xs[(k : Nat)]? = some (v : V) → Q v H'
def primesV : List V := ([.int 2147483629, .int 2147483587, .int 2147483579, .int 2147483563, .int 2147483549, .int 2147483543, .int 2147483497, .int 2147483489] : List V) ++ [.int 2147483477, .int 2147483423, .int 2147483399, .int 2147483353, .int 2147483323]
theorem prime_at {k : Int} (h0 : 0 ≤ k) (h1 : k < 13) : ∃ m : Int, atI primesV k = some (.int m) ∧ 0 < m ∧ m < 2147483648 := by
  have h : k = 0 ∨ k = 1 ∨ k = 2 ∨ k = 3 ∨ k = 4 ∨ k = 5 ∨ k = 6 ∨ k = 7 ∨ k = 8 ∨ k = 9 ∨ k = 10 ∨ k = 11 ∨ k = 12 := by omega
  rcases h with rfl | rfl | rfl | rfl | rfl | rfl | rfl | rfl | rfl | rfl | rfl | rfl | rfl <;> exact ⟨_, rfl, by decide, by decide⟩
theorem ixN_of {n : Nat} {i : Int} (h0 : 0 ≤ i) (h1 : i < (n : Int)) : ixN n i = some i.toNat := by
  unfold ixN
  rw [if_pos h0, if_pos h1]
theorem atI_int {cs : List Int} {i : Int} (h0 : 0 ≤ i) (h1 : i < (cs.length : Int)) : ∃ z : Int, atI (cs.map V.int) i = some (.int z) := by
  have h2 : i.toNat < cs.length := by omega
  refine ⟨cs[i.toNat], ?_⟩
  unfold atI
  rw [List.length_map, ixN_of h0 h1]
  show (cs.map V.int)[i.toNat]? = _
  rw [List.getElem?_map, List.getElem?_eq_getElem h2]
  rfl
theorem cut_ints (ns : List Int) (lo hi : Option Int) : cutV (ns.map V.int) lo hi = ((ns.drop (HT.sIx ns.length 0 lo)).take (HT.sIx ns.length ns.length hi - HT.sIx ns.length 0 lo)).map V.int := by
  unfold cutV
  rw [List.length_map, List.map_take, List.map_drop]
theorem cut_len (ns : List Int) (lo hi : Option Int) : ((ns.drop (HT.sIx ns.length 0 lo)).take (HT.sIx ns.length ns.length hi - HT.sIx ns.length 0 lo)).length = min (HT.sIx ns.length ns.length hi - HT.sIx ns.length 0 lo) (ns.length - HT.sIx ns.length 0 lo) := by
  rw [List.length_take, List.length_drop]
theorem int_of {ds : List Int} {i : Nat} {y : V} (h : (ds.map V.int)[i]? = some y) : i < ds.length ∧ ∃ d : Int, y = .int d := by
  rw [List.getElem?_map] at h
  cases e : ds[i]? with
  | none =>
    rw [e] at h
    cases h
  | some d =>
    rw [e] at h
    exact ⟨(List.getElem?_eq_some_iff.mp e).1, d, (Option.some.inj h).symm⟩
theorem mul_bd {x y m : Int} (h0 : 0 ≤ x) (h1 : x ≤ m) (h2 : 0 ≤ y) : 0 ≤ x * y ∧ x * y ≤ m * y := ⟨Int.mul_nonneg h0 h2, Int.mul_le_mul_of_nonneg_right h1 h2⟩
/-- what the top has left of the pen's defs and the built-ins that they call -/
structure PenTxt (K : PySem.W.Frag) (mg : Str → Option Value) (f1 f2 f3 f4 : Addr) (d1 d2 d3 d4 : FuncData) : Prop where
  int : mg "int" = none
  list : mg "list" = none
  len : mg "len" = none
  enumerate : mg "enumerate" = none
  FSpread : Fun K "_law_spread" "_law_spread" sSpread f1 d1
  bSpread : Binds K d1 ["cell", "at"] []
  gSpread : mg "_law_spread" = some (.ref f1)
  FOpen : Fun K "_law_open" "_law_open" sOpen f2 d2
  bOpen : Binds K d2 ["script"] []
  gOpen : mg "_law_open" = some (.ref f2)
  FTake : Fun K "_law_take" "_law_take" sTake f3 d3
  bTake : Binds K d3 ["pen", "many"] []
  gTake : mg "_law_take" = some (.ref f3)
  FPick : Fun K "_law_x_pick" "_law_x_pick" sPick f4 d4
  bPick : Binds K d4 ["pen", "some"] []
  gPick : mg "_law_x_pick" = some (.ref f4)
section
variable {P : Program} {w : World} {K : PySem.W.Frag} {mg : Str → Option Value} {base : Heap} {f1 f2 f3 f4 : Addr} {d1 d2 d3 d4 : FuncData}
theorem ok_spread (T : PenTxt K mg f1 f2 f3 f4 d1 d2 d3 d4) {k : Nat} : FnOk P w K mg base CX0 (k + 1) f1 d1 ["cell", "at"] spSpread := by
  have F := T.FSpread
  refine F.ok scSpread (fun vs H Q E h => ?_) (fun cdv A outer s H vs Q E hr h => ?_)
  · obtain ⟨c, a, rfl, _⟩ := h
    rfl
  · obtain ⟨c, a, rfl, a0, a1, q⟩ := h
    refine ⟨_, (pss_cons (ps_if (pt_cmpR op_ge (pv 0) (pe_op op_pow pe_int pe_int) (nomark _)) (pss_one (ps_ret (pv 0))) pss_nil)
 (pss_cons (ps_set (i := 2) scSpread.nd rfl (.inl rfl) (pe_lst (pa_cons pe_int (pa_cons pe_int (pa_cons pe_int (pa_cons pe_int (pa_cons pe_int (pa_cons pe_int (pa_cons pe_int (pa_cons pe_int pa_nil))))))))))
 (Evl.pss_cut (ps_set (i := 2) scSpread.nd rfl (.inl rfl) (pe_op op_cat (pv 2) (pe_lst (pa_cons pe_int (pa_cons pe_int (pa_cons pe_int (pa_cons pe_int (pa_cons pe_int pa_nil))))))))
 (Evl.pss_cut (ps_set (i := 3) scSpread.nd rfl (.inl rfl) (pe_op op_mul (pe_op op_mod (pe_callTy call_int1 (by rfl) T.int (by decide +kernel) (pa_cons (pv 0) pa_nil)) pe_int) (pe_op op_add (pe_op op_mul pe_int (pv 1)) pe_int)))
 (Evl.pss_cut (ps_set (i := 3) scSpread.nd rfl (.inl rfl) (pe_op op_mod (pe_callTy call_int1 (by rfl) T.int (by decide +kernel) (pa_cons (pe_op op_pow (pe_op op_add (pe_op op_add (pv 3) (pe_op op_mul (pv 1) pe_int)) pe_int) pe_int) pa_nil)) (pe_ix ix_list (pv 2) (pe_op op_mod (pe_callTy call_int1 (by rfl) T.int (by decide +kernel) (pa_cons (pv 1) pa_nil)) pe_int) (fun _ _ => rfl))))
 (Evl.pss_cut (ps_set (i := 4) scSpread.nd rfl (.inl rfl) (pe_op op_mod (pe_callTy call_int1 (by rfl) T.int (by decide +kernel) (pa_cons (pe_op op_pow (pe_op op_add (pe_op op_add (pe_op op_mul (pv 3) (pe_op op_add (pv 1) pe_int)) (pe_op op_mod (pe_callTy call_int1 (by rfl) T.int (by decide +kernel) (pa_cons (pv 0) pa_nil)) pe_int)) pe_int) pe_int) pa_nil)) (pe_ix ix_list (pv 2) (pe_op op_mod (pe_callTy call_int1 (by rfl) T.int (by decide +kernel) (pa_cons (pe_op op_add (pv 1) pe_int) pa_nil)) pe_int) (fun _ _ => rfl))))
 (Evl.pss_cut (ps_set (i := 5) scSpread.nd rfl (.inl rfl) (pe_op op_mod (pe_callTy call_int1 (by rfl) T.int (by decide +kernel) (pa_cons (pe_op op_pow (pe_op op_add (pe_op op_add (pv 4) (pe_op op_mod (pe_callTy call_int1 (by rfl) T.int (by decide +kernel) (pa_cons (pv 3) pa_nil)) pe_int)) (pv 1)) pe_int) pa_nil)) (pe_ix ix_list (pv 2) (pe_op op_mod (pe_callTy call_int1 (by rfl) T.int (by decide +kernel) (pa_cons (pe_op op_add (pv 1) pe_int) pa_nil)) pe_int) (fun _ _ => rfl))))
 (pss_one (ps_ret (pe_op op_add (pe_op op_mul (pe_op op_add (pe_op op_mul (pv 3) pe_int) (pv 4)) pe_int) (pv 5))))))))))), ?_⟩
    refine ⟨.int c, rfl, 10, 18, rfl, rfl, ⟨by decide, by decide, by decide⟩, c, _, rfl, rfl, _, rfl, ite2 (fun e => ?_) (fun e => ?_)⟩
    · have e' := of_decide_eq_true e
      exact ⟨_, rfl, q H c (Same.refl H) (Int.le_trans (by decide) e')⟩
    · refine ⟨(by show 8 ≤ sizeLine; decide), fun p hp => ?_⟩
      refine ⟨fun σ H' => ∃ l, σ = [some (.int c), some (.int a), some (.ref l), none, none, none] ∧ Same H H' ∧ SqL K H' l primesV, ?_, ?_⟩
      · refine ⟨_, rfl, (by show 5 ≤ sizeLine; decide), fun p2 hp2 => ?_⟩
        have n12 : p ≠ p2 := ne_of_none upd_same hp2
        exact ⟨p, p2, _, _, rfl, rfl, (by rw [upd_ne n12]; exact upd_same), upd_same, (by show 13 ≤ sizeLine; decide), fun l hl => ⟨l, rfl, ((same_upd hp).trans (same_upd hp2)).trans (same_upd hl), SqL.of upd_same⟩⟩
      rintro σ H3 ⟨l, rfl, s3, hS⟩
      -- one
      refine ⟨fun σ H' => ∃ one : Int, σ = [some (.int c), some (.int a), some (.ref l), some (.int one), none, none] ∧ H' = H3 ∧ 0 ≤ one ∧ one ≤ 1000000006 * (2 * a + 69069), ?_, ?_⟩
      · have c1 := Int.emod_nonneg c (show (1000000007 : Int) ≠ 0 by decide)
        have c2 := Int.emod_lt_of_pos c (show (0 : Int) < 1000000007 by decide)
        obtain ⟨o1, o2⟩ := mul_bd c1 (show c % 1000000007 ≤ 1000000006 by omega) (show 0 ≤ 2 * a + 69069 by omega)
        exact ⟨_, rfl, .inl ⟨_, rfl, _, _, rfl, rfl, (by show (0 : Int) < 1000000007; decide), _, rfl, _, _, rfl, rfl, .inl ⟨by decide, by decide⟩, _, _, rfl, rfl, _, _, rfl, rfl, .inl ⟨(by omega), (by omega)⟩, _, rfl, rfl, o1, o2⟩⟩
      rintro σ H3 ⟨one, rfl, rfl, o1, o2⟩
      refine ⟨fun σ H' => ∃ one : Int, σ = [some (.int c), some (.int a), some (.ref l), some (.int one), none, none] ∧ H' = H3 ∧ 0 ≤ one ∧ one < 2147483648, ?_, ?_⟩
      · obtain ⟨m, hm, m0, m1⟩ := prime_at (Int.emod_nonneg a (show (13 : Int) ≠ 0 by decide)) (Int.emod_lt_of_pos a (show (0 : Int) < 13 by decide))
        have u1 := Int.emod_nonneg ((one + a * 40503 + 977) ^ (3 : Int).toNat) (show m ≠ 0 by omega)
        have u2 := Int.emod_lt_of_pos ((one + a * 40503 + 977) ^ (3 : Int).toNat) m0
        refine ⟨_, rfl, _, rfl, _, _, rfl, rfl, .inl ⟨(by omega), (by omega)⟩, _, _, rfl, rfl, _, _, rfl, rfl, _, _, rfl, rfl, ⟨by decide, by decide, (by omega)⟩, .inl ⟨_, rfl, ?_⟩⟩
        exact ⟨_, rfl, _, rfl, .inl ⟨_, rfl, _, _, rfl, rfl, (by show (0 : Int) < 13; decide), l, _, _, _, rfl, rfl, hS, hm, _, _, rfl, rfl, m0, _, rfl, rfl, u1, Int.lt_trans u2 m1⟩⟩
      rintro σ H3 ⟨one, rfl, rfl, p1, p2⟩
      -- two
      refine ⟨fun σ H' => ∃ two : Int, σ = [some (.int c), some (.int a), some (.ref l), some (.int one), some (.int two), none] ∧ H' = H3 ∧ 0 ≤ two ∧ two < 2147483648, ?_, ?_⟩
      · have d1 := Int.emod_nonneg c (show (65537 : Int) ≠ 0 by decide)
        have d2 := Int.emod_lt_of_pos c (show (0 : Int) < 65537 by decide)
        obtain ⟨o1, o2⟩ := mul_bd p1 (show one ≤ 2147483647 by omega) (show 0 ≤ a + 3 by omega)
        obtain ⟨m, hm, m0, m1⟩ := prime_at (Int.emod_nonneg (a + 5) (show (13 : Int) ≠ 0 by decide)) (Int.emod_lt_of_pos (a + 5) (show (0 : Int) < 13 by decide))
        have u1 := Int.emod_nonneg ((one * (a + 3) + c % 65537 + 5) ^ (5 : Int).toNat) (show m ≠ 0 by omega)
        have u2 := Int.emod_lt_of_pos ((one * (a + 3) + c % 65537 + 5) ^ (5 : Int).toNat) m0
        refine ⟨_, rfl, _, rfl, _, _, rfl, rfl, _, _, rfl, rfl, .inl ⟨(by omega), (by omega)⟩, _, rfl, .inl ⟨_, rfl, _, _, rfl, rfl, (by show (0 : Int) < 65537; decide), _, _, rfl, rfl, _, _, rfl, rfl, _, _, rfl, rfl, ⟨by decide, by decide, (by omega)⟩, .inl ⟨_, rfl, ?_⟩⟩⟩
        exact ⟨_, rfl, _, rfl, _, _, rfl, rfl, .inl ⟨_, rfl, _, _, rfl, rfl, (by show (0 : Int) < 13; decide), l, _, _, _, rfl, rfl, hS, hm, _, _, rfl, rfl, m0, _, rfl, rfl, u1, Int.lt_trans u2 m1⟩⟩
      rintro σ H3 ⟨two, rfl, rfl, q1, q2⟩
      -- three
      refine ⟨fun σ H' => ∃ three : Int, σ = [some (.int c), some (.int a), some (.ref l), some (.int one), some (.int two), some (.int three)] ∧ H' = H3 ∧ 0 ≤ three, ?_, ?_⟩
      · have e1 := Int.emod_nonneg one (show (1009 : Int) ≠ 0 by decide)
        have e2 := Int.emod_lt_of_pos one (show (0 : Int) < 1009 by decide)
        obtain ⟨m, hm, m0, m1⟩ := prime_at (Int.emod_nonneg (a + 7) (show (13 : Int) ≠ 0 by decide)) (Int.emod_lt_of_pos (a + 7) (show (0 : Int) < 13 by decide))
        have u1 := Int.emod_nonneg ((two + one % 1009 + a) ^ (3 : Int).toNat) (show m ≠ 0 by omega)
        refine ⟨_, rfl, _, rfl, .inl ⟨_, rfl, _, _, rfl, rfl, (by show (0 : Int) < 1009; decide), _, _, rfl, rfl, _, rfl, _, _, rfl, rfl, _, _, rfl, rfl, ⟨by decide, by decide, (by omega)⟩, .inl ⟨_, rfl, ?_⟩⟩⟩
        exact ⟨_, rfl, _, rfl, _, _, rfl, rfl, .inl ⟨_, rfl, _, _, rfl, rfl, (by show (0 : Int) < 13; decide), l, _, _, _, rfl, rfl, hS, hm, _, _, rfl, rfl, m0, _, rfl, rfl, u1⟩⟩
      rintro σ H3 ⟨three, rfl, rfl, r1⟩
      exact ⟨_, rfl, _, _, rfl, rfl, .inr ⟨by decide, by decide⟩, _, rfl, _, _, rfl, rfl, _, _, rfl, rfl, .inr ⟨by decide, by decide⟩, _, rfl, _, _, rfl, rfl, q H3 _ s3 (by omega)⟩
theorem ok_open (T : PenTxt K mg f1 f2 f3 f4 d1 d2 d3 d4) {k : Nat} : FnOk P w K mg base CX0 (k + 1) f2 d2 ["script"] (spOpen K) := by
  have F := T.FOpen
  refine F.ok scOpen (fun vs H Q E h => ?_) (fun cdv A outer s H vs Q E hr h => ?_)
  · obtain ⟨c, a, rfl, _⟩ := h
    rfl
  · obtain ⟨a, ns, rfl, hS, hl, q⟩ := h
    refine ⟨_, (Evl.pss_cut (ps_set (i := 1) scOpen.nd rfl (.inl rfl) (pe_callTy call_list_of (by rfl) T.list (by decide +kernel) (pa_cons (pe_slice sl_list (pv 0) po_none (po_some pe_int)) pa_nil)))
 (pss_cons (ps_for PassesOwn.never rfl (pi_enum (by rfl) T.enumerate (pa_cons (pe_slice sl_list (pv 0) (po_some pe_int) (po_some pe_int)) pa_nil)) (pg_tup rfl (pgs_cons (pg_name (i := 2) scOpen.nd rfl (.inl rfl)) (pgs_cons (pg_name (i := 3) scOpen.nd rfl (.inl rfl)) pgs_nil)))
 (pss_one (ps_asg (pe_op op_add (pe_ix ix_list (pv 1) (pe_op op_mod (pe_callTy call_int1 (by rfl) T.int (by decide +kernel) (pa_cons (pv 2) pa_nil)) pe_int) (fun _ _ => rfl)) (pv 3)) (pg_sub (pv 1) (pe_op op_mod (pe_callTy call_int1 (by rfl) T.int (by decide +kernel) (pa_cons (pv 2) pa_nil)) pe_int) set_list))))
 (pss_one (ps_ret (pe_lst (pa_cons (pv 1) (pa_cons pe_int (pa_cons pe_int pa_nil)))))))), ?_⟩
    -- cells
    refine ⟨fun σ H' => ∃ (c : Addr) (cs : List Int), σ = [some (.ref a), some (.ref c), none, none] ∧ Same H H' ∧ H c = none ∧ H' c = some (.lst (cs.map V.int)) ∧ cs.length = min 12 ns.length, ?_, ?_⟩
    · refine ⟨.ref a, rfl, 12, rfl, a, ns.map V.int, rfl, hS, fun c nc => ⟨c, _, rfl, .inl (SqL.of upd_same), fun l hl => ⟨l, (ns.drop (HT.sIx ns.length 0 none)).take (HT.sIx ns.length ns.length (some 12) - HT.sIx ns.length 0 none), rfl, (same_upd nc).trans (same_upd hl), (same_upd nc).free hl, ?_, ?_⟩⟩⟩
      · rw [upd_same, cut_ints]
      · rw [cut_len]
        rw [HT.sIx_none, show HT.sIx ns.length ns.length (some 12) = min 12 ns.length from HT.sIx_nat ns.length ns.length 12]
        omega
    rintro σ H1 ⟨c, cs, rfl, s1, nc, hC, lC⟩
    have hS1 : SqL K H1 a (ns.map V.int) := s1.seq hS
    refine ⟨.ref a, rfl, 12, rfl, 63, rfl, a, ns.map V.int, rfl, hS1, fun d nd => ⟨d, _, rfl, SqL.of upd_same, ?_⟩⟩
    have s2 : Same H1 (upd H1 d (.lst (cutV (ns.map V.int) (some 12) (some 63)))) := same_upd nd
    rw [cut_ints] at s2 ⊢
    have l2 := cut_len ns (some 12) (some 63)
    rw [show HT.sIx ns.length 0 (some 12) = min 12 ns.length from HT.sIx_nat ns.length 0 12] at l2 s2 ⊢
    have hd : (upd H1 d (.lst ((List.take (HT.sIx ns.length ns.length (some 63) - min 12 ns.length) (List.drop (min 12 ns.length) ns)).map V.int))) d = some (.lst ((List.take (HT.sIx ns.length ns.length (some 63) - min 12 ns.length) (List.drop (min 12 ns.length) ns)).map V.int)) := upd_same
    generalize (List.take (HT.sIx ns.length ns.length (some 63) - min 12 ns.length) (List.drop (min 12 ns.length) ns)) = ds at s2 l2 hd ⊢
    have ncd : c ≠ d := ne_of_none hC nd
    refine for_it (walk_enum (K := K) (a := d) (xs := ds.map V.int)) (fun i σ H' => ∃ (v2 v3 : Option V) (cs : List Int), σ = [some (.ref a), some (.ref c), v2, v3] ∧ Same H H' ∧ H' c = some (.lst (cs.map V.int)) ∧ cs.length = min 12 ns.length ∧ H' d = some (.lst (ds.map V.int)))
      ⟨none, none, cs, rfl, s1.trans s2, s2 _ _ hC, lC, hd⟩ ?_ ?_ ?_
    · rintro i σ H' _ ⟨_, _, _, _, _, _, _, h⟩
      exact SqL.of h
    · rintro i x σ H' H'' hi ⟨v2, v3, cs, rfl, s3, hC, lC, hD⟩ ⟨T, x1, y, rfl, nT, rfl, ex, ey⟩
      obtain rfl : V.int (i : Nat) = x1 := Option.some.inj ex
      obtain ⟨hi2, z, rfl⟩ := int_of ey
      have c12 : cs.length = 12 := by omega
      have sT : Same H' (upd H' T (.tup [.int (i : Nat), .int z])) := same_upd nT
      have hC' := sT _ _ hC
      have m0 := Int.emod_nonneg ((i : Nat) : Int) (show (12 : Int) ≠ 0 by decide)
      have m1 := Int.emod_lt_of_pos ((i : Nat) : Int) (show (0 : Int) < 12 by decide)
      obtain ⟨u, hu⟩ := atI_int (cs := cs) m0 (by omega)
      refine ⟨T, _, rfl, SqT.of upd_same, rfl, _, _, rfl, _, _, rfl, rfl, ?_⟩
      refine ⟨_, rfl, _, rfl, .inl ⟨_, rfl, _, _, rfl, rfl, (by show (0 : Int) < 12; decide), c, _, _, _, rfl, rfl, SqL.of hC', hu, _, rfl, _, _, rfl, rfl, _, rfl, _, rfl, .inl ⟨_, rfl, _, _, rfl, rfl, (by show (0 : Int) < 12; decide), c, _, _, _, rfl, rfl, hC', ixN_of m0 (by rw [List.length_map]; omega), ?_⟩⟩⟩
      refine ⟨_, _, cs.set ((i : Int) % 12).toNat (u + z), rfl, fun b o e => ?_, ?_, by rw [List.length_set]; exact lC, ?_⟩
      · have nb : b ≠ c := fun q => by
          rw [q, nc] at e
          cases e
        rw [upd_ne nb]
        exact sT _ _ (s3 _ _ e)
      · rw [upd_same, List.map_set]
      · rw [upd_ne ncd.symm]
        exact sT _ _ hD
    · rintro σ H' ⟨v2, v3, cs, rfl, s3, hC, lC, hD⟩
      refine ⟨_, rfl, (by show 3 ≤ sizeLine; decide), fun p hp => q _ p (s3.trans (same_upd hp)) (s3.free hp) ⟨c, cs, 0, 0, upd_same, ?_, ne_of_none hC hp, by omega, by decide, by decide, by decide⟩⟩
      exact same_upd hp _ _ hC
theorem ok_take (T : PenTxt K mg f1 f2 f3 f4 d1 d2 d3 d4) {k : Nat} : FnOk P w K mg base CX0 (k + 2) f3 d3 ["pen", "many"] spTake := by
  have F := T.FTake
  have GS : FnOk P w K mg base CX0 (k + 1) f1 d1 ["cell", "at"] spSpread := ok_spread T
  refine F.ok scTake (fun vs H Q E h => ?_) (fun cdv A outer s H vs Q E hr h => ?_)
  · obtain ⟨c, a, n, rfl, _⟩ := h
    rfl
  · obtain ⟨p, many, n, rfl, hP, hn, m0, m1, q⟩ := h
    refine ⟨_, (Evl.pss_cut (ps_if (pt_cmpR op_lt (pe_ix ix_list (pv 0) pe_int (fun _ _ => rfl)) (pv 1) (nomark _)) (pss_cons (ps_set (i := 2) scTake.nd rfl (.inl rfl) (pe_ix ix_list (pv 0) pe_int (fun _ _ => rfl)))
 (pss_cons (ps_set (i := 3) scTake.nd rfl (.inl rfl) pe_int)
 (Evl.pss_cut (ps_if (pt_cmpR op_lt (pv 2) (pe_callB call_len_seq (by rfl) T.len PySem.boot_len (pa_cons (pe_ix ix_list (pv 0) pe_int (fun _ _ => rfl)) pa_nil)) (nomark _)) (pss_one (ps_set (i := 3) scTake.nd rfl (.inl rfl) (pe_ix ix_list (pe_ix ix_list (pv 0) pe_int (fun _ _ => rfl)) (pv 2) (fun _ _ => rfl)))) (pss_one (ps_if (pt_cmpR op_gt (pe_callB call_len_seq (by rfl) T.len PySem.boot_len (pa_cons (pe_ix ix_list (pv 0) pe_int (fun _ _ => rfl)) pa_nil)) pe_int (nomark _)) (pss_one (ps_set (i := 3) scTake.nd rfl (.inl rfl) (pe_op op_mod (pe_callTy call_int1 (by rfl) T.int (by decide +kernel) (pa_cons (pe_ix ix_list (pe_ix ix_list (pv 0) pe_int (fun _ _ => rfl)) (pe_op op_mod (pe_callTy call_int1 (by rfl) T.int (by decide +kernel) (pa_cons (pe_op op_add (pe_op op_mul (pv 2) pe_int) pe_int) pa_nil)) (pe_callB call_len_seq (by rfl) T.len PySem.boot_len (pa_cons (pe_ix ix_list (pv 0) pe_int (fun _ _ => rfl)) pa_nil))) (fun _ _ => rfl)) pa_nil)) (pe_op op_add (pe_op op_pow pe_int pe_int) (pv 2))))) pss_nil)))
 (pss_cons (ps_asg (pe_op op_add (pv 2) pe_int) (pg_sub (pv 0) pe_int set_list))
 (pss_one (ps_asg (pe_call GS hr (by rfl) T.gSpread T.FSpread.kp T.bSpread .nil pass0 (pa_cons (pv 3) (pa_cons (pv 2) pa_nil))) (pg_sub (pv 0) pe_int set_list))))))) pss_nil)
 (pss_cons (ps_set (i := 4) scTake.nd rfl (.inl rfl) (pe_op op_mod (pe_callTy call_int1 (by rfl) T.int (by decide +kernel) (pa_cons (pe_ix ix_list (pv 0) pe_int (fun _ _ => rfl)) pa_nil)) (pv 1)))
 (pss_cons (ps_asg (pe_op op_fdivW (pe_ix ix_list (pv 0) pe_int (fun _ _ => rfl)) (pv 1)) (pg_sub (pv 0) pe_int set_list))
 (pss_one (ps_ret (pv 4)))))), ?_⟩
    obtain ⟨c, cs, a, r, hp, hc, ncp, lc, a0, a1, r0⟩ := hP.ex
    refine ⟨fun σ H' => ∃ v2 v3, σ = [some (.ref p), some (.int many), v2, v3, none] ∧ But p H H' ∧ Pen H' p (n + 1), ?_, ?_⟩
    · refine ⟨_, rfl, p, _, 2, .int r, rfl, rfl, SqL.of hp, atI_nat (j := 2) rfl, _, rfl, _, _, rfl, rfl, _, rfl, ite2 (fun _ => ?_) (fun _ => ?_)⟩
      · refine ⟨_, rfl, p, _, 1, .int a, rfl, rfl, SqL.of hp, atI_nat (j := 1) rfl, ?_⟩
        refine ⟨fun σ H' => ∃ z : Int, σ = [some (.ref p), some (.int many), some (.int a), some (.int z), none] ∧ H' = H, ?_, ?_⟩
        · refine ⟨_, rfl, _, rfl, p, _, 0, .ref c, rfl, rfl, SqL.of hp, atI_nat (j := 0) rfl, c, _, rfl, .inl (SqL.of hc), _, _, rfl, rfl, _, rfl, ite2 (fun e => ?_) (fun e => ?_)⟩
          · have e' := of_decide_eq_true e
            rw [List.length_map] at e'
            obtain ⟨z, hz⟩ := atI_int (cs := cs) a0 e'
            exact ⟨_, rfl, p, _, 0, .ref c, rfl, rfl, SqL.of hp, atI_nat (j := 0) rfl, _, rfl, c, _, _, _, rfl, rfl, SqL.of hc, hz, z, rfl, rfl⟩
          · refine ⟨_, rfl, p, _, 0, .ref c, rfl, rfl, SqL.of hp, atI_nat (j := 0) rfl, c, _, rfl, .inl (SqL.of hc), _, _, rfl, rfl, _, rfl, ite2 (fun e => ?_) (fun e => ?_)⟩
            · have e' := of_decide_eq_true e
              rw [List.length_map] at e'
              have k0 := Int.emod_nonneg (a * 5 + 3) (show (cs.length : Int) ≠ 0 by omega)
              have k1 := Int.emod_lt_of_pos (a * 5 + 3) e'
              obtain ⟨z, hz⟩ := atI_int (cs := cs) k0 k1
              have el : (List.map V.int cs).length = cs.length := List.length_map ..
              refine ⟨_, rfl, p, _, 0, .ref c, rfl, rfl, SqL.of hp, atI_nat (j := 0) rfl, _, rfl, _, _, rfl, rfl, .inr ⟨by decide, by decide⟩, _, _, rfl, rfl, .inl ⟨_, rfl, _, rfl, p, _, 0, .ref c, rfl, rfl, SqL.of hp, atI_nat (j := 0) rfl, c, _, rfl, .inl (SqL.of hc), _, _, rfl, rfl, (by rw [el]; exact e'), c, _, _, _, rfl, rfl, SqL.of hc, (by rw [el]; exact hz), .inl ⟨_, rfl, _, _, rfl, rfl, ⟨by decide, by decide, by decide⟩, _, rfl, _, _, rfl, rfl, _, _, rfl, rfl, ?_, _, rfl, rfl⟩⟩⟩
              have : (10 : Int) ^ (17 : Int).toNat = 100000000000000000 := by decide
              show 0 < (10 : Int) ^ (17 : Int).toNat + a
              omega
            · exact ⟨0, rfl, rfl⟩
        rintro σ H ⟨z, rfl, rfl⟩
        refine ⟨_, rfl, _, _, rfl, rfl, _, rfl, p, _, 1, 1, rfl, rfl, hp, rfl, ?_⟩
        refine ⟨_, rfl, _, rfl, z, a, rfl, a0, by omega, fun H2 r2 s2 r20 => ?_⟩
        have hp2 := s2 _ _ upd_same
        refine ⟨_, rfl, p, _, 2, 2, rfl, rfl, hp2, rfl, _, _, rfl, ?_, ⟨c, cs, a + 1, r2, upd_same, ?_, ncp, lc, by omega, by omega, r20⟩⟩
        · exact (but_upd.trans (But.of s2)).trans but_upd
        · rw [upd_ne ncp]
          exact s2 _ _ (by rw [upd_ne ncp]; exact hc)
      · exact ⟨_, _, rfl, fun _ _ _ e => e, hP.mono (Nat.le_succ n)⟩
    rintro σ H1 ⟨v2, v3, rfl, b1, hP1⟩
    obtain ⟨c, cs, a, r, hp, hc, ncp, lc, a0, a1, r0⟩ := hP1.ex
    refine ⟨_, rfl, p, _, 2, .int r, rfl, rfl, SqL.of hp, atI_nat (j := 2) rfl, .inl ⟨_, rfl, _, rfl, _, _, rfl, rfl, m0, ?_⟩⟩
    refine ⟨_, rfl, p, _, 2, .int r, rfl, rfl, SqL.of hp, atI_nat (j := 2) rfl, _, rfl, _, _, rfl, rfl, ⟨m0, m1⟩, _, rfl, p, _, 2, 2, rfl, rfl, hp, rfl, ?_⟩
    refine ⟨_, rfl, q _ _ (b1.trans but_upd) ⟨c, cs, a, r / many, upd_same, ?_, ncp, lc, a0, a1, Int.ediv_nonneg r0 (Int.le_of_lt m0)⟩ (Int.emod_nonneg _ (by omega)) (Int.emod_lt_of_pos _ m0)⟩
    rw [upd_ne ncp]
    exact hc
theorem ok_pick (T : PenTxt K mg f1 f2 f3 f4 d1 d2 d3 d4) {k : Nat} : FnOk P w K mg base CX0 (k + 3) f4 d4 ["pen", "some"] (spPick K) := by
  have F := T.FPick
  have GT : FnOk P w K mg base CX0 (k + 2) f3 d3 ["pen", "many"] spTake := ok_take T
  refine F.ok scPick (fun vs H Q E h => ?_) (fun cdv A outer s H vs Q E hr h => ?_)
  · obtain ⟨c, a, xs, n, rfl, _⟩ := h
    rfl
  · obtain ⟨p, l, xs, n, rfl, hP, hn, hS, nlp, l0, l1, q⟩ := h
    refine ⟨_, (pss_one (ps_ret (pe_ix ix_list (pv 1) (pe_call GT hr (by rfl) T.gTake T.FTake.kp T.bTake .nil pass0 (pa_cons (pv 0) (pa_cons (pe_callB call_len_seq (by rfl) T.len PySem.boot_len (pa_cons (pv 1) pa_nil)) pa_nil))) (fun _ _ => rfl)))), ?_⟩
    refine ⟨_, rfl, _, rfl, _, rfl, l, xs, rfl, .inl hS, p, _, n, rfl, hP, hn, by omega, ?_, fun H1 k b1 hP1 k0 k1 => ?_⟩
    · have h2 : ((xs.length : Int)).natAbs ≤ 1000 := by omega
      have h3 : ((xs.length : Int)).natAbs.log2 ≤ ((xs.length : Int)).natAbs := Nat.log2_le_self _
      omega
    · have hk : k.toNat < xs.length := by omega
      have e : xs[k.toNat]? = some xs[k.toNat] := List.getElem?_eq_getElem hk
      have hS1 : SqL K H1 l xs := by
        rcases hS with (h | ⟨o, h⟩) | h
        · exact .inl (.inl (b1 _ _ nlp h))
        · exact .inl (.inr ⟨o, b1 _ _ nlp h⟩)
        · exact .inr h
      exact ⟨l, xs, k, _, rfl, rfl, hS1, at_of (by omega) e, q H1 k.toNat _ b1 hP1 e⟩
end
end My
/-! ### the pen with its cells at c -/
namespace My
open PySem PySem.Spec PyProof.Rows L2
structure PenC (H : Hp) (p c : Addr) (n : Nat) : Prop where
  ex : ∃ (cs : List Int) (a r : Int), H p = some (.lst [.ref c, .int a, .int r]) ∧ H c = some (.lst (cs.map V.int)) ∧ c ≠ p ∧ cs.length ≤ 12 ∧ 0 ≤ a ∧ a ≤ (n : Int) ∧ 0 ≤ r
theorem PenC.pen {H : Hp} {p c : Addr} {n : Nat} (h : PenC H p c n) : Pen H p n := by
  obtain ⟨cs, a, r, h1⟩ := h.ex
  exact ⟨c, cs, a, r, h1⟩
theorem Pen.at {H : Hp} {p : Addr} {n : Nat} (h : Pen H p n) : ∃ c, PenC H p c n := by
  obtain ⟨c, cs, a, r, h1⟩ := h.ex
  exact ⟨c, cs, a, r, h1⟩
theorem PenC.mono {H : Hp} {p c : Addr} {n m : Nat} (h : PenC H p c n) (l : n ≤ m) : PenC H p c m := by
  obtain ⟨cs, a, r, h1, h2, h3, h4, h5, h6, h7⟩ := h.ex
  exact ⟨cs, a, r, h1, h2, h3, h4, h5, by omega, h7⟩
theorem PenC.keep {H H' : Hp} {p c : Addr} {n : Nat} (h : PenC H p c n) (hp : ∀ o, H p = some o → H' p = some o) (hc : ∀ o, H c = some o → H' c = some o) : PenC H' p c n := by
  obtain ⟨cs, a, r, h1, h2, h3⟩ := h.ex
  exact ⟨cs, a, r, hp _ h1, hc _ h2, h3⟩
def spTakeC : Sp := fun vs H Q _ => ∃ (p c : Addr) (many : Int) (n : Nat), vs = [.ref p, .int many] ∧ PenC H p c n ∧ n < 1048000 ∧ 0 < many ∧ many.natAbs.log2 < 9000 ∧ ∀ H' k, But p H H' → PenC H' p c (n + 1) → 0 ≤ k → k < many → Q (.int k) H'
section
variable {P : Program} {w : World} {K : PySem.W.Frag} {mg : Str → Option Value} {base : Heap} {f1 f2 f3 f4 : Addr} {d1 d2 d3 d4 : FuncData}
theorem ok_takeC (T : PenTxt K mg f1 f2 f3 f4 d1 d2 d3 d4) {k : Nat} : FnOk P w K mg base CX0 (k + 2) f3 d3 ["pen", "many"] spTakeC := by
  have F := T.FTake
  have GS : FnOk P w K mg base CX0 (k + 1) f1 d1 ["cell", "at"] spSpread := ok_spread T
  refine F.ok scTake (fun vs H Q E h => ?_) (fun cdv A outer s H vs Q E hr h => ?_)
  · obtain ⟨p, c, many, n, rfl, _⟩ := h
    rfl
  · obtain ⟨p, c, many, n, rfl, hP, hn, m0, m1, q⟩ := h
    refine ⟨_, (Evl.pss_cut (ps_if (pt_cmpR op_lt (pe_ix ix_list (pv 0) pe_int (fun _ _ => rfl)) (pv 1) (nomark _)) (pss_cons (ps_set (i := 2) scTake.nd rfl (.inl rfl) (pe_ix ix_list (pv 0) pe_int (fun _ _ => rfl)))
 (pss_cons (ps_set (i := 3) scTake.nd rfl (.inl rfl) pe_int)
 (Evl.pss_cut (ps_if (pt_cmpR op_lt (pv 2) (pe_callB call_len_seq (by rfl) T.len PySem.boot_len (pa_cons (pe_ix ix_list (pv 0) pe_int (fun _ _ => rfl)) pa_nil)) (nomark _)) (pss_one (ps_set (i := 3) scTake.nd rfl (.inl rfl) (pe_ix ix_list (pe_ix ix_list (pv 0) pe_int (fun _ _ => rfl)) (pv 2) (fun _ _ => rfl)))) (pss_one (ps_if (pt_cmpR op_gt (pe_callB call_len_seq (by rfl) T.len PySem.boot_len (pa_cons (pe_ix ix_list (pv 0) pe_int (fun _ _ => rfl)) pa_nil)) pe_int (nomark _)) (pss_one (ps_set (i := 3) scTake.nd rfl (.inl rfl) (pe_op op_mod (pe_callTy call_int1 (by rfl) T.int (by decide +kernel) (pa_cons (pe_ix ix_list (pe_ix ix_list (pv 0) pe_int (fun _ _ => rfl)) (pe_op op_mod (pe_callTy call_int1 (by rfl) T.int (by decide +kernel) (pa_cons (pe_op op_add (pe_op op_mul (pv 2) pe_int) pe_int) pa_nil)) (pe_callB call_len_seq (by rfl) T.len PySem.boot_len (pa_cons (pe_ix ix_list (pv 0) pe_int (fun _ _ => rfl)) pa_nil))) (fun _ _ => rfl)) pa_nil)) (pe_op op_add (pe_op op_pow pe_int pe_int) (pv 2))))) pss_nil)))
 (pss_cons (ps_asg (pe_op op_add (pv 2) pe_int) (pg_sub (pv 0) pe_int set_list))
 (pss_one (ps_asg (pe_call GS hr (by rfl) T.gSpread T.FSpread.kp T.bSpread .nil pass0 (pa_cons (pv 3) (pa_cons (pv 2) pa_nil))) (pg_sub (pv 0) pe_int set_list))))))) pss_nil)
 (pss_cons (ps_set (i := 4) scTake.nd rfl (.inl rfl) (pe_op op_mod (pe_callTy call_int1 (by rfl) T.int (by decide +kernel) (pa_cons (pe_ix ix_list (pv 0) pe_int (fun _ _ => rfl)) pa_nil)) (pv 1)))
 (pss_cons (ps_asg (pe_op op_fdivW (pe_ix ix_list (pv 0) pe_int (fun _ _ => rfl)) (pv 1)) (pg_sub (pv 0) pe_int set_list))
 (pss_one (ps_ret (pv 4)))))), ?_⟩
    obtain ⟨cs, a, r, hp, hc, ncp, lc, a0, a1, r0⟩ := hP.ex
    refine ⟨fun σ H' => ∃ v2 v3, σ = [some (.ref p), some (.int many), v2, v3, none] ∧ But p H H' ∧ PenC H' p c (n + 1), ?_, ?_⟩
    · refine ⟨_, rfl, p, _, 2, .int r, rfl, rfl, SqL.of hp, atI_nat (j := 2) rfl, _, rfl, _, _, rfl, rfl, _, rfl, ite2 (fun _ => ?_) (fun _ => ?_)⟩
      · refine ⟨_, rfl, p, _, 1, .int a, rfl, rfl, SqL.of hp, atI_nat (j := 1) rfl, ?_⟩
        refine ⟨fun σ H' => ∃ z : Int, σ = [some (.ref p), some (.int many), some (.int a), some (.int z), none] ∧ H' = H, ?_, ?_⟩
        · refine ⟨_, rfl, _, rfl, p, _, 0, .ref c, rfl, rfl, SqL.of hp, atI_nat (j := 0) rfl, c, _, rfl, .inl (SqL.of hc), _, _, rfl, rfl, _, rfl, ite2 (fun e => ?_) (fun e => ?_)⟩
          · have e' := of_decide_eq_true e
            rw [List.length_map] at e'
            obtain ⟨z, hz⟩ := atI_int (cs := cs) a0 e'
            exact ⟨_, rfl, p, _, 0, .ref c, rfl, rfl, SqL.of hp, atI_nat (j := 0) rfl, _, rfl, c, _, _, _, rfl, rfl, SqL.of hc, hz, z, rfl, rfl⟩
          · refine ⟨_, rfl, p, _, 0, .ref c, rfl, rfl, SqL.of hp, atI_nat (j := 0) rfl, c, _, rfl, .inl (SqL.of hc), _, _, rfl, rfl, _, rfl, ite2 (fun e => ?_) (fun e => ?_)⟩
            · have e' := of_decide_eq_true e
              rw [List.length_map] at e'
              have k0 := Int.emod_nonneg (a * 5 + 3) (show (cs.length : Int) ≠ 0 by omega)
              have k1 := Int.emod_lt_of_pos (a * 5 + 3) e'
              obtain ⟨z, hz⟩ := atI_int (cs := cs) k0 k1
              have el : (List.map V.int cs).length = cs.length := List.length_map ..
              refine ⟨_, rfl, p, _, 0, .ref c, rfl, rfl, SqL.of hp, atI_nat (j := 0) rfl, _, rfl, _, _, rfl, rfl, .inr ⟨by decide, by decide⟩, _, _, rfl, rfl, .inl ⟨_, rfl, _, rfl, p, _, 0, .ref c, rfl, rfl, SqL.of hp, atI_nat (j := 0) rfl, c, _, rfl, .inl (SqL.of hc), _, _, rfl, rfl, (by rw [el]; exact e'), c, _, _, _, rfl, rfl, SqL.of hc, (by rw [el]; exact hz), .inl ⟨_, rfl, _, _, rfl, rfl, ⟨by decide, by decide, by decide⟩, _, rfl, _, _, rfl, rfl, _, _, rfl, rfl, ?_, _, rfl, rfl⟩⟩⟩
              have : (10 : Int) ^ (17 : Int).toNat = 100000000000000000 := by decide
              show 0 < (10 : Int) ^ (17 : Int).toNat + a
              omega
            · exact ⟨0, rfl, rfl⟩
        rintro σ H ⟨z, rfl, rfl⟩
        refine ⟨_, rfl, _, _, rfl, rfl, _, rfl, p, _, 1, 1, rfl, rfl, hp, rfl, ?_⟩
        refine ⟨_, rfl, _, rfl, z, a, rfl, a0, by omega, fun H2 r2 s2 r20 => ?_⟩
        have hp2 := s2 _ _ upd_same
        refine ⟨_, rfl, p, _, 2, 2, rfl, rfl, hp2, rfl, _, _, rfl, ?_, ⟨cs, a + 1, r2, upd_same, ?_, ncp, lc, by omega, by omega, r20⟩⟩
        · exact (but_upd.trans (But.of s2)).trans but_upd
        · rw [upd_ne ncp]
          exact s2 _ _ (by rw [upd_ne ncp]; exact hc)
      · exact ⟨_, _, rfl, fun _ _ _ e => e, hP.mono (Nat.le_succ n)⟩
    rintro σ H1 ⟨v2, v3, rfl, b1, hP1⟩
    obtain ⟨cs, a, r, hp, hc, ncp, lc, a0, a1, r0⟩ := hP1.ex
    refine ⟨_, rfl, p, _, 2, .int r, rfl, rfl, SqL.of hp, atI_nat (j := 2) rfl, .inl ⟨_, rfl, _, rfl, _, _, rfl, rfl, m0, ?_⟩⟩
    refine ⟨_, rfl, p, _, 2, .int r, rfl, rfl, SqL.of hp, atI_nat (j := 2) rfl, _, rfl, _, _, rfl, rfl, ⟨m0, m1⟩, _, rfl, p, _, 2, 2, rfl, rfl, hp, rfl, ?_⟩
    refine ⟨_, rfl, q _ _ (b1.trans but_upd) ⟨cs, a, r / many, upd_same, ?_, ncp, lc, a0, a1, Int.ediv_nonneg r0 (Int.le_of_lt m0)⟩ (Int.emod_nonneg _ (by omega)) (Int.emod_lt_of_pos _ m0)⟩
    rw [upd_ne ncp]
    exact hc
end
end My
/-! ### promises of defs that show data: they are called where nothing is being shown -/
namespace My
open PySem PySem.Spec PyProof.Rows L2
/-- a def's promise, at the surroundings A alone -/
def RunAt (P : Program) (w : World) (K : PySem.W.Frag) (mg : Str → Option Value) (base : Heap) (CX : CXT) (f : Addr) (fd : FuncData) (ps : List Str) (sp : Sp) (A : Around) : Prop :=
  ∀ (out : List Env) (st : Shared) (G : Hp) (ar : Args) (uu : List Value) (vv : List V) (R : VK) (W : XK), Env0 P w K mg base A out st G →
    BindsTo st fd ar (ps.zip uu) → Vals vv uu → sp vv G R W → codeAny (model P w) A (.call (.ref f) ar) (CR CX out P w G st R W) st
/-- .. wherever nothing is being shown -/
structure FnG (P : Program) (w : World) (K : PySem.W.Frag) (mg : Str → Option Value) (base : Heap) (CX : CXT) (k : Nat) (f : Addr) (fd : FuncData) (ps : List Str) (sp : Sp) : Prop where
  len : ∀ vs H Q E, sp vs H Q E → vs.length = ps.length
  run : ∀ A : Around, A.guards = some [] → Room k A → RunAt P w K mg base CX f fd ps sp A
section
variable {P : Program} {w : World} {K : PySem.W.Frag} {mg : Str → Option Value} {base : Heap} {CX : CXT}
theorem FnG.of {k : Nat} {f : Addr} {fd : FuncData} {ps : List Str} {sp : Sp} (F : FnOk P w K mg base CX k f fd ps sp) : FnG P w K mg base CX k f fd ps sp :=
  ⟨F.len, fun A _ hr out st G ar uu vv R W e0 hb r h => F.run A out st G ar uu vv R W hr e0 hb r h⟩
theorem Fun.okG {x qual : Str} {st : Stmt} {f : Addr} {fd : FuncData} {N ps : List Str} {k : Nat} {sp : Sp} (F : Fun K x qual st f fd) (S : FnScope N ps (defScope st))
    (len : ∀ vs H Q E, sp vs H Q E → vs.length = ps.length)
    (hbody : ∀ (cdv : Value) (A : Around) (outer : List Env) (s : Shared) (H : Hp) (vs : List V) (Q : VK) (E : XK), A.guards = some [] → Room k (A.deeper (envOfC qual (defScope st) s.heap.objs.size f cdv)) → sp vs H Q E →
      ∃ t, PSs (cxOf CX P w K mg base N qual (defScope st) f cdv A outer s H E) (defBody st) t ∧ t { nx := fun _ H' => Q .non H', rt := Q } (start N vs) H) :
    FnG P w K mg base CX (k + 1) f fd ps sp := by
  obtain ⟨oc, od, kV, doc, pm, an, cdv, ct, osl, hfd, lk, hcode⟩ := F.ex
  subst hfd
  refine ⟨len, fun A hgd room out st' G ar uu vv R W e0 hb rv hs => ?_⟩
  have hlen := len _ _ _ _ hs
  have kin := e0.mod.kin.keeps fun b o e => (e0.bs b o e).1
  have nolim := e0.mod.nolimit.keeps fun b o e => (e0.bs b o e).1
  refine codeAny_call_function room.depth (kin _ _ lk) rfl S.co S.gen rfl (PySem.W.codeRec_of kin hcode) (hb _ _ _ _ ?_)
  refine wpAny_newFunctionEnv_cells S.kind (fun ⟨n, v⟩ hmem => ?kinds) fun env' heq s2 x2 => ?_
  case kinds =>
    cases S.par n (List.of_mem_zip hmem).1 with
    | inl q => exact .inl q
    | inr q => exact .inr ⟨q, PySem.W.cellsFrom_some _ _ _ (.inl q)⟩
  subst heq
  refine ⟨nolim.keeps x2.toInCall.keep, codeAny_func ?_⟩
  obtain ⟨t, der, reading⟩ := hbody cdv A out st' G vv R W hgd (room.deeper _) hs
  refine wpAny_mono (der.run [] s2 (start N vv) G _ (inv_start S room.hd e0 hlen rv x2) reading) (fun fl s3 end3 => ?_) fun _ _ end3 => end3
  cases fl with
  | next =>
    obtain ⟨_, G', J, q⟩ := end3
    exact ⟨V.non, G', J.os, J.bare, J.base, J.hok, rfl, q⟩
  | ret u =>
    obtain ⟨v, _, G', J, rv', q⟩ := end3
    exact ⟨v, G', J.os, J.bare, J.base, J.hok, rv', q⟩
  | brk => exact (let ⟨_, _, _, q⟩ := end3; False.elim q)
  | cont => exact (let ⟨_, _, _, q⟩ := end3; False.elim q)
end
section
variable {X : Cx} {k : Nat} {f : Addr} {fd : FuncData} {ps : List Str} {sp : Sp} {E : XK} {x : Str} {p pos : Pos} {e : Expr} {es : List Expr} {t : TA} {CX : CXT} {dvs : List V} {ds : List Value}
/-- a call of a def that shows data -/
theorem pe_callG (F : FnG X.prog X.w X.K X.mg X.base CX k f fd ps sp) (hgd : X.A.guards = some []) (hr : Room k X.A) (hg : Gl X x) (hm : X.mg x = some (.ref f)) (hk : PySem.W.keepIn X.K (.ref f) = true) (hb : Binds X.K fd ps ds) (hd : Vals dvs ds) (hx : Passes CX X E)
    (ha : PA X (e :: es) t) (hdb : (x == ("__debug__" : Str)) = false := by decide)
    (he : starEach (e :: es) X.env = (false, eval e X.env) :: starEach es X.env := by rfl)
    (hpl : (backTo pos (starEach es X.env)).any (·.1) = false := by rfl) : PE X (.Call (.Name x p) (e :: es) [] pos) (tCall sp dvs E t) := by
  constructor
  intro pins s σ H Q I h
  refine wpAny_Call_Name_kw (ld_glob I hg hm ?_ hdb)
  refine PySem.W.callWith_K (h₀ := X.base) I.ok.mod.kin hk (thn (ha.run pos pins s σ H _ I h) fun us s1 hh => ?_) he hpl
  obtain ⟨vs, H1, J, r, q⟩ := hh
  refine ⟨J.kIn, ?_⟩
  have r2 := r.append hd
  have hl : (us ++ ds).length = ps.length := r2.length.symm.trans (F.len _ _ _ _ q)
  refine wpAny_call (codeAny_mono (F.run X.A hgd hr X.stack s1 H1 ⟨us, []⟩ (us ++ ds) (vs ++ dvs) _ _ J.env0 (hb s1 us J.kIn hl) r2 q) fun res s2 hq => ?_)
  match res, hq with
  | .error e', hq => exact hx pins σ H1 s1 e' s2 J hq
  | .ok (.ret u), hq => exact J.after hq
  | .ok .next, hq => exact hq.elim
  | .ok .brk, hq => exact hq.elim
  | .ok .cont, hq => exact hq.elim
/-! ### repr of data -/
mutual
theorem dp_nodict {K : PySem.W.Frag} {H : Hp} : ∀ {v : V} {d : PyData}, Dp K H v d → d.hasDict = false
  | _, _, .non => by simp [PyData.hasDict]
  | _, _, .bl _ => by simp [PyData.hasDict]
  | _, _, .int _ => by simp [PyData.hasDict]
  | _, _, .str _ => by simp [PyData.hasDict]
  | _, _, .lst _ h => by simpa [PyData.hasDict] using dps_nodict h
  | _, _, .tup _ h => by simpa [PyData.hasDict] using dps_nodict h
theorem dps_nodict {K : PySem.W.Frag} {H : Hp} : ∀ {vs : List V} {ds : List PyData}, DpAll K H vs ds → PyData.hasDictAll ds = false
  | _, _, .nil => by simp [PyData.hasDictAll]
  | _, _, .cons h t => by simp [PyData.hasDictAll, dp_nodict h, dps_nodict t]
end
def rRepr (K : PySem.W.Frag) : List V → Hp → VK → Prop := fun xs H Q => ∃ x d, xs = [x] ∧ Dp K H x d ∧ d.showable = true ∧ d.depth ≤ 60 ∧ d.shown.length ≤ sizeLine ∧ Q (.str d.shown) H
theorem call_reprD (hgd : X.A.guards = some []) (hu : X.A.units + 64 < cLine) : CallR X (.builtin "repr") (rRepr X.K) := by
  intro pins s σ H xs us Q I r h
  obtain ⟨x, d, rfl, hd, hs, hdep, hz, q⟩ := h
  cases r with
  | @cons _ u _ _ ru rn =>
    cases rn
    obtain ⟨as, hr⟩ := Dp.reads I d x u hd ru
    have nod := dp_nodict hd
    cases hd with
    | non =>
      obtain rfl : u = Value.none := ru
      exact PySem.P.repr_of_none ⟨.str _, H, I.tok _, ⟨_, rfl⟩, by simpa only [PyData.shown] using q⟩
    | bl b =>
      obtain rfl : u = Value.bool b := ru
      exact PySem.P.repr_of_bool ⟨.str _, H, I.tok _, ⟨_, rfl⟩, by simpa only [PyData.shown] using q⟩
    | int i =>
      obtain ⟨t, rfl⟩ := ru
      exact PySem.P.repr_of_int (by simpa [PyData.showable] using hs) ⟨.str _, H, I.tok _, ⟨_, rfl⟩, by simpa only [PyData.shown] using q⟩
    | str z =>
      obtain ⟨t, rfl⟩ := ru
      exact PySem.P.repr_of_str ⟨.str _, H, I.tok _, ⟨_, rfl⟩, by simpa only [PyData.shown] using q⟩ (by simpa only [PyData.shown] using hz)
    | @lst a _ ds h1 h2 =>
      obtain rfl : u = Value.ref a := ru
      exact PySem.repr_of_reads' hr hs (fun z => absurd (nod.symm.trans z) (by decide)) hgd (by omega) (fun _ _ e => e) (fun h' u tk hk => ⟨.str _, H, I.kept hk, ⟨_, rfl⟩, q⟩) hz
    | @tup a _ ds h1 h2 =>
      obtain rfl : u = Value.ref a := ru
      exact PySem.repr_of_reads' hr hs (fun z => absurd (nod.symm.trans z) (by decide)) hgd (by omega) (fun _ _ e => e) (fun h' u tk hk => ⟨.str _, H, I.kept hk, ⟨_, rfl⟩, q⟩) hz
end
end My
/-! ### the end of a law whose def shows data -/
namespace My
open PySem PySem.Spec PyProof.Rows L2
/-- the law's call at the head, from its promise there: nothing is tracked but the script -/
theorem law_callG {P : Program} {w : World} {K : PySem.W.Frag} {mg mb : Str → Option Value} {CX : CXT} {k : Nat} {fa a : Addr} {fd : FuncData} {x : Str} {sp : Sp} {st : Shared} {vs : List Value} {ns : List Int}
    (KX : K.In st.heap) (hns : st.heap.Ns mainGlobals mg) (hb : st.heap.Ns builtinsNs mb) (hbb : ∀ x : Str, x ≠ "__name__" → mb x = bootBuiltins x)
    (hlim : st.heap.NoLimit) (hg : st.gens = #[]) (ha : st.heap.get? a = some { cls := .type "list", data := .seq vs.toArray }) (hi : IntsAre vs ns) (hl : ns.length ≤ sizeLine) (hr : Room k callerA)
    (F : ∀ base : Heap, K.In base → base.Ns mainGlobals mg → FnG P w K mg base CX k fa fd [x] sp)
    (hbind : ∀ (s : Shared) (u : Value), BindsTo s fd ⟨[u], []⟩ [(x, u)])
    (hsp : ∀ H : Hp, Only H → SqL K H a (ns.map V.int) → sp [.ref a] H (fun v _ => v = .bl true) fun _ _ _ => False)
    (hCX : ∀ H e s', CX [] H st (fun _ _ _ => False) e s' → False) :
    codeAny (model P w) callerA (.call (.ref fa) ⟨[.ref a], []⟩) (fun r s' => r = .ok (.ret (.bool true)) ∧ OldK st.heap s'.heap ∧ s'.os = st.os ∧ AllBare s'.gens) st := by
  have vints := vals_ints hi
  have vlen := hi.length
  have main : ∀ H : Hp, Only H → SqL K H a (ns.map V.int) → HOk P w H st.heap → (∀ b, b ≠ a → H b = none) → (K.lookup a = none ∨ H a = none) →
      codeAny (model P w) callerA (.call (.ref fa) ⟨[.ref a], []⟩) (fun r s' => r = .ok (.ret (.bool true)) ∧ OldK st.heap s'.heap ∧ s'.os = st.os ∧ AllBare s'.gens) st := by
    intro H only scr hok off onK
    have dictFree : ∀ {b : Addr} {m : Str → Option Value}, st.heap.Ns b m → (hidT st.heap H).Ns b m := by
      rintro b m ⟨o, es, ep, e, d, r⟩
      by_cases z : b = a
      · rw [z, ha] at e
        cases e
        cases d
      · exact ⟨o, es, ep, hidT_get e (off b z), d, r⟩
    have kIn : K.In (hidT st.heap H) := by
      intro b o e
      by_cases z : b = a
      · rcases onK with q | q
        · rw [z, q] at e
          cases e
        · exact hidT_get (KX b o e) (by rw [z]; exact q)
      · exact hidT_get (KX b o e) (off b z)
    obtain ⟨mc, lim1, lim2⟩ := hlim
    have md : Mod K mg (hidT st.heap H) := ⟨kIn, dictFree hns, ⟨mb, dictFree hb, hbb⟩, ⟨mc, dictFree lim1, lim2⟩⟩
    have e0 : Env0 P w K mg (hidT st.heap H) callerA [] st H :=
      { frames := rfl, mod := md, bs := fun b o e => of_hidT e, bsz := Nat.le_of_eq (hidT_size _ _), funs := trivial, frf := fun b z => (nomatch z), hok := hok, bare := .of_eq hg }
    have run := (F _ kIn (dictFree hns)).run callerA rfl hr [] st H ⟨[.ref a], []⟩ [.ref a] [.ref a] _ _ e0 (hbind st (.ref a)) (.cons rfl .nil) (hsp H only scr)
    refine codeAny_mono run fun r s' h => ?_
    match r, h with
    | .error e, h => exact (hCX H e s' h).elim
    | .ok .next, h => exact h.elim
    | .ok .brk, h => exact h.elim
    | .ok .cont, h => exact h.elim
    | .ok (.ret u), h =>
      obtain ⟨v, H', os, bare, un, hok', rv, q⟩ := h
      obtain rfl : v = .bl true := q
      obtain rfl : u = Value.bool true := rv
      refine ⟨rfl, OldK.of_keep fun b o e => ?_, os, bare⟩
      cases q : H b with
      | none => exact un.keep b o e q (fun z => nomatch z) (fun z => nomatch z)
      | some u =>
        cases only b with
        | inl z => rw [q] at z; cases z
        | inr z =>
          obtain ⟨ob, xs, z⟩ := z
          have old := (hok b _ z).1
          rw [e] at old
          cases old
          exact (hok' b _ (un.frzs b _ _ z)).1
  cases hk : K.lookup a with
  | some o =>
    have e := KX a o hk
    rw [ha] at e
    cases e
    exact main (fun _ => none) (fun _ => .inl rfl) (.inr ⟨_, vs.toArray, _, hk, rfl, rfl, rfl, by rw [List.size_toArray, vlen]; exact hl, by simpa using vints⟩)
      (fun _ _ z => by cases z) (fun _ _ => rfl) (.inr rfl)
  | none =>
    have off : ∀ b, b ≠ a → (fun b => if b = a then some (HO.frz { cls := .type "list", data := .seq vs.toArray } (.lst (ns.map V.int))) else none) b = none := fun b z => if_neg z
    refine main (fun b => if b = a then some (.frz { cls := .type "list", data := .seq vs.toArray } (.lst (ns.map V.int))) else none) (fun b => ?_) (.inl (.inr ⟨_, if_pos rfl⟩)) (fun b u z => ?_) off (.inl hk)
    · by_cases z : b = a
      · exact .inr ⟨_, _, if_pos z⟩
      · exact .inl (off b z)
    · by_cases q : b = a
      · obtain rfl := Option.some.inj ((if_pos q).symm.trans z)
        rw [q]
        exact ⟨ha, by rw [List.length_map]; exact hl, vs, _, vints, ha⟩
      · rw [off b q] at z
        cases z
/-- what k_head leaves, from the law's promise -/
theorem walk_ofG {l : PySem.W.OpenLaw} {n k : Nat} {q : Program} {loose : List Str} {XP : (Str → Option Value) → Heap → Prop} {YP : World → Heap → Prop} {d : DefRec} {K : Params → PySem.W.Frag} {CX : World → CXT} {sp : World → Sp} {x : Str}
    (hn : l.most = some n) (hn2 : n ≤ sizeLine) (hdf : d.params.defaults = []) (hr : Room k callerA) (hY : ∀ (w : World) (h : Heap), YP w h → (K w.params).In h)
    (F : ∀ (w : World) (mg : Str → Option Value) (fa : Addr) (h : Heap), (K w.params).In h → h.Ns mainGlobals mg → mg d.name = some (.ref fa) → ∃ fd : FuncData, (∀ (s : Shared) (u : Value), BindsTo s fd ⟨[u], []⟩ [(x, u)]) ∧
        ∀ base : Heap, (K w.params).In base → base.Ns mainGlobals mg → FnG l.prog w (K w.params) mg base (CX w) k fa fd [x] (sp w))
    (hsp : ∀ (w : World) (H : Hp) (a : Addr) (ns : List Int), ns.length ≤ n → Only H → SqL (K w.params) H a (ns.map V.int) → sp w [.ref a] H (fun v _ => v = .bl true) fun _ _ _ => False)
    (hCX : ∀ (w : World) (H : Hp) (s : Shared) (e : Value) (s' : Shared), CX w [] H s (fun _ _ _ => False) e s' → False) : PySem.W.WalkO q loose XP YP l.row.toRowW d [] (fun f vs => PySem.call f vs) := by
  refine Att.attach_call hn hdf ?_
  intro w s₀ st mg mb fa o pm cd doc a vs ns G Y ho hd hcd hmg hobj hints hlen hg
  have KX := hY w _ Y
  obtain ⟨fd, hb, hF⟩ := F w mg fa _ KX G.T.g hmg
  exact law_callG KX G.T.g G.T.b G.T.builtins G.T.nolimit hg hobj hints (Nat.le_trans hlen hn2) hr hF hb (hsp w · a ns hlen) fun H => hCX w H st
end My
/-! ### == and != of two built-in classes -/
namespace My
open PySem PySem.Spec PyProof.Rows L2 PySem.TypeEq
theorem ty_ne1 : Slot "type" (cmpInfo .NotEq).2.1 "object.__ne__" := .of (owner := "object") (n := "__ne__")
  (by rw [typeLookup_type, builtinLookup_eq_fast]; kernel_rfl) (by decide +kernel) (by decide +kernel) (by decide +kernel) (by first | exact .inr (by decide +kernel) | exact .inl (by decide +kernel))
  (by rw [isSubtype_type]; kernel_rfl)
theorem ty_ne2 : Slot "type" (cmpInfo .NotEq).2.2 "object.__ne__" := .of (owner := "object") (n := "__ne__")
  (by rw [typeLookup_type, builtinLookup_eq_fast]; kernel_rfl) (by decide +kernel) (by decide +kernel) (by decide +kernel) (by first | exact .inr (by decide +kernel) | exact .inl (by decide +kernel))
  (by rw [isSubtype_type]; kernel_rfl)
section
variable {prog : Program} {w : World} {A : Around} {E : Value → Shared → Prop} {s : Shared}
theorem objNe_body {X : String} {b : Value} {Q : Fin → Shared → Prop} (hX : ∀ s' : Shared, s'.TypeIs (.type X) "type") (hv : [Value.type X, b].any Value.onHeap = false)
    (hc : wpAny (model prog w) A (call (.builtin "object.__eq__") [.type X, b]) (fun v s' => (v = .notImplemented ∧ Q (.done (.ret .notImplemented)) s') ∨ ∃ k, v = .bool k ∧ Q (.done (.ret (.bool (!k)))) s') E s) :
    wpAny (model prog w) A (Builtin.«object.__ne__» ⟨[.type X, b], []⟩) Q E s := by
  unfold Builtin.«object.__ne__»
  refine wpAny_bind (m := slotArgs "__ne__" 1 ⟨[.type X, b], []⟩) (wpAny_pure ?_)
  dsimp only
  refine wpAny_bind (wpAny_cRoomFor_or (.inl hv) ?_)
  refine wpAny_bind (m := callSpecialIfBound? (.type X) (Str.ofString "__eq__") [b]) (wpAny_callSpecialIfBound?_slot (T := "type") (hX s) slot_type_eq (wpAny_mono hc (fun v s' h => ?_) fun _ _ e => e))
  rcases h with ⟨rfl, h⟩ | ⟨k, rfl, h⟩
  · exact wpAny_pure h
  · exact wpAny_bind (wpAny_truthy_bool (wpAny_pure h))
theorem ne_ty_same {X : String} {Q : Value → Shared → Prop} (hX : ∀ s' : Shared, s'.TypeIs (.type X) "type") (h : Q (.bool false) s) : wpAny (model prog w) A (compareOp .NotEq (.type X) (.type X)) Q E s := by
  show wpAny _ A (richCompare .NotEq _ _) Q E s
  refine wpAny_richCompare_same (T := "type") (hX s) (hX s) ty_ne1 (wpAny_call_entry ty_ne1 (hX s) F.entry_object_ne (objNe_body hX rfl ?_) (F.args_object_ne_2 _ _))
  exact call_gives slot_type_eq (hX s) F.entry_object_eq (F.args_object_eq_2 _ _) (object_eq_same rfl (by simp)) (.inr ⟨true, rfl, _, rfl, (by intro e; cases e), h⟩)
theorem ne_ty_other {X Y : String} {Q : Value → Shared → Prop} (hX : ∀ s' : Shared, s'.TypeIs (.type X) "type") (hY : ∀ s' : Shared, s'.TypeIs (.type Y) "type")
    (hne : (Value.type X == Value.type Y) = false) (hen : (Value.type Y == Value.type X) = false) (h : Q (.bool true) s) : wpAny (model prog w) A (compareOp .NotEq (.type X) (.type Y)) Q E s := by
  show wpAny _ A (richCompare .NotEq _ _) Q E s
  have k1 := ty_ne1
  have k2 := ty_ne2
  rcases hi : cmpInfo CmpOp.NotEq with ⟨sym, f, r⟩
  rw [hi] at k1 k2
  simp only [richCompare, hi, (hX s).oneThing_none]
  try with_reducible refine wpAny_holding ?_
  refine wpAny_bind (wpAny_cRoomFor_or (.inl rfl) ?_)
  refine wpAny_bind (wpAny_typeOf (hX s) ?_)
  refine wpAny_bind (wpAny_typeOf (hY s) ?_)
  simp only [bne_self_eq_false, Bool.false_eq_true, if_false, pure_bind, Bool.not_false, if_true]
  refine wpAny_bind (m := tryCompare (.type X) _ (.type Y)) (wpAny_tryCompare_declines (hX s) k1 ?_)
  refine wpAny_call_entry k1 (hX s) F.entry_object_ne (objNe_body hX rfl ?_) (F.args_object_ne_2 _ _)
  refine call_gives slot_type_eq (hX s) F.entry_object_eq (F.args_object_eq_2 _ _) (object_eq_other rfl hne) (.inl ⟨rfl, _, rfl, rfl, ?_⟩)
  refine wpAny_bind (m := tryCompare (.type Y) _ (.type X)) (wpAny_tryCompare_declines (hY s) k2 ?_)
  refine wpAny_call_entry k2 (hY s) F.entry_object_ne (objNe_body hY rfl ?_) (F.args_object_ne_2 _ _)
  refine call_gives slot_type_eq (hY s) F.entry_object_eq (F.args_object_eq_2 _ _) (object_eq_other rfl hen) (.inl ⟨rfl, _, rfl, rfl, ?_⟩)
  refine wpAny_bind (wpAny_rule (wpAny_bind (wpAny_of_eq (isSame_plain rfl) (wpAny_pure ?_))))
  rw [hne]
  exact h
end
/-- the built-in classes that are compared -/
def isTy (T : String) : Prop := ∀ s' : Shared, s'.TypeIs (.type T) "type"
theorem tyB_ty {K : PySem.W.Frag} {H : Hp} {x : V} {T : String} (h : TyB K H x T) : isTy T := by
  cases h with
  | non => exact meta_NoneType
  | bl => exact meta_bool
  | int => exact meta_int
  | str => exact meta_str
  | byt => exact meta_bytes
  | lst => exact meta_list
  | tup => exact meta_tuple
  | dK => exact meta_dict
section
variable {X : Cx}
def rTyEq : R2 := fun x y H Q => ∃ a b, x = .ty a ∧ y = .ty b ∧ isTy a ∧ isTy b ∧ Q (.bl (decide (a = b))) H
def rTyNe : R2 := fun x y H Q => ∃ a b, x = .ty a ∧ y = .ty b ∧ isTy a ∧ isTy b ∧ Q (.bl (!decide (a = b))) H
theorem op_eqTy : OpR X (compareOp .Eq) rTyEq := by
  intro pins s σ H x y v u Q I rx ry h
  obtain ⟨a, b, rfl, rfl, ha, hb, q⟩ := h
  obtain rfl : v = Value.type a := rx
  obtain rfl : u = Value.type b := ry
  by_cases e : a = b
  · subst e
    exact eq_type_same ha ⟨.bl true, H, I, rfl, by rw [decide_eq_true rfl] at q; exact q⟩
  · exact eq_type_other ha hb ((ty_beq a b).trans (decide_eq_false e)) ⟨.bl false, H, I, rfl, by rw [decide_eq_false e] at q; exact q⟩
theorem op_neTy : OpR X (compareOp .NotEq) rTyNe := by
  intro pins s σ H x y v u Q I rx ry h
  obtain ⟨a, b, rfl, rfl, ha, hb, q⟩ := h
  obtain rfl : v = Value.type a := rx
  obtain rfl : u = Value.type b := ry
  by_cases e : a = b
  · subst e
    exact ne_ty_same ha ⟨.bl false, H, I, rfl, by rw [decide_eq_true rfl] at q; exact q⟩
  · exact ne_ty_other ha hb ((ty_beq a b).trans (decide_eq_false e)) ((ty_beq b a).trans (decide_eq_false fun z => e z.symm)) ⟨.bl true, H, I, rfl, by rw [decide_eq_false e] at q; exact q⟩
end
end My
/-! ### len(set(t)), t a tuple of tuples of ints -/
namespace My
open PySem PySem.Spec PyProof.Rows L2
section
variable {P : Program} {w : World} {A : Around} {E : Value → Shared → Prop} {s : Shared}
abbrev set0 (w : World) : Obj := ⟨.type "set", none, .set #[] 0 (.fresh 0 0 (!w.params.followText "set-order")), #[]⟩
/-- what stands behind set(t) -/
def SetGot (P : Program) (w : World) (ks : List (Addr × List Int)) (s : Shared) (s' : Shared) : Prop :=
  ∃ h' tk L es ep t, s' = { s with heap := h', toks := tk } ∧ SetTR P w h' s.heap.objs.size L es ep t ∧ Got ks ks.length L ∧ ∀ b o, s.heap.get? b = some o → h'.get? b = some o
theorem beyond {h : Heap} {b : Addr} (hb : h.objs.size ≤ b) : h.get? b = none := by
  cases q : h.get? b with
  | none => rfl
  | some o =>
    exact absurd (Nat.lt_of_lt_of_le (Heap.lt_size q) hb) (Nat.lt_irrefl _)
theorem set_of_tup {l : Addr} {vs : Array Value} (ks : List (Addr × List Int)) {Q : Value → Shared → Prop} (h0 : A.handled = none) (ht : s.heap.IsTuple l vs) (hv : vs.toList = ks.map fun p => Value.ref p.1)
    (hk : ∀ p ∈ ks, IsT P w s.heap p.2 p.1) (few : ks.length < 64) (hu : A.units + 3 < cLine) (h : ∀ s', SetGot P w ks s s' → Q (.ref s.heap.objs.size) s') :
    wpAny (model P w) A (call (.type "set") [.ref l]) Q E s := by
  have sz : vs.size = ks.length := by
    rw [← Array.length_toList, hv, List.length_map]
  obtain ⟨c, tl, mro⟩ := F.called_set.mro
  have made := F.called_set.made
  have sub1 := F.called_set.sub
  refine wpAny_call (codeAny_of_tree ?_)
  show wpAny _ _ (callAny (.type "set") _) _ _ _
  refine wpAny_pure ⟨Code.quiet_builtin _ (by decide +kernel), codeAny_builtin F.entry_type_call ?_⟩
  rw [Around.under_plain (weight_type_call_type "set" [.ref l] []) rfl]
  have nt := F.called_set.notType
  have cc := F.called_set.canCreate
  have tc := F.typeCall_set_1 (.ref l)
  repeat (any_goals (first | assumption | wp_step))
  refine codeAny_mono (code_set_led1 (.ref l) (E := E) (Q₁ := fun o s1 => o = .ref s.heap.objs.size ∧ s1 = { s with heap := s.heap.push (set0 w) }) ⟨rfl, rfl⟩) fun r s1 hr => ?_
  cases r with
  | error e => exact hr
  | ok fl =>
    cases fl with
    | ret o =>
      obtain ⟨rfl, rfl⟩ := hr
      have gS : (s.heap.push (set0 w)).get? s.heap.objs.size = some (set0 w) := Heap.get?_push_size _ rfl
      have tS : Shared.TypeIs { s with heap := s.heap.push (set0 w) } (.ref s.heap.objs.size) "set" := ⟨_, gS, rfl⟩
      have li := F.called_set.init.lookup
      have bi := F.called_set.init.bind (.ref s.heap.objs.size)
      repeat (any_goals (first | assumption | wp_step))
      refine codeAny_mono (codeAny_call_builtin (R := wants (fun r s2 => r = .none ∧ SetGot P w ks s s2) E) F.called_set.init.plain F.entry_set_init (check_set_init_1 tS ?_)) fun r2 s2 hr2 => ?_
      · have ht1 : (s.heap.push (set0 w)).IsTuple l vs := ht.push _
        have lS : l < s.heap.objs.size := by
          obtain ⟨_, e, _⟩ := ht
          exact Heap.lt_size e
        obtain ⟨⟨c1, d1, x1, sl1⟩, g1, e1, n1, e2⟩ := ht1
        simp only at e1 e2
        subst e1
        subst e2
        have ht1 : (s.heap.push (set0 w)).IsTuple l vs := ⟨_, g1, rfl, n1, rfl⟩
        have f1 := F.sub_tuple_set
        have f2 := F.sub_tuple_frozenset
        have f3 : (Value.type "tuple" == Value.type "dict") = false := by decide
        unfold Builtin.«set.__init__» noKeywords Builtin.Frozenset.updateFrom
        generalize hPI : pyIter = PI
        wp_walk
        subst hPI
        refine wpAny_pyIter_tuple ht1 ?_
        refine wpAny_bind (wpAny_runValue ?_)
        have h3 : A.in1.in1.in1.handled = none := by simp [h0]
        have z1 : (s.heap.push (set0 w)).objs.size = s.heap.objs.size + 1 := Heap.size_push ..
        have lI : l ≠ (s.heap.push (set0 w)).objs.size := by
          rw [z1]
          exact Nat.ne_of_lt (Nat.lt_succ_of_lt lS)
        have item : ∀ (i : Nat) (v : Value), vs[i]? = some v → ∃ p, ks[i]? = some p ∧ v = .ref p.1 := fun i v e => by
          rw [← Array.getElem?_toList, hv, List.getElem?_map] at e
          cases q : ks[i]? with
          | none =>
            rw [q] at e
            cases e
          | some p =>
            rw [q] at e
            exact ⟨p, rfl, (Option.some.inj e).symm⟩
        refine set_update_tups ((Walks.tuple h3 _ l lI vs).toS) s.heap.objs.size ?n1 ks sz few item s.heap hk (beyond (Nat.le_refl _)) ?n2 hu vs.size 0 _ (by omega) (Nat.zero_le _)
          ⟨⟨_, Heap.get?_push_size _ rfl, rfl, rfl⟩, ht1.push _⟩ (fun b o e => Heap.get?_push_of_some _ (Heap.get?_push_of_some _ e)) ?n3 ?n4
        case n1 =>
          intro m
          rcases List.mem_cons.mp m with m | m
          · rw [z1] at m
            exact absurd m (Nat.ne_of_lt (Nat.lt_succ_self _))
          · exact absurd (List.mem_singleton.mp m).symm (Nat.ne_of_lt lS)
        case n2 =>
          intro b m
          refine beyond ?_
          rw [List.mem_singleton.mp m, z1]
          exact Nat.le_succ _
        case n3 => exact ⟨[], #[], 0, _, setTR_fresh (Heap.get?_push_of_some _ gS), Got.zero ks⟩
        case n4 =>
          rintro ⟨h', g2, d', tk', os'⟩ L es ep t mv hS' got keep
          have eg : g2 = s.gens := mv.gens
          have ed : d' = s.drawn := mv.drawn
          have eo : os' = s.os := mv.os
          subst eg ed eo
          rw [sz] at got
          show wpAny _ _ _ _ _ _
          refine wpAny_pure ?_
          show wpAny _ _ (ret Value.none) _ _ _
          exact wpAny_pure ⟨rfl, h', tk', L, es, ep, t, rfl, hS', got, keep⟩
      · cases r2 with
        | error e => exact hr2
        | ok fl2 =>
          cases fl2 with
          | ret r =>
            obtain ⟨rfl, hg⟩ := hr2
            have hq := h _ hg
            repeat (any_goals (first | assumption | wp_step))
          | _ => exact hr2.elim
    | _ => exact hr.elim
end
end My
/-! ### len(set(t)), as an expression -/
namespace My
open PySem PySem.Spec PyProof.Rows L2
theorem nd_le {α : Type} [DecidableEq α] : ∀ (l D : List α), l.Nodup → (∀ x ∈ l, x ∈ D) → l.length ≤ D.length
  | [], _, _, _ => Nat.zero_le _
  | x :: l, D, nd, h => by
    have hx := h x (.head _)
    have nd' := List.nodup_cons.mp nd
    have := nd_le l (D.erase x) nd'.2 fun y hy => (List.mem_erase_of_ne (fun e => nd'.1 (by rw [← e]; exact hy))).mpr (h y (.tail _ hy))
    rw [List.length_erase_of_mem hx] at this
    have := List.length_pos_of_mem hx
    rw [List.length_cons]
    omega
theorem dup_of {α : Type} [DecidableEq α] : ∀ D : List α, ¬ D.Nodup → ∃ x, x ∈ D.erase x
  | [], h => absurd List.nodup_nil h
  | y :: t, h => by
    by_cases hy : y ∈ t
    · exact ⟨y, by rw [List.erase_cons_head]; exact hy⟩
    · obtain ⟨x, hx⟩ := dup_of t fun n => h (List.nodup_cons.mpr ⟨hy, n⟩)
      have ne : y ≠ x := fun e => hy (e ▸ List.mem_of_mem_erase hx)
      refine ⟨x, ?_⟩
      rw [List.erase_cons_tail (by simpa using ne)]
      exact .tail _ hx
theorem nd_lt {α : Type} [DecidableEq α] {l D : List α} (nd : l.Nodup) (sub : ∀ x ∈ l, x ∈ D) (n : ¬ D.Nodup) : l.length < D.length := by
  obtain ⟨x, hx⟩ := dup_of _ n
  have h2 := nd_le _ (D.erase x) nd fun y hy => by
    by_cases e : y = x
    · rw [e]
      exact hx
    · exact (List.mem_erase_of_ne e).mpr (sub y hy)
  have hm := List.mem_of_mem_erase hx
  have := List.length_pos_of_mem hm
  rw [List.length_erase_of_mem hm] at h2
  omega
theorem got_len {ks L : List (Addr × List Int)} (g : Got ks ks.length L) (nd : (L.map (·.2)).Nodup) : L.length = ks.length ↔ (ks.map (·.2)).Nodup := by
  have sub : ∀ x ∈ L.map (·.2), x ∈ ks.map (·.2) := fun x hx => by
    obtain ⟨p, hp, rfl⟩ := List.mem_map.mp hx
    exact List.mem_map.mpr ⟨p, List.mem_of_mem_take (g.sub p hp), rfl⟩
  have all : ∀ x ∈ ks.map (·.2), x ∈ L.map (·.2) := fun x hx => by
    obtain ⟨p, hp, rfl⟩ := List.mem_map.mp hx
    exact g.all p (by rw [List.take_length]; exact hp)
  have h1 := nd_le _ _ nd sub
  rw [List.length_map, List.length_map] at h1
  constructor
  · intro e
    refine Decidable.byContradiction fun n => ?_
    have h2 := nd_lt nd sub n
    rw [List.length_map, List.length_map] at h2
    omega
  · intro n
    have h2 := nd_le _ _ n all
    rw [List.length_map, List.length_map] at h2
    omega
section
variable {X : Cx} {ta : TE}
def tLenSetT (K : PySem.W.Frag) (ta : TE) : TE := fun σ H Q => ta σ H fun x H1 => ∃ (l : Addr) (ks : List (Addr × List Int)), x = V.ref l ∧ SqT K H1 l (ks.map fun p => V.ref p.1) ∧ (∀ p ∈ ks, SqT K H1 p.1 (p.2.map V.int)) ∧ ks.length < 64 ∧
  ∀ n : Nat, (n = ks.length ↔ (ks.map (·.2)).Nodup) → Q (.int n) H1
theorem pe_lenSetT {a : Expr} {p p2 q pos : Pos} (hc : X.calm = true) (hu : X.A.units + 64 < cLine) (hg : Gl X "len") (hm : X.mg "len" = none) (hg2 : Gl X "set") (hm2 : X.mg "set" = none) (ha : PE X a ta)
    (na : starEach [a] X.env = (false, eval a X.env) :: starEach [] X.env := by rfl) : PE X (.Call (.Name "len" p) [.Call (.Name "set" p2) [a] [] q] [] pos) (tLenSetT X.K ta) := by
  refine ⟨fun pins s σ H Q I h => ?_⟩
  refine Call_ (ld_blt I hg hm PySem.boot_len (PyProof.Rows.callWith_builtin1 (PyProof.Rows.args_cons ?_ rfl) rfl rfl))
  refine Call_ (ld_blt I hg2 hm2 PyProof.Rows.boot_set (PyProof.Rows.callWith_type1 (PyProof.Rows.args_cons (thn (ha.run pins s σ H _ I h) fun v s1 hv => PyProof.Rows.args_nil ?_) na) na rfl))
  obtain ⟨x, H1, I1, r1, l, ks, rfl, hq, hk, few, q1⟩ := hv
  cases r1
  obtain ⟨its, r, pl, hz⟩ := I1.tuple hq
  refine set_of_tup (P := X.prog) (w := X.w) ks (I1.ok.hd hc) pl (by simpa using refs_of_vals r) (fun p hp => I1.isT (hk p hp)) few (by omega) fun s' hs => PyProof.Rows.args_nil ?_
  obtain ⟨h', tk, L, es, ep, t, rfl, R, g, keep⟩ := hs
  have I2 : Inv X pins σ H1 { s1 with heap := h', toks := tk } := I1.kept keep
  obtain ⟨o, ho, hex, hd⟩ := R.ob
  have sz := SetTR.size (s := { s1 with heap := h', toks := tk }) R
  have fits := SetTR.fits (s := { s1 with heap := h', toks := tk }) R
  have few2 := R.few
  refine call_len_set ho hex hd fits (by omega) ⟨.int es.size, H1, I2.tok _, ⟨_, rfl⟩, q1 _ ?_⟩
  rw [sz]
  exact got_len g R.nd
end
end My
/-! ### the program's looks at machines and rules, over data -/
namespace My
open PySem PySem.Spec PyProof.Rows L2
abbrev sWhole : Stmt := topS 15
abbrev sBetween : Stmt := topS 33
abbrev sTuple : Stmt := topS 32
abbrev sLetters : Stmt := topS 27
abbrev sTable : Stmt := topS 29
theorem scWhole : FnScope ["thing"] ["thing"] (defScope sWhole) := ⟨rfl, rfl, rfl, by decide +kernel, rfl, by decide +kernel, by decide +kernel⟩
theorem scBetween : FnScope ["thing", "low", "high"] ["thing", "low", "high"] (defScope sBetween) := ⟨rfl, rfl, rfl, by decide +kernel, rfl, by decide +kernel, by decide +kernel⟩
theorem scTuple : FnScope ["thing", "least", "most"] ["thing", "least", "most"] (defScope sTuple) := ⟨rfl, rfl, rfl, by decide +kernel, rfl, by decide +kernel, by decide +kernel⟩
theorem scLetters : FnScope ["thing", "ascending", "at"] ["thing"] (defScope sLetters) := ⟨rfl, rfl, rfl, by decide +kernel, rfl, by decide +kernel, by decide +kernel⟩
theorem scTable : FnScope ["thing", "letters", "most", "state"] ["thing", "letters", "most"] (defScope sTable) := ⟨rfl, rfl, rfl, by decide +kernel, rfl, by decide +kernel, by decide +kernel⟩
/-! ### data: x is what d says, in the heap H -/
mutual
inductive Rp (K : PySem.W.Frag) (H : Hp) : V → PyData → Prop
  | non : Rp K H .non .none
  | bl (b : Bool) : Rp K H (.bl b) (.bool b)
  | int (i : Int) : Rp K H (.int i) (.int i)
  | str (x : Str) : x.length ≤ sizeLine → Rp K H (.str x) (.str x)
  | lst {a : Addr} {xs : List V} {ds : List PyData} : SqL K H a xs → RpAll K H xs ds → Rp K H (.ref a) (.list ds)
  | tup {a : Addr} {xs : List V} {ds : List PyData} : SqT K H a xs → RpAll K H xs ds → Rp K H (.ref a) (.tuple ds)
  | dct {a : Addr} : H a = some (.dK []) → Rp K H (.ref a) (.dict [])
inductive RpAll (K : PySem.W.Frag) (H : Hp) : List V → List PyData → Prop
  | nil : RpAll K H [] []
  | cons {v : V} {vs : List V} {d : PyData} {ds : List PyData} : Rp K H v d → RpAll K H vs ds → RpAll K H (v :: vs) (d :: ds)
end
def kindOf : PyData → String
  | .none => "NoneType"
  | .bool _ => "bool"
  | .int _ => "int"
  | .str _ => "str"
  | .list _ => "list"
  | .tuple _ => "tuple"
  | .dict _ => "dict"
theorem Rp.ty {K : PySem.W.Frag} {H : Hp} {v : V} {d : PyData} (h : Rp K H v d) : TyB K H v (kindOf d) := by
  cases h with
  | non => exact .non
  | bl => exact .bl _
  | int => exact .int _
  | str => exact .str _
  | lst h => exact .lst h
  | tup h => exact .tup h
  | dct h => exact .dK h
theorem same_tup {K : PySem.W.Frag} {H H' : Hp} {a : Addr} {xs : List V} (e : Same H H') (h : SqT K H a xs) : SqT K H' a xs := by
  rcases h with (h | ⟨o, h⟩) | h
  · exact .inl (.inl (e _ _ h))
  · exact .inl (.inr ⟨o, e _ _ h⟩)
  · exact .inr h
theorem eq_false_of_ne_true {b : Bool} (h : ¬ b = true) : b = false := by
  cases b
  · rfl
  · exact absurd rfl h
mutual
theorem Rp.go {K : PySem.W.Frag} {H H' : Hp} (s : Same H H') : ∀ {v : V} {d : PyData}, Rp K H v d → Rp K H' v d
  | _, _, .non => .non
  | _, _, .bl b => .bl b
  | _, _, .int i => .int i
  | _, _, .str x h => .str x h
  | _, _, .lst h t => .lst (s.seq h) (RpAll.go s t)
  | _, _, .tup h t => .tup (same_tup s h) (RpAll.go s t)
  | _, _, .dct h => .dct (s _ _ h)
theorem RpAll.go {K : PySem.W.Frag} {H H' : Hp} (s : Same H H') : ∀ {vs : List V} {ds : List PyData}, RpAll K H vs ds → RpAll K H' vs ds
  | _, _, .nil => .nil
  | _, _, .cons h t => .cons (Rp.go s h) (RpAll.go s t)
end
theorem RpAll.len {K : PySem.W.Frag} {H : Hp} : ∀ {vs : List V} {ds : List PyData}, RpAll K H vs ds → vs.length = ds.length
  | _, _, .nil => rfl
  | _, _, .cons _ t => congrArg (· + 1) t.len
theorem RpAll.at {K : PySem.W.Frag} {H : Hp} : ∀ {vs : List V} {ds : List PyData}, RpAll K H vs ds → ∀ {i : Nat} {v : V}, vs[i]? = some v → ∃ d, ds[i]? = some d ∧ Rp K H v d
  | _, _, .cons (d := d) h t, 0, v, e => ⟨d, rfl, by cases e; exact h⟩
  | _, _, .cons h t, i + 1, v, e => t.at (i := i) (by simpa using e)
/-! ### what the looks tell -/
def betD (lo hi : Int) : PyData → Bool
  | .int i => decide (lo ≤ i) && decide (i ≤ hi)
  | _ => false
def tupD (lo hi : Int) : PyData → Bool
  | .tuple ds => decide (lo ≤ (ds.length : Int)) && decide ((ds.length : Int) ≤ hi)
  | _ => false
def lettersL : List Nat → Bool
  | [a] => decide (97 ≤ a) && decide (a ≤ 122)
  | [a, b] => decide (a < b) && (decide (97 ≤ a) && decide (b ≤ 122))
  | [a, b, c] => (decide (a < b) && decide (b < c)) && (decide (97 ≤ a) && decide (c ≤ 122))
  | _ => false
def ltrD : PyData → Bool
  | .str z => lettersL z.cps.toList
  | _ => false
def pairD (most many : Int) : PyData → Bool
  | .tuple [p, t] => betD (-most) most p && betD 0 (many - 1) t
  | _ => false
theorem RpAll.two {K : PySem.W.Frag} {H : Hp} {vs : List V} {ds : List PyData} (h : RpAll K H vs ds) (e : ds.length = 2) : ∃ u v p t, vs = [u, v] ∧ ds = [p, t] ∧ Rp K H u p ∧ Rp K H v t := by
  cases h with
  | nil => cases e
  | cons h1 h =>
    cases h with
    | nil => cases e
    | cons h2 h =>
      cases h with
      | nil => exact ⟨_, _, _, _, rfl, rfl, h1, h2⟩
      | cons _ _ => simp at e
theorem tup_of {K : PySem.W.Frag} {H : Hp} {x : V} {d : PyData} {lo hi : Int} (h : Rp K H x d) (z : tupD lo hi d = true) : ∃ a xs ds, x = .ref a ∧ d = .tuple ds ∧ SqT K H a xs ∧ RpAll K H xs ds ∧ lo ≤ (ds.length : Int) ∧ (ds.length : Int) ≤ hi := by
  cases h with
  | tup h1 h2 =>
    rw [tupD, Bool.and_eq_true, decide_eq_true_eq, decide_eq_true_eq] at z
    exact ⟨_, _, _, rfl, rfl, h1, h2, z⟩
  | _ => exact absurd z (by simp [tupD])
theorem Rp.two {K : PySem.W.Frag} {H : Hp} {x : V} {d : PyData} (h : Rp K H x d) (z : tupD 2 2 d = true) : ∃ a u v p t, x = .ref a ∧ d = .tuple [p, t] ∧ SqT K H a [u, v] ∧ Rp K H u p ∧ Rp K H v t := by
  obtain ⟨a, xs, ds, rfl, rfl, hS, hA, l1, l2⟩ := tup_of h z
  obtain ⟨u, v, p, t, rfl, rfl, hp, ht⟩ := hA.two (by omega)
  exact ⟨a, u, v, p, t, rfl, rfl, hS, hp, ht⟩
theorem pairD_not {most many : Int} {d : PyData} (z : ¬ tupD 2 2 d = true) : pairD most many d = false := by
  unfold pairD
  split
  · exact absurd (show tupD 2 2 _ = true from rfl) z
  · rfl
theorem Rp.isStr {K : PySem.W.Frag} {H : Hp} {x : V} {d : PyData} (h : Rp K H x d) (e : kindOf d = "str") : ∃ z, x = .str z ∧ d = .str z ∧ z.length ≤ sizeLine := by
  cases h with
  | str z hz => exact ⟨z, rfl, rfl, hz⟩
  | _ => exact absurd e (by simp [kindOf])
theorem lettersL_not {z : Str} (h : ¬ (1 ≤ z.length ∧ z.length ≤ 3)) : lettersL z.cps.toList = false := by
  have e : z.cps.toList.length = z.length := Array.length_toList
  generalize z.cps.toList = l at e
  unfold lettersL
  split
  · exact absurd ⟨by rw [← e]; simp, by rw [← e]; simp⟩ h
  · exact absurd ⟨by rw [← e]; simp, by rw [← e]; simp⟩ h
  · exact absurd ⟨by rw [← e]; simp, by rw [← e]; simp⟩ h
  · rfl
theorem nat_at {l : List Nat} {j : Nat} (h : j < l.length) : l[j]? = some (l.getD j 0) := by
  rw [List.getD_eq_getElem?_getD, List.getElem?_eq_getElem h]
  rfl
theorem one_lt (a b : Nat) : decide (([a] : List Nat) < [b]) = decide (a < b) := by
  simp [List.cons_lt_cons_iff]
theorem atI_last {α : Type} {l : List α} (h : 0 < l.length) : atI l (-1) = l[l.length - 1]? := by
  unfold atI ixN
  rw [if_neg (by decide), if_pos (by omega)]
  show l[(-1 + (l.length : Int)).toNat]? = _
  rw [show (-1 + (l.length : Int)).toNat = l.length - 1 by omega]
theorem same_new {H H' : Hp} {D : Addr} {o : HO} (sm : Same H H') (n : H D = none) : Same H (upd H' D o) := fun b x e => by
  rw [upd_ne (ne_of_none e n)]
  exact sm _ _ e
theorem letters_eq {l : List Nat} (h : 1 ≤ l.length ∧ l.length ≤ 3) : lettersL l = (((List.range (l.length - 1)).map fun i => decide (l.getD i 0 < l.getD (i + 1) 0)).all id && (!decide (([l.getD 0 0] : List Nat) < [97]) && !decide (([122] : List Nat) < [l.getD (l.length - 1) 0]))) := by
  have e : ∀ a b : Nat, (!decide (a < b)) = decide (b ≤ a) := fun a b => by
    by_cases z : a < b
    · rw [decide_eq_true z, decide_eq_false (by omega)]
      rfl
    · rw [decide_eq_false z, decide_eq_true (by omega)]
      rfl
  rw [one_lt, one_lt, e, e]
  match l, h with
  | [a], _ => simp [lettersL]
  | [a, b], _ => simp [lettersL, List.range_succ]
  | [a, b, c], _ => simp [lettersL, List.range_succ]
theorem ltrD_not {d : PyData} (h : ¬ kindOf d = "str") : ltrD d = false := by
  cases d with
  | str z => exact absurd rfl h
  | _ => rfl
def lenD : PyData → Nat
  | .str z => z.length
  | _ => 0
def tabD (n : Nat) (most : Int) : PyData → Bool
  | .tuple ds => tupD 1 most (.tuple ds) && ds.all (tupD (n : Int) (n : Int))
  | _ => false
def frmD (most : Int) : PyData → Bool
  | .tuple [b, l, s] => betD 2 9 b && (ltrD l && tabD (lenD l) most s)
  | _ => false
def someD : PyData → Bool
  | .none => false
  | _ => true
def wayD (many : Int) : PyData → Bool
  | .tuple ds => decide ((0 : Int) < ((ds.filter someD).length : Int)) && (ds.filter someD).all (betD 0 (many - 1))
  | _ => false
theorem lc_tupO {K : PySem.W.Frag} {a : Addr} {xs : List V} {H0 : Hp} {Qd : Hp → Prop} {B : V → Hp → (Hp → Prop) → Prop} (Pv : Nat → Hp → Prop) (h0 : Pv 0 H0) (hl : ∀ i H, Pv i H → SqT K H a xs)
    (hs : ∀ i x H, xs[i]? = some x → Pv i H → B x H (Pv (i + 1))) (hd : ∀ H, Pv xs.length H → Qd H) :
    ∃ W : Nat → Nat → Hp → Prop, (∃ m, W 0 m H0) ∧ ∀ i m H, W i m H → ((Itt K a).stop i H ∧ Qd H) ∨ ((Itt K a).go i H ∧ ∃ Nx : Hp → Prop, (∀ H', Nx H' → ∃ m', m' < m ∧ W (i + 1) m' H') ∧ ∀ x H', (Itt K a).yld i H x H' → B x H' Nx) := by
  refine ⟨fun i m H => m + i = xs.length ∧ Pv i H, ⟨xs.length, by omega, h0⟩, fun i m H h => ?_⟩
  have q := hl i H h.2
  rcases Nat.lt_or_ge i xs.length with lt | ge
  · refine .inr ⟨⟨xs, xs[i], q, List.getElem?_eq_getElem lt⟩, Pv (i + 1), fun H' p => ⟨m - 1, by omega, by omega, p⟩, fun x H' y => ?_⟩
    obtain ⟨rfl, y⟩ := y
    exact hs i x _ (y xs q) h.2
  · obtain rfl : i = xs.length := by omega
    exact .inl ⟨⟨xs, q, Nat.le_refl _⟩, hd H h.2⟩
theorem lc_lstO {K : PySem.W.Frag} {a : Addr} {xs : List V} {H0 : Hp} {Qd : Hp → Prop} {B : V → Hp → (Hp → Prop) → Prop} (Pv : Nat → Hp → Prop) (h0 : Pv 0 H0) (hl : ∀ i H, Pv i H → SqL K H a xs)
    (hs : ∀ i x H, xs[i]? = some x → Pv i H → B x H (Pv (i + 1))) (hd : ∀ H, Pv xs.length H → Qd H) :
    ∃ W : Nat → Nat → Hp → Prop, (∃ m, W 0 m H0) ∧ ∀ i m H, W i m H → ((Itl K a).stop i H ∧ Qd H) ∨ ((Itl K a).go i H ∧ ∃ Nx : Hp → Prop, (∀ H', Nx H' → ∃ m', m' < m ∧ W (i + 1) m' H') ∧ ∀ x H', (Itl K a).yld i H x H' → B x H' Nx) := by
  refine ⟨fun i m H => m + i = xs.length ∧ Pv i H, ⟨xs.length, by omega, h0⟩, fun i m H h => ?_⟩
  have q := hl i H h.2
  rcases Nat.lt_or_ge i xs.length with lt | ge
  · refine .inr ⟨⟨xs, xs[i], q, List.getElem?_eq_getElem lt⟩, Pv (i + 1), fun H' p => ⟨m - 1, by omega, by omega, p⟩, fun x H' y => ?_⟩
    obtain ⟨rfl, y⟩ := y
    exact hs i x _ (y xs q) h.2
  · obtain rfl : i = xs.length := by omega
    exact .inl ⟨⟨xs, q, Nat.le_refl _⟩, hd H h.2⟩
theorem RpAll.three {K : PySem.W.Frag} {H : Hp} {vs : List V} {ds : List PyData} (h : RpAll K H vs ds) (e : ds.length = 3) : ∃ u v y p t z, vs = [u, v, y] ∧ ds = [p, t, z] ∧ Rp K H u p ∧ Rp K H v t ∧ Rp K H y z := by
  cases h with
  | nil => cases e
  | cons h1 h =>
    obtain ⟨_, _, _, _, rfl, rfl, h2, h3⟩ := h.two (by simpa using e)
    exact ⟨_, _, _, _, _, _, rfl, rfl, h1, h2, h3⟩
theorem frmD_not {most : Int} {d : PyData} (z : ¬ tupD 3 3 d = true) : frmD most d = false := by
  unfold frmD
  split
  · exact absurd (show tupD 3 3 _ = true from rfl) z
  · rfl
theorem tabD_not {n : Nat} {most : Int} {d : PyData} (z : ¬ tupD 1 most d = true) : tabD n most d = false := by
  unfold tabD
  split
  · rw [eq_false_of_ne_true z, Bool.false_and]
  · rfl
theorem take_all {α : Type} {f : α → Bool} {ds : List α} {j : Nat} {d : α} (e : ds[j]? = some d) : (ds.take (j + 1)).map f = (ds.take j).map f ++ [f d] := by
  rw [List.take_succ, e, List.map_append]
  rfl
theorem all_map {α : Type} (f : α → Bool) (ds : List α) : (ds.map f).all id = ds.all f := by
  rw [List.all_map]
  rfl
theorem ltrD_str {d : PyData} (h : ltrD d = true) : kindOf d = "str" := by
  cases d with
  | str z => rfl
  | _ => exact absurd h (by simp [ltrD])
def someV : V → Bool
  | .non => false
  | _ => true
theorem someV_eq (x : V) : someV x = !decide (x = .non) := by
  by_cases h : x = .non
  · rw [decide_eq_true h, h]
    rfl
  · rw [decide_eq_false h]
    cases x <;> first | rfl | exact absurd rfl h
theorem some_of {K : PySem.W.Frag} {H : Hp} {x : V} {d : PyData} (h : Rp K H x d) : someV x = someD d := by
  cases h <;> rfl
theorem RpAll.some {K : PySem.W.Frag} {H : Hp} : ∀ {vs : List V} {ds : List PyData}, RpAll K H vs ds → RpAll K H (vs.filter someV) (ds.filter someD)
  | _, _, .nil => .nil
  | _, _, .cons (v := v) (d := d) h t => by
    have e := some_of h
    rw [List.filter_cons, List.filter_cons, e]
    cases someD d
    · exact t.some
    · exact .cons h t.some
def rulD : PyData → Bool
  | .tuple [l, .tuple ss] => ltrD l && (tabD (lenD l) 4 (.tuple ss) && ss.all (wayD (ss.length : Int)))
  | _ => false
def elems : PyData → List PyData
  | .tuple ds => ds
  | _ => []
def keyD : PyData → List Int
  | .tuple [.int p, .int t] => [p, t]
  | _ => []
def chD (many : Int) : PyData → Bool
  | .tuple ds => tupD 1 3 (.tuple ds) && (ds.all (pairD 20 many) && decide ((ds.map keyD).Nodup))
  | _ => false
def plnD : PyData → Bool
  | .tuple [b, l, .tuple ss] => frmD 300 (.tuple [b, l, .tuple ss]) && (ss.flatMap fun st => (elems st).map (pairD ((10 : Int) ^ (30 : Int).toNat) (ss.length : Int))).all id
  | _ => false
def mchD : PyData → Bool
  | .tuple [b, l, .tuple ss] => frmD 4 (.tuple [b, l, .tuple ss]) && (ss.flatMap fun st => (elems st).map (chD (ss.length : Int))).all id
  | _ => false
theorem ltrD_len {d : PyData} (h : ltrD d = true) : lenD d ≤ 3 := by
  cases d with
  | str z =>
    by_cases e : 1 ≤ z.length ∧ z.length ≤ 3
    · exact e.2
    · rw [ltrD, lettersL_not e] at h
      cases h
  | _ => exact absurd h (by simp [ltrD])
theorem rulD_not {d : PyData} (z : ¬ tupD 2 2 d = true) : rulD d = false := by
  unfold rulD
  split
  · exact absurd (show tupD 2 2 _ = true from rfl) z
  · rfl
theorem tabD_tup {n : Nat} {most : Int} {d : PyData} (h : tabD n most d = true) : tupD 1 most d = true ∧ ∀ e ∈ elems d, tupD (n : Int) (n : Int) e = true := by
  cases d with
  | tuple ds =>
    rw [tabD, Bool.and_eq_true, List.all_eq_true] at h
    exact h
  | _ => exact absurd h (by simp [tabD])
theorem flat_len {α β : Type} {g : α → List β} {n : Nat} : ∀ (l : List α), (∀ x ∈ l, (g x).length ≤ n) → (l.flatMap g).length ≤ n * l.length
  | [], _ => by simp
  | x :: l, h => by
    have h1 := h x (.head _)
    have h2 := flat_len l fun y hy => h y (.tail _ hy)
    rw [List.flatMap_cons, List.length_append, List.length_cons, Nat.mul_add, Nat.mul_one]
    omega
theorem take_flat {α β : Type} {g : α → List β} {l : List α} {i : Nat} {x : α} (e : l[i]? = some x) : (l.take (i + 1)).flatMap g = (l.take i).flatMap g ++ g x := by
  rw [List.take_succ, e, List.flatMap_append]
  simp
theorem frm_of {K : PySem.W.Frag} {H : Hp} {x : V} {d : PyData} {most : Int} (h : Rp K H x d) (z : frmD most d = true) : ∃ a u v c b l ss xs, x = .ref a ∧ d = .tuple [b, l, .tuple ss] ∧ SqT K H a [u, v, .ref c] ∧ SqT K H c xs ∧ RpAll K H xs ss ∧ (∀ e ∈ ss, ∃ es, e = .tuple es ∧ es.length ≤ 3) ∧ 1 ≤ ss.length ∧ (ss.length : Int) ≤ most := by
  by_cases y : tupD 3 3 d = true
  · obtain ⟨a, xs, ds, rfl, rfl, hS, hA, l1, l2⟩ := tup_of h y
    obtain ⟨u, v, t, b, l, e, rfl, rfl, hb, hl, he⟩ := hA.three (by omega)
    rw [frmD, Bool.and_eq_true, Bool.and_eq_true] at z
    have ht := tabD_tup z.2.2
    have hlen := ltrD_len z.2.1
    obtain ⟨c, ys, ss, rfl, rfl, hS2, hA2, l3, l4⟩ := tup_of he ht.1
    refine ⟨a, u, v, c, b, l, ss, ys, rfl, rfl, hS, hS2, hA2, fun e he => ?_, by omega, l4⟩
    have := ht.2 e he
    cases e with
    | tuple es =>
      rw [tupD, Bool.and_eq_true, decide_eq_true_eq, decide_eq_true_eq] at this
      exact ⟨es, rfl, by omega⟩
    | _ => exact absurd this (by simp [tupD])
  · rw [frmD_not y] at z
    cases z
theorem plnD_not {d : PyData} (z : ¬ frmD 300 d = true) : plnD d = false := by
  unfold plnD
  split
  · rw [eq_false_of_ne_true z, Bool.false_and]
  · rfl
theorem mchD_not {d : PyData} (z : ¬ frmD 4 d = true) : mchD d = false := by
  unfold mchD
  split
  · rw [eq_false_of_ne_true z, Bool.false_and]
  · rfl
theorem Rp.isTup {K : PySem.W.Frag} {H : Hp} {x : V} {es : List PyData} (h : Rp K H x (.tuple es)) : ∃ a ys, x = .ref a ∧ SqT K H a ys ∧ RpAll K H ys es := by
  cases h with
  | tup h1 h2 => exact ⟨_, _, rfl, h1, h2⟩
theorem chD_not {many : Int} {d : PyData} (z : ¬ tupD 1 3 d = true) : chD many d = false := by
  unfold chD
  split
  · rw [eq_false_of_ne_true z, Bool.false_and]
  · rfl
theorem betD_int {lo hi : Int} {d : PyData} (h : betD lo hi d = true) : ∃ i, d = .int i := by
  cases d with
  | int i => exact ⟨i, rfl⟩
  | _ => exact absurd h (by simp [betD])
theorem Rp.isInt {K : PySem.W.Frag} {H : Hp} {x : V} {i : Int} (h : Rp K H x (.int i)) : x = .int i := by
  cases h
  rfl
theorem pairs_of {K : PySem.W.Frag} {H : Hp} {most many : Int} : ∀ {vs : List V} {ds : List PyData}, RpAll K H vs ds → (∀ e ∈ ds, pairD most many e = true) →
    ∃ ks : List (Addr × List Int), vs = ks.map (fun p => V.ref p.1) ∧ (∀ p ∈ ks, SqT K H p.1 (p.2.map V.int)) ∧ ks.map (·.2) = ds.map keyD
  | _, _, .nil, _ => ⟨[], rfl, fun _ h => (nomatch h), rfl⟩
  | _, _, .cons (d := d) h t, al => by
    obtain ⟨ks, e1, e2, e3⟩ := pairs_of t fun e he => al e (.tail _ he)
    have hd := al d (.head _)
    by_cases z : tupD 2 2 d = true
    · obtain ⟨a, u, v, p, t, rfl, rfl, hS, hp, ht⟩ := h.two z
      rw [pairD, Bool.and_eq_true] at hd
      obtain ⟨i, rfl⟩ := betD_int hd.1
      obtain ⟨j, rfl⟩ := betD_int hd.2
      obtain rfl := hp.isInt
      obtain rfl := ht.isInt
      refine ⟨(a, [i, j]) :: ks, by rw [e1]; rfl, fun p hp => ?_, by rw [List.map_cons, e3]; rfl⟩
      rcases List.mem_cons.mp hp with rfl | hp
      · exact hS
      · exact e2 p hp
    · rw [pairD_not z] at hd
      cases hd
theorem len_seqK {X : Cx} {K : PySem.W.Frag} (e : X.K = K) : CallR X (.builtin "len") (fun xs H Q => ∃ p ys, xs = [.ref p] ∧ (SqL K H p ys ∨ SqT K H p ys) ∧ Q (.int ys.length) H) := by
  subst e
  exact call_len_seq
theorem pi_tupK {X : Cx} {K : PySem.W.Frag} {tg l : Expr} {tl : TE} (e : X.K = K) (h : PE X l tl) : PI X tg l (iTup K tl) := by
  subst e
  exact pi_tup h
structure LookTxt (K : PySem.W.Frag) (mg : Str → Option Value) (m1 m2 m3 m4 m6 m7 m12 : Addr) (n1 n2 n3 n4 n6 n7 n12 : FuncData) (t1 t2 : Tok) : Prop where
  type : mg "type" = none
  int : mg "int" = none
  tuple : mg "tuple" = none
  str : mg "str" = none
  len : mg "len" = none
  all : mg "all" = none
  range : mg "range" = none
  mLetters : mg "MOST_LETTERS" = some (.int 3 t1)
  mStates : mg "MOST_STATES" = some (.int 4 t2)
  FWhole : Fun K "is_whole" "is_whole" sWhole m1 n1
  bWhole : Binds K n1 ["thing"] []
  gWhole : mg "is_whole" = some (.ref m1)
  FBetween : Fun K "is_between" "is_between" sBetween m2 n2
  bBetween : Binds K n2 ["thing", "low", "high"] []
  gBetween : mg "is_between" = some (.ref m2)
  FTuple : Fun K "is_tuple" "is_tuple" sTuple m3 n3
  bTuple : Binds K n3 ["thing", "least", "most"] []
  gTuple : mg "is_tuple" = some (.ref m3)
  FLetters : Fun K "is_letters" "is_letters" sLetters m4 n4
  bLetters : Binds K n4 ["thing"] []
  gLetters : mg "is_letters" = some (.ref m4)
  FTable : Fun K "is_table" "is_table" sTable m7 n7
  bTable : Binds K n7 ["thing", "letters", "most"] []
  gTable : mg "is_table" = some (.ref m7)
/-! ### the promises -/
def spWhole (K : PySem.W.Frag) : Sp := fun vs H Q _ => ∃ x d, vs = [x] ∧ Rp K H x d ∧ Q (.bl (decide (kindOf d = "int"))) H
def spBetween (K : PySem.W.Frag) : Sp := fun vs H Q _ => ∃ x d lo hi, vs = [x, .int lo, .int hi] ∧ Rp K H x d ∧ Q (.bl (betD lo hi d)) H
def spTuple (K : PySem.W.Frag) : Sp := fun vs H Q _ => ∃ x d lo hi, vs = [x, .int lo, .int hi] ∧ Rp K H x d ∧ Q (.bl (tupD lo hi d)) H
def spLetters (K : PySem.W.Frag) : Sp := fun vs H Q _ => ∃ x d, vs = [x] ∧ Rp K H x d ∧ ∀ H', Same H H' → Q (.bl (ltrD d)) H'
def spTable (K : PySem.W.Frag) : Sp := fun vs H Q _ => ∃ x d z most, vs = [x, .str z, .int most] ∧ Rp K H x d ∧ z.length ≤ sizeLine ∧ most < sizeLine ∧ ∀ H', Same H H' → Q (.bl (tabD z.length most d)) H'
def spWayOn (K : PySem.W.Frag) : Sp := fun vs H Q _ => ∃ a xs ds many, vs = [.ref a, .int many] ∧ SqT K H a xs ∧ RpAll K H xs ds ∧ ds.length ≤ 1000 ∧ ∀ H', Same H H' → Q (.bl (wayD many (.tuple ds))) H'
def spRule (K : PySem.W.Frag) : Sp := fun vs H Q _ => ∃ x d, vs = [x] ∧ Rp K H x d ∧ ∀ H', Same H H' → Q (.bl (rulD d)) H'
section
variable {P : Program} {w : World} {K : PySem.W.Frag} {mg : Str → Option Value} {base : Heap} {m1 m2 m3 m4 m6 m7 m12 : Addr} {n1 n2 n3 n4 n6 n7 n12 : FuncData} {t1 t2 : Tok}
theorem ok_whole (T : LookTxt K mg m1 m2 m3 m4 m6 m7 m12 n1 n2 n3 n4 n6 n7 n12 t1 t2) {k : Nat} : FnOk P w K mg base CX0 (k + 1) m1 n1 ["thing"] (spWhole K) := by
  refine T.FWhole.ok scWhole (fun vs H Q E h => ?_) (fun cdv A outer s H vs Q E hr h => ?_)
  · obtain ⟨x, t, rfl, _⟩ := h
    rfl
  · obtain ⟨x, d, rfl, hd, q⟩ := h
    refine ⟨_, (pss_one (ps_ret (pe_cmpR op_eqTy (pe_callTy call_type1 (by rfl) T.type (by decide +kernel) (pa_cons (pv 0) pa_nil)) (pe_bltn (v := .ty "int") (by rfl) T.int (by decide +kernel) rfl) (nomark _)))), ?_⟩
    exact ⟨_, rfl, _, _, rfl, hd.ty, _, _, rfl, rfl, tyB_ty hd.ty, TypeEq.meta_int, q⟩
theorem ok_between (T : LookTxt K mg m1 m2 m3 m4 m6 m7 m12 n1 n2 n3 n4 n6 n7 n12 t1 t2) {k : Nat} : FnOk P w K mg base CX0 (k + 2) m2 n2 ["thing", "low", "high"] (spBetween K) := by
  have GW : FnOk P w K mg base CX0 (k + 1) m1 n1 ["thing"] (spWhole K) := ok_whole T
  refine T.FBetween.ok scBetween (fun vs H Q E h => ?_) (fun cdv A outer s H vs Q E hr h => ?_)
  · obtain ⟨x, t, lo, hi, rfl, _⟩ := h
    rfl
  · obtain ⟨x, d, lo, hi, rfl, hd, q⟩ := h
    refine ⟨_, (pss_one (ps_ret (pe_and (pe_call GW hr (by rfl) T.gWhole T.FWhole.kp T.bWhole .nil pass0 (pa_cons (pv 0) pa_nil)) (pe_one (pe_chain op_le op_le (pv 1) (pv 0) (pv 2)))))), ?_⟩
    refine ⟨_, rfl, x, d, rfl, hd, _, rfl, ?_⟩
    cases hd with
    | int i =>
      refine ite2 (fun _ => ?_) (fun z => absurd (decide_eq_true rfl) z)
      refine ⟨_, rfl, _, rfl, _, _, rfl, rfl, _, rfl, ite2 (fun z => ?_) (fun z => ?_)⟩
      · refine ⟨_, rfl, _, _, rfl, rfl, ?_⟩
        rw [betD, z, Bool.true_and] at q
        exact q
      · rw [betD, eq_false_of_ne_true z, Bool.false_and] at q
        exact q
    | _ => exact ite2 (fun z => absurd (of_decide_eq_true z) (by simp [kindOf])) (fun _ => q)
theorem ok_tuple (T : LookTxt K mg m1 m2 m3 m4 m6 m7 m12 n1 n2 n3 n4 n6 n7 n12 t1 t2) {k : Nat} : FnOk P w K mg base CX0 (k + 1) m3 n3 ["thing", "least", "most"] (spTuple K) := by
  refine T.FTuple.ok scTuple (fun vs H Q E h => ?_) (fun cdv A outer s H vs Q E hr h => ?_)
  · obtain ⟨x, t, lo, hi, rfl, _⟩ := h
    rfl
  · obtain ⟨x, d, lo, hi, rfl, hd, q⟩ := h
    refine ⟨_, (pss_one (ps_ret (pe_and (pe_cmpR op_eqTy (pe_callTy call_type1 (by rfl) T.type (by decide +kernel) (pa_cons (pv 0) pa_nil)) (pe_bltn (v := .ty "tuple") (by rfl) T.tuple (by decide +kernel) rfl) (nomark _)) (pe_one (pe_chain op_le op_le (pv 1) (pe_callB call_len_seq (by rfl) T.len PySem.boot_len (pa_cons (pv 0) pa_nil)) (pv 2)))))), ?_⟩
    refine ⟨_, rfl, _, _, rfl, hd.ty, _, _, rfl, rfl, tyB_ty hd.ty, TypeEq.meta_tuple, _, rfl, ?_⟩
    cases hd with
    | @tup a xs ds h1 h2 =>
      refine ite2 (fun _ => ?_) (fun z => absurd (decide_eq_true rfl) z)
      refine ⟨_, rfl, _, rfl, a, xs, rfl, .inr h1, _, _, rfl, rfl, _, rfl, ?_⟩
      rw [h2.len]
      refine ite2 (fun z => ?_) (fun z => ?_)
      · refine ⟨_, rfl, _, _, rfl, rfl, ?_⟩
        rw [tupD, z, Bool.true_and] at q
        exact q
      · rw [tupD, eq_false_of_ne_true z, Bool.false_and] at q
        exact q
    | _ => exact ite2 (fun z => absurd (of_decide_eq_true z) (by simp [kindOf])) (fun _ => q)
theorem ok_letters (T : LookTxt K mg m1 m2 m3 m4 m6 m7 m12 n1 n2 n3 n4 n6 n7 n12 t1 t2) {k : Nat} : FnOk P w K mg base CX0 (k + 1) m4 n4 ["thing"] (spLetters K) := by
  refine T.FLetters.ok scLetters (fun vs H Q E h => ?_) (fun cdv A outer s H vs Q E hr h => ?_)
  · obtain ⟨x, t, rfl, _⟩ := h
    rfl
  · obtain ⟨x, d, rfl, hd, q⟩ := h
    refine ⟨_, (pss_cons (ps_if (PW.pt (pw_or (pt_cmpR op_neTy (pe_callTy call_type1 (by rfl) T.type (by decide +kernel) (pa_cons (pv 0) pa_nil)) (pe_bltn (v := .ty "str") (by rfl) T.str (by decide +kernel) rfl) (nomark _)) (pw_or1 (pt_not (pt_chain op_le op_le pe_int (pe_callB call_len_str (by rfl) T.len PySem.boot_len (pa_cons (pv 0) pa_nil)) (pe_glob (v := .int 3) (by rfl) T.mLetters ⟨_, rfl⟩)))))) (pss_one (ps_ret pe_bl)) pss_nil)
 (pss_cons (ps_setLc (i := 1) (own := [("at", 2)]) (g := gName 2) (tt := tYes) (by rfl) scLetters.nd rfl rfl (sw_true rfl rfl rfl (by decide +kernel)) (pi_range1 (by rfl) T.range (pa_cons (pe_op op_sub (pe_callB call_len_str (by rfl) T.len PySem.boot_len (pa_cons (pv 0) pa_nil)) pe_int) pa_nil)) (blkOk_by (N := ["thing", "ascending", "at"]) (sc := defScope sLetters) (by decide +kernel)) (fun _ _ _ _ _ => pg_name (i := 2) scLetters.nd rfl (Or.inl rfl)) (fun _ _ _ _ _ => pts_nil) (fun _ _ _ _ _ => (pe_cmpR op_lt_str (pe_ix ix_str (pv 0) (pv 2) (fun _ _ => rfl)) (pe_ix ix_str (pv 0) (pe_op op_add (pv 2) pe_int) (fun _ _ => rfl)) (nomark _))))
 (pss_one (ps_ret (pe_and (pe_callB (cr_all rfl) (by rfl) T.all (by decide +kernel) (pa_cons (pv 1) pa_nil)) (pe_and (pe_cmpR op_le_str pe_str (pe_ix ix_str (pv 0) pe_int (fun _ _ => rfl)) (nomark _)) (pe_one (pe_cmpR op_le_str (pe_ix ix_str (pv 0) (pe_un un_neg pe_int) (fun _ _ => rfl)) pe_str (nomark _))))))))), ?_⟩
    refine ⟨_, rfl, _, _, rfl, hd.ty, _, _, rfl, rfl, tyB_ty hd.ty, TypeEq.meta_str, _, rfl, ?_⟩
    by_cases hk : kindOf d = "str"
    · obtain ⟨z, rfl, rfl, hz⟩ := hd.isStr hk
      refine ite2 (fun y => absurd y (by simp [kindOf])) (fun _ => ?_)
      refine ⟨_, rfl, z, rfl, hz, _, _, rfl, rfl, _, rfl, ?_⟩
      by_cases hl : 1 ≤ z.length ∧ z.length ≤ 3
      · have e1 : (1 : Int) ≤ (z.length : Int) := by omega
        have e3 : (z.length : Int) ≤ 3 := by omega
        refine ite2 (fun _ => ?_) (fun y => absurd (decide_eq_true e1) y)
        refine ⟨_, _, rfl, rfl, _, rfl, ?_⟩
        refine ite2 (fun y => absurd y (by rw [decide_eq_true e3]; decide)) (fun _ => ?_)
        refine ⟨_, rfl, z, rfl, hz, _, _, rfl, rfl, ?_⟩
        refine ⟨_, rfl, by omega, by omega, fun D nD => ?_⟩
        have en : ((z.length : Int) - 1).toNat = z.length - 1 := by omega
        rw [en]
        have ll : z.cps.toList.length = z.length := Array.length_toList
        refine lc_range (lo := 0) (n := z.length - 1) (fun j H' => Same H H' ∧ H' D = some (.lst (((List.range j).map fun i => decide (z.cps.toList.getD i 0 < z.cps.toList.getD (i + 1) 0)).map V.bl))) ⟨same_upd nD, upd_same⟩ ?_ ?_
        · rintro j H' hj ⟨sm, hD⟩
          have a1 := nat_at (l := z.cps.toList) (j := j) (by omega)
          have a2 := nat_at (l := z.cps.toList) (j := j + 1) (by omega)
          refine ⟨rfl, ?_⟩
          refine ⟨_, rfl, _, rfl, z, _, _, rfl, rfl, hz, (by rw [Int.zero_add]; exact atI_nat a1), ?_⟩
          refine ⟨_, rfl, _, rfl, _, _, rfl, rfl, z, _, _, rfl, rfl, hz, (by rw [show (0 + (j : Int)) + 1 = ((j + 1 : Nat) : Int) by omega]; exact atI_nat a2), ?_⟩
          refine ⟨_, _, rfl, rfl, _, hD, ?_, same_new sm nD, ?_⟩
          · rw [List.length_map, List.length_map, List.length_range]
            exact Nat.lt_of_lt_of_le (show j < 3 by omega) (by decide)
          · rw [upd_same, List.range_succ, List.map_append, List.map_append]
            show some (HO.lst (_ ++ [V.bl (decide ([z.cps.toList.getD j 0] < [z.cps.toList.getD (j + 1) 0]))])) = _
            rw [one_lt]
            rfl
        · rintro H' ⟨sm, hD⟩
          have a1 := nat_at (l := z.cps.toList) (j := 0) (by omega)
          have a2 := nat_at (l := z.cps.toList) (j := z.cps.toList.length - 1) (by omega)
          have q1 := q H' sm
          rw [ltrD, letters_eq (by rw [ll]; exact hl), ll] at q1
          refine ⟨_, rfl, D, _, rfl, SqL.of hD, _, rfl, ite2 (fun y => ?_) (fun y => ?_)⟩
          · rw [y, Bool.true_and] at q1
            refine ⟨_, rfl, z, 0, _, rfl, rfl, hz, atI_nat (j := 0) a1, _, _, rfl, rfl, _, rfl, ite2 (fun u => ?_) (fun u => ?_)⟩
            · refine ⟨_, rfl, _, rfl, z, _, _, rfl, rfl, hz, (atI_last (by omega)).trans a2, _, _, rfl, rfl, ?_⟩
              rw [show (!decide ([z.cps.toList.getD 0 0] < [97])) = true from u, Bool.true_and] at q1
              rw [ll]
              exact q1
            · rw [show (!decide ([z.cps.toList.getD 0 0] < [97])) = false from eq_false_of_ne_true u, Bool.false_and] at q1
              exact q1
          · rw [eq_false_of_ne_true y, Bool.false_and] at q1
            exact q1
      · have q0 := q H (Same.refl H)
        rw [ltrD, lettersL_not hl] at q0
        refine ite2 (fun y => ?_) (fun y => ?_)
        · refine ⟨_, _, rfl, rfl, _, rfl, ?_⟩
          refine ite2 (fun _ => q0) (fun z3 => absurd ?_ z3)
          have y1 := of_decide_eq_true y
          rw [decide_eq_false (by omega)]
          rfl
        · exact ⟨_, rfl, ite2 (fun _ => q0) (fun u => absurd rfl u)⟩
    · refine ite2 (fun _ => ?_) (fun y => absurd (by rw [decide_eq_false hk]; rfl) y)
      have q0 := q H (Same.refl H)
      rw [ltrD_not hk] at q0
      exact q0
theorem ok_table (T : LookTxt K mg m1 m2 m3 m4 m6 m7 m12 n1 n2 n3 n4 n6 n7 n12 t1 t2) {k : Nat} : FnOk P w K mg base CX0 (k + 2) m7 n7 ["thing", "letters", "most"] (spTable K) := by
  have GT : FnOk P w K mg base CX0 (k + 1) m3 n3 ["thing", "least", "most"] (spTuple K) := ok_tuple T
  refine T.FTable.ok scTable (fun vs H Q E h => ?_) (fun cdv A outer s H vs Q E hr h => ?_)
  · obtain ⟨x, d, z, most, rfl, _⟩ := h
    rfl
  · obtain ⟨x, d, z, most, rfl, hd, hz, hm, q⟩ := h
    refine ⟨_, (pss_cons (ps_if (pt_not (pt_val (pe_call GT hr (by rfl) T.gTuple T.FTuple.kp T.bTuple .nil pass0 (pa_cons (pv 0) (pa_cons pe_int (pa_cons (pv 2) pa_nil)))))) (pss_one (ps_ret pe_bl)) pss_nil)
 (pss_one (ps_ret (pe_callB (cr_all rfl) (by rfl) T.all (by decide +kernel) (pa_cons (pe_lc (own := [("state", 3)]) (g := gName 3) (tt := tYes) (by rfl) scTable.nd (pi_tup (pv 0)) (blkOk_by (N := ["thing", "letters", "most", "state"]) (sc := defScope sTable) (by decide +kernel)) (fun _ _ _ _ _ => pg_name (i := 3) scTable.nd rfl (Or.inl rfl)) (fun _ _ _ _ _ => pts_nil) (fun _ _ _ _ _ => (pe_call GT hr (by rfl) T.gTuple T.FTuple.kp T.bTuple .nil pass0 (pa_cons (pv 3) (pa_cons (pe_callB call_len_str (by rfl) T.len PySem.boot_len (pa_cons (pv 1) pa_nil)) (pa_cons (pe_callB call_len_str (by rfl) T.len PySem.boot_len (pa_cons (pv 1) pa_nil)) pa_nil)))))) pa_nil))))), ?_⟩
    refine ⟨_, rfl, _, rfl, x, d, 1, most, rfl, hd, ?_⟩
    by_cases y : tupD 1 most d = true
    · obtain ⟨a, xs, ds, rfl, rfl, hS, hA, l1, l2⟩ := tup_of hd y
      refine ⟨_, rfl, ite2 (fun u => absurd u (by rw [y]; decide)) (fun _ => ?_)⟩
      refine ⟨_, rfl, a, rfl, ⟨xs, hS⟩, fun D nD => ?_⟩
      refine lc_tupO (xs := xs) (fun j H' => Same H H' ∧ H' D = some (.lst (((ds.take j).map (tupD (z.length : Int) (z.length : Int))).map V.bl))) ⟨same_upd nD, upd_same⟩ (fun i H' h => same_tup h.1 hS) ?_ ?_
      · rintro i u H' hu ⟨sm, hD⟩
        obtain ⟨e, he, re⟩ := hA.at hu
        refine ⟨rfl, ?_⟩
        refine ⟨_, rfl, _, rfl, z, rfl, hz, _, rfl, z, rfl, hz, u, e, _, _, rfl, re.go sm, _, hD, ?_, same_new sm nD, ?_⟩
        · rw [List.length_map, List.length_map]
          have := List.length_take_le' i ds
          omega
        · rw [upd_same, take_all he, List.map_append]
          rfl
      · rintro H' ⟨sm, hD⟩
        have q1 := q H' sm
        refine ⟨D, _, rfl, SqL.of hD, ?_⟩
        rw [hA.len, List.take_length, all_map]
        rw [tabD, y, Bool.true_and] at q1
        exact q1
    · refine ⟨_, rfl, ite2 (fun _ => ?_) (fun u => absurd (by rw [eq_false_of_ne_true y]; rfl) u)⟩
      have q1 := q H (Same.refl H)
      rw [tabD_not y] at q1
      exact q1
end
end My
/-! ### machines -/
namespace My
open PySem PySem.Spec PyProof.Rows L2
abbrev sPair : Stmt := topS 31
abbrev sFrame : Stmt := topS 28
abbrev sChoice : Stmt := topS 30
abbrev sMachine : Stmt := topS 23
abbrev sPlain : Stmt := topS 24
theorem scPair : FnScope ["thing", "most", "many", "pay", "state"] ["thing", "most", "many"] (defScope sPair) := ⟨rfl, rfl, rfl, by decide +kernel, rfl, by decide +kernel, by decide +kernel⟩
theorem scFrame : FnScope ["thing", "most", "base", "letters", "states"] ["thing", "most"] (defScope sFrame) := ⟨rfl, rfl, rfl, by decide +kernel, rfl, by decide +kernel, by decide +kernel⟩
theorem scChoice : FnScope ["thing", "many", "pair"] ["thing", "many"] (defScope sChoice) := ⟨rfl, rfl, rfl, by decide +kernel, rfl, by decide +kernel, by decide +kernel⟩
theorem scMachine : FnScope ["thing", "states", "state", "choice"] ["thing"] (defScope sMachine) := ⟨rfl, rfl, rfl, by decide +kernel, rfl, by decide +kernel, by decide +kernel⟩
theorem scPlain : FnScope ["thing", "states", "state", "pair"] ["thing"] (defScope sPlain) := ⟨rfl, rfl, rfl, by decide +kernel, rfl, by decide +kernel, by decide +kernel⟩
structure MachTxt (K : PySem.W.Frag) (mg : Str → Option Value) (m1 m2 m3 m4 m5 m6 m7 m8 m9 m10 m11 m12 : Addr) (n1 n2 n3 n4 n5 n6 n7 n8 n9 n10 n11 n12 : FuncData) (t1 t2 t3 t4 t5 : Tok) : Prop where
  look : LookTxt K mg m1 m2 m3 m4 m6 m7 m12 n1 n2 n3 n4 n6 n7 n12 t1 t2
  set : mg "set" = none
  mPlain : mg "MOST_PLAIN_STATES" = some (.int 300 t3)
  mWide : ∃ t, mg "MOST_PLAIN_PAY" = some (.int ((10 : Int) ^ (30 : Int).toNat) t)
  mPairs : mg "MOST_PAIRS" = some (.int 3 t4)
  mPay : mg "MOST_PAY" = some (.int 20 t5)
  FPair : Fun K "is_pair" "is_pair" sPair m5 n5
  bPair : Binds K n5 ["thing", "most", "many"] []
  gPair : mg "is_pair" = some (.ref m5)
  FFrame : Fun K "is_frame" "is_frame" sFrame m8 n8
  bFrame : Binds K n8 ["thing", "most"] []
  gFrame : mg "is_frame" = some (.ref m8)
  FChoice : Fun K "is_choice" "is_choice" sChoice m9 n9
  bChoice : Binds K n9 ["thing", "many"] []
  gChoice : mg "is_choice" = some (.ref m9)
  FMachine : Fun K "is_machine" "is_machine" sMachine m10 n10
  bMachine : Binds K n10 ["thing"] []
  gMachine : mg "is_machine" = some (.ref m10)
  FPlain : Fun K "is_plain" "is_plain" sPlain m11 n11
  bPlain : Binds K n11 ["thing"] []
  gPlain : mg "is_plain" = some (.ref m11)
/-! ### the promises -/
def spPair (K : PySem.W.Frag) : Sp := fun vs H Q _ => ∃ x d most many, vs = [x, .int most, .int many] ∧ Rp K H x d ∧ Q (.bl (pairD most many d)) H
def spFrame (K : PySem.W.Frag) : Sp := fun vs H Q _ => ∃ x d most, vs = [x, .int most] ∧ Rp K H x d ∧ most < sizeLine ∧ ∀ H', Same H H' → Q (.bl (frmD most d)) H'
def spChoice (K : PySem.W.Frag) : Sp := fun vs H Q _ => ∃ x d many, vs = [x, .int many] ∧ Rp K H x d ∧ ∀ H', Same H H' → Q (.bl (chD many d)) H'
def spPlain (K : PySem.W.Frag) : Sp := fun vs H Q _ => ∃ x d, vs = [x] ∧ Rp K H x d ∧ ∀ H', Same H H' → Q (.bl (plnD d)) H'
def spMachine (K : PySem.W.Frag) : Sp := fun vs H Q _ => ∃ x d, vs = [x] ∧ Rp K H x d ∧ ∀ H', Same H H' → Q (.bl (mchD d)) H'
section
variable {P : Program} {w : World} {K : PySem.W.Frag} {mg : Str → Option Value} {base : Heap} {m1 m2 m3 m4 m5 m6 m7 m8 m9 m10 m11 m12 : Addr} {n1 n2 n3 n4 n5 n6 n7 n8 n9 n10 n11 n12 : FuncData} {t1 t2 t3 t4 t5 : Tok}
theorem ok_pair (T : MachTxt K mg m1 m2 m3 m4 m5 m6 m7 m8 m9 m10 m11 m12 n1 n2 n3 n4 n5 n6 n7 n8 n9 n10 n11 n12 t1 t2 t3 t4 t5) {k : Nat} : FnOk P w K mg base CX0 (k + 3) m5 n5 ["thing", "most", "many"] (spPair K) := by
  have GB : FnOk P w K mg base CX0 (k + 2) m2 n2 ["thing", "low", "high"] (spBetween K) := ok_between T.look
  have GT : FnOk P w K mg base CX0 (k + 2) m3 n3 ["thing", "least", "most"] (spTuple K) := ok_tuple T.look
  refine T.FPair.ok scPair (fun vs H Q E h => ?_) (fun cdv A outer s H vs Q E hr h => ?_)
  · obtain ⟨x, t, lo, hi, rfl, _⟩ := h
    rfl
  · obtain ⟨x, d, most, many, rfl, hd, q⟩ := h
    refine ⟨_, (pss_cons (ps_if (pt_not (pt_val (pe_call GT hr (by rfl) T.look.gTuple T.look.FTuple.kp T.look.bTuple .nil pass0 (pa_cons (pv 0) (pa_cons pe_int (pa_cons pe_int pa_nil)))))) (pss_one (ps_ret pe_bl)) pss_nil)
 (pss_cons (ps_asg (pv 0) (pg_tup rfl (pgs_cons (pg_name (i := 3) scPair.nd rfl (.inl rfl)) (pgs_cons (pg_name (i := 4) scPair.nd rfl (.inl rfl)) pgs_nil))))
 (pss_one (ps_ret (pe_and (pe_call GB hr (by rfl) T.look.gBetween T.look.FBetween.kp T.look.bBetween .nil pass0 (pa_cons (pv 3) (pa_cons (pe_un un_neg (pv 1)) (pa_cons (pv 1) pa_nil)))) (pe_one (pe_call GB hr (by rfl) T.look.gBetween T.look.FBetween.kp T.look.bBetween .nil pass0 (pa_cons (pv 4) (pa_cons pe_int (pa_cons (pe_op op_sub (pv 2) pe_int) pa_nil)))))))))), ?_⟩
    refine ⟨_, rfl, x, d, 2, 2, rfl, hd, ?_⟩
    by_cases z : tupD 2 2 d = true
    · obtain ⟨a, u, v, p, t, rfl, rfl, hS, hp, ht⟩ := hd.two z
      refine ⟨_, rfl, ite2 (fun y => absurd y (by rw [z]; decide)) (fun _ => ?_)⟩
      refine ⟨_, rfl, a, _, rfl, hS, rfl, u, [v], rfl, v, [], rfl, rfl, ?_⟩
      refine ⟨_, rfl, _, rfl, _, rfl, _, rfl, u, p, _, _, rfl, hp, _, rfl, ?_⟩
      refine ite2 (fun y => ?_) (fun y => ?_)
      · refine ⟨_, rfl, _, rfl, _, _, rfl, rfl, v, t, _, _, rfl, ht, ?_⟩
        rw [pairD, y, Bool.true_and] at q
        exact q
      · rw [pairD, eq_false_of_ne_true y, Bool.false_and] at q
        exact q
    · refine ⟨_, rfl, ite2 (fun _ => ?_) (fun y => absurd (by rw [eq_false_of_ne_true z]; rfl) y)⟩
      rw [pairD_not z] at q
      exact q
theorem ok_frame (T : MachTxt K mg m1 m2 m3 m4 m5 m6 m7 m8 m9 m10 m11 m12 n1 n2 n3 n4 n5 n6 n7 n8 n9 n10 n11 n12 t1 t2 t3 t4 t5) {k : Nat} : FnOk P w K mg base CX0 (k + 3) m8 n8 ["thing", "most"] (spFrame K) := by
  have GT : FnOk P w K mg base CX0 (k + 2) m3 n3 ["thing", "least", "most"] (spTuple K) := ok_tuple T.look
  have GB : FnOk P w K mg base CX0 (k + 2) m2 n2 ["thing", "low", "high"] (spBetween K) := ok_between T.look
  have GL : FnOk P w K mg base CX0 (k + 2) m4 n4 ["thing"] (spLetters K) := ok_letters T.look
  have GA : FnOk P w K mg base CX0 (k + 2) m7 n7 ["thing", "letters", "most"] (spTable K) := ok_table T.look
  refine T.FFrame.ok scFrame (fun vs H Q E h => ?_) (fun cdv A outer s H vs Q E hr h => ?_)
  · obtain ⟨x, d, most, rfl, _⟩ := h
    rfl
  · obtain ⟨x, d, most, rfl, hd, hm, q⟩ := h
    refine ⟨_, (pss_cons (ps_if (pt_not (pt_val (pe_call GT hr (by rfl) T.look.gTuple T.look.FTuple.kp T.look.bTuple .nil pass0 (pa_cons (pv 0) (pa_cons pe_int (pa_cons pe_int pa_nil)))))) (pss_one (ps_ret pe_bl)) pss_nil)
 (pss_cons (ps_asg (pv 0) (pg_tup rfl (pgs_cons (pg_name (i := 2) scFrame.nd rfl (.inl rfl)) (pgs_cons (pg_name (i := 3) scFrame.nd rfl (.inl rfl)) (pgs_cons (pg_name (i := 4) scFrame.nd rfl (.inl rfl)) pgs_nil)))))
 (pss_one (ps_ret (pe_and (pe_call GB hr (by rfl) T.look.gBetween T.look.FBetween.kp T.look.bBetween .nil pass0 (pa_cons (pv 2) (pa_cons pe_int (pa_cons pe_int pa_nil)))) (pe_and (pe_call GL hr (by rfl) T.look.gLetters T.look.FLetters.kp T.look.bLetters .nil pass0 (pa_cons (pv 3) pa_nil)) (pe_one (pe_call GA hr (by rfl) T.look.gTable T.look.FTable.kp T.look.bTable .nil pass0 (pa_cons (pv 4) (pa_cons (pv 3) (pa_cons (pv 1) pa_nil))))))))))), ?_⟩
    refine ⟨_, rfl, x, d, 3, 3, rfl, hd, ?_⟩
    by_cases y : tupD 3 3 d = true
    · obtain ⟨a, xs, ds, rfl, rfl, hS, hA, l1, l2⟩ := tup_of hd y
      obtain ⟨u, v, t, b, l, e, rfl, rfl, hb, hl, he⟩ := hA.three (by omega)
      refine ⟨_, rfl, ite2 (fun u => absurd u (by rw [y]; decide)) (fun _ => ?_)⟩
      refine ⟨_, rfl, a, _, rfl, hS, rfl, u, [v, t], rfl, v, [t], rfl, t, [], rfl, rfl, ?_⟩
      refine ⟨_, rfl, u, b, _, _, rfl, hb, _, rfl, ite2 (fun z => ?_) (fun z => ?_)⟩
      · refine ⟨_, rfl, v, l, rfl, hl, fun H1 s1 => ⟨_, rfl, ite2 (fun zl => ?_) (fun zl => ?_)⟩⟩
        · obtain ⟨w1, rfl, rfl, hw⟩ := hl.isStr (ltrD_str zl)
          refine ⟨_, rfl, _, rfl, _, rfl, t, e, w1, most, rfl, he.go s1, hw, hm, fun H2 s2 => ?_⟩
          have q1 := q H2 (s1.trans s2)
          rw [frmD, z, zl, Bool.true_and, Bool.true_and] at q1
          exact q1
        · have q1 := q H1 s1
          rw [frmD, eq_false_of_ne_true zl, Bool.false_and, Bool.and_false] at q1
          exact q1
      · have q1 := q H (Same.refl H)
        rw [frmD, eq_false_of_ne_true z, Bool.false_and] at q1
        exact q1
    · refine ⟨_, rfl, ite2 (fun _ => ?_) (fun u => absurd (by rw [eq_false_of_ne_true y]; rfl) u)⟩
      have q1 := q H (Same.refl H)
      rw [frmD_not y] at q1
      exact q1
theorem ok_plain (T : MachTxt K mg m1 m2 m3 m4 m5 m6 m7 m8 m9 m10 m11 m12 n1 n2 n3 n4 n5 n6 n7 n8 n9 n10 n11 n12 t1 t2 t3 t4 t5) {k : Nat} : FnOk P w K mg base CX0 (k + 4) m11 n11 ["thing"] (spPlain K) := by
  have GF : FnOk P w K mg base CX0 (k + 3) m8 n8 ["thing", "most"] (spFrame K) := ok_frame T
  have GP : FnOk P w K mg base CX0 (k + 3) m5 n5 ["thing", "most", "many"] (spPair K) := ok_pair T
  refine T.FPlain.ok scPlain (fun vs H Q E h => ?_) (fun cdv A outer s H vs Q E hr h => ?_)
  · obtain ⟨x, d, rfl, _⟩ := h
    rfl
  · obtain ⟨x, d, rfl, hd, q⟩ := h
    obtain ⟨tW, hWide⟩ := T.mWide
    refine ⟨_, (pss_cons (ps_if (pt_not (pt_val (pe_call GF hr (by rfl) T.gFrame T.FFrame.kp T.bFrame .nil pass0 (pa_cons (pv 0) (pa_cons (pe_glob (v := .int 300) (by rfl) T.mPlain ⟨_, rfl⟩) pa_nil))))) (pss_one (ps_ret pe_bl)) pss_nil)
 (pss_cons (ps_set (i := 1) scPlain.nd rfl (.inr rfl) (pe_ix ix_tup (pv 0) pe_int (fun _ _ => rfl)))
 (pss_one (ps_ret (pe_callB (cr_all rfl) (by rfl) T.look.all (by decide +kernel) (pa_cons (pe_lc2 (own := [("state", 2), ("pair", 3)]) (vs1 := [3]) (g := gName 2) (g1 := gName 3) (tt := tYes) (tt1 := tYes) (by rfl) scPlain.nd (pi_tup (pv 1)) (blkOk_by (N := ["thing", "states", "state", "pair"]) (sc := defScope sPlain) (by decide +kernel)) (by decide) (fun _ _ _ _ _ => pg_name (i := 2) scPlain.nd rfl (Or.inl rfl)) (fun _ _ _ _ _ => pts_nil) (fun _ _ _ _ _ => (pi_tupK (K := K) rfl (pv 2))) (fun _ _ _ _ _ => pg_name (i := 3) scPlain.nd rfl (Or.inl rfl)) (fun _ _ _ _ _ => pts_nil) (fun _ _ _ _ _ => (pe_call GP hr (by rfl) T.gPair T.FPair.kp T.bPair .nil pass0 (pa_cons (pv 3) (pa_cons (pe_glob (v := .int ((10 : Int) ^ (30 : Int).toNat)) (by rfl) hWide ⟨_, rfl⟩) (pa_cons (pe_callB (len_seqK (K := K) rfl) (by rfl) T.look.len PySem.boot_len (pa_cons (pv 1) pa_nil)) pa_nil)))))) pa_nil)))))), ?_⟩
    refine ⟨_, rfl, x, d, 300, rfl, hd, (by decide), fun H1 s1 => ⟨_, rfl, ?_⟩⟩
    by_cases y : frmD 300 d = true
    · refine ite2 (fun u => absurd u (by rw [y]; decide)) (fun _ => ?_)
      obtain ⟨a, u, v, c, b, l, ss, xs, rfl, rfl, hS, hS2, hA, hall, hl1, hl2⟩ := frm_of hd y
      refine ⟨_, rfl, _, _, 2, _, rfl, rfl, same_tup s1 hS, rfl, ?_⟩
      have sS := same_tup s1 hS2
      have ln := hA.len
      refine ⟨_, rfl, c, rfl, ⟨xs, sS⟩, fun D nD => ?_⟩
      refine lc_tupO (xs := xs) (fun i H' => Same H1 H' ∧ H' D = some (.lst (((ss.take i).flatMap fun st => (elems st).map (pairD ((10 : Int) ^ (30 : Int).toNat) (ss.length : Int))).map V.bl))) ⟨same_upd nD, upd_same⟩ (fun i H' h => same_tup h.1 sS) ?_ ?_
      · rintro i u2 H' hu ⟨sm, hD⟩
        obtain ⟨e, he, re⟩ := hA.at hu
        obtain ⟨es, rfl, le⟩ := hall e (List.mem_of_getElem? he)
        obtain ⟨a2, ys, rfl, hS3, hA3⟩ := re.isTup
        have s13 := s1.trans sm
        refine ⟨rfl, ?_⟩
        refine ⟨_, rfl, a2, rfl, ⟨ys, same_tup s13 hS3⟩, ?_⟩
        refine lc_tupO (xs := ys) (fun j H2 => Same H1 H2 ∧ H2 D = some (.lst ((((ss.take i).flatMap fun st => (elems st).map (pairD ((10 : Int) ^ (30 : Int).toNat) (ss.length : Int))) ++ (es.take j).map (pairD ((10 : Int) ^ (30 : Int).toNat) (ss.length : Int))).map V.bl))) ⟨sm, by rw [hD]; simp⟩ (fun j H2 h => same_tup (s1.trans h.1) hS3) ?_ ?_
        · rintro j u3 H2 hu3 ⟨sm2, hD2⟩
          obtain ⟨e3, he3, re3⟩ := hA3.at hu3
          have bound : ((((ss.take i).flatMap fun st => (elems st).map (pairD ((10 : Int) ^ (30 : Int).toNat) (ss.length : Int))) ++ (es.take j).map (pairD ((10 : Int) ^ (30 : Int).toNat) (ss.length : Int))).map V.bl).length < sizeLine := by
            have h1 := flat_len (g := fun st => (elems st).map (pairD ((10 : Int) ^ (30 : Int).toNat) (ss.length : Int))) (n := 3) (ss.take i) fun x hx => by
              obtain ⟨es', rfl, le'⟩ := hall x (List.mem_of_mem_take hx)
              rw [List.length_map]
              exact le'
            have h2 := List.length_take_le' i ss
            have h3 := List.length_take_le' j es
            rw [List.length_map, List.length_append, List.length_map]
            exact Nat.lt_of_le_of_lt (show _ ≤ 1000 by omega) (by decide)
          refine ⟨rfl, ?_⟩
          refine ⟨_, rfl, _, rfl, c, xs, rfl, .inr (same_tup sm2 sS), u3, e3, _, _, rfl, re3.go (s1.trans sm2), _, hD2, bound, same_new sm2 nD, ?_⟩
          rw [upd_same, take_all he3, ln]
          simp only [List.map_append, List.map_cons, List.map_nil, List.append_assoc]
        · rintro H2 ⟨sm2, hD2⟩
          refine ⟨sm2, ?_⟩
          rw [hD2, hA3.len, List.take_length, take_flat he]
          rfl
      · rintro H' ⟨sm, hD⟩
        have q1 := q H' (s1.trans sm)
        refine ⟨D, _, rfl, SqL.of hD, ?_⟩
        rw [ln, List.take_length]
        rw [plnD, y, Bool.true_and] at q1
        exact q1
    · refine ite2 (fun _ => ?_) (fun u => absurd (by rw [eq_false_of_ne_true y]; rfl) u)
      have q1 := q H1 s1
      rw [plnD_not y] at q1
      exact q1
theorem ok_choice (T : MachTxt K mg m1 m2 m3 m4 m5 m6 m7 m8 m9 m10 m11 m12 n1 n2 n3 n4 n5 n6 n7 n8 n9 n10 n11 n12 t1 t2 t3 t4 t5) {k : Nat} : FnOk P w K mg base CX0 (k + 4) m9 n9 ["thing", "many"] (spChoice K) := by
  have GT : FnOk P w K mg base CX0 (k + 3) m3 n3 ["thing", "least", "most"] (spTuple K) := ok_tuple T.look
  have GP : FnOk P w K mg base CX0 (k + 3) m5 n5 ["thing", "most", "many"] (spPair K) := ok_pair T
  refine T.FChoice.ok scChoice (fun vs H Q E h => ?_) (fun cdv A outer s H vs Q E hr h => ?_)
  · obtain ⟨x, d, many, rfl, _⟩ := h
    rfl
  · obtain ⟨x, d, many, rfl, hd, q⟩ := h
    have hu : (A.deeper (envOfC "is_choice" (defScope sChoice) s.heap.objs.size m9 cdv)).units + 64 < cLine := by have := hr.un; omega
    refine ⟨_, (pss_cons (ps_if (pt_not (pt_val (pe_call GT hr (by rfl) T.look.gTuple T.look.FTuple.kp T.look.bTuple .nil pass0 (pa_cons (pv 0) (pa_cons pe_int (pa_cons (pe_glob (v := .int 3) (by rfl) T.mPairs ⟨_, rfl⟩) pa_nil)))))) (pss_one (ps_ret pe_bl)) pss_nil)
 (pss_one (ps_ret (pe_and (pe_callB (cr_all rfl) (by rfl) T.look.all (by decide +kernel) (pa_cons (pe_lc (own := [("pair", 2)]) (g := gName 2) (tt := tYes) (by rfl) scChoice.nd (pi_tup (pv 0)) (blkOk_by (N := ["thing", "many", "pair"]) (sc := defScope sChoice) (by decide +kernel)) (fun _ _ _ _ _ => pg_name (i := 2) scChoice.nd rfl (Or.inl rfl)) (fun _ _ _ _ _ => pts_nil) (fun _ _ _ _ _ => (pe_call GP hr (by rfl) T.gPair T.FPair.kp T.bPair .nil pass0 (pa_cons (pv 2) (pa_cons (pe_glob (v := .int 20) (by rfl) T.mPay ⟨_, rfl⟩) (pa_cons (pv 1) pa_nil)))))) pa_nil)) (pe_one (pe_cmpR op_eq (pe_lenSetT rfl hu (by rfl) T.look.len (by rfl) T.set (pv 0)) (pe_callB call_len_seq (by rfl) T.look.len PySem.boot_len (pa_cons (pv 0) pa_nil)) (nomark _))))))), ?_⟩
    refine ⟨_, rfl, x, d, 1, 3, rfl, hd, _, rfl, ?_⟩
    by_cases y : tupD 1 3 d = true
    · refine ite2 (fun u => absurd u (by rw [y]; decide)) (fun _ => ?_)
      obtain ⟨a, xs, ds, rfl, rfl, hS, hA, l1, l2⟩ := tup_of hd y
      have ln := hA.len
      refine ⟨_, rfl, a, rfl, ⟨xs, hS⟩, fun D nD => ?_⟩
      refine lc_tupO (xs := xs) (fun j H' => Same H H' ∧ H' D = some (.lst (((ds.take j).map (pairD 20 many)).map V.bl))) ⟨same_upd nD, upd_same⟩ (fun i H' h => same_tup h.1 hS) ?_ ?_
      · rintro i u H' hu ⟨sm, hD⟩
        obtain ⟨e, he, re⟩ := hA.at hu
        refine ⟨rfl, ?_⟩
        refine ⟨_, rfl, _, rfl, u, e, _, _, rfl, re.go sm, _, hD, ?_, same_new sm nD, ?_⟩
        · rw [List.length_map, List.length_map]
          have := List.length_take_le' i ds
          exact Nat.lt_of_le_of_lt (show _ ≤ 1000 by omega) (by decide)
        · rw [upd_same, take_all he, List.map_append]
          rfl
      · rintro H' ⟨sm, hD⟩
        have q1 := q H' sm
        rw [chD, y, Bool.true_and] at q1
        refine ⟨D, _, rfl, SqL.of hD, _, rfl, ?_⟩
        rw [ln, List.take_length, all_map]
        refine ite2 (fun z => ?_) (fun z => ?_)
        · rw [z, Bool.true_and] at q1
          obtain ⟨ks, rfl, hk, ek⟩ := pairs_of hA fun e he => List.all_eq_true.mp z e he
          have sS := same_tup sm hS
          rw [List.length_map] at ln
          refine ⟨_, rfl, a, ks, rfl, sS, fun p hp => same_tup sm (hk p hp), by omega, fun n hn => ?_⟩
          refine ⟨_, rfl, a, _, rfl, .inr sS, rfl, ?_⟩
          rw [List.length_map]
          rw [ek] at hn
          by_cases nd : (ds.map keyD).Nodup
          · rw [decide_eq_true nd] at q1
            rw [hn.mpr nd, decide_eq_true rfl]
            exact q1
          · rw [decide_eq_false nd] at q1
            rw [decide_eq_false (fun e => nd (hn.mp (by have := V.int.inj e; omega)))]
            exact q1
        · rw [eq_false_of_ne_true z, Bool.false_and] at q1
          exact q1
    · refine ite2 (fun _ => ?_) (fun u => absurd (by rw [eq_false_of_ne_true y]; rfl) u)
      have q1 := q H (Same.refl H)
      rw [chD_not y] at q1
      exact q1
theorem ok_machine (T : MachTxt K mg m1 m2 m3 m4 m5 m6 m7 m8 m9 m10 m11 m12 n1 n2 n3 n4 n5 n6 n7 n8 n9 n10 n11 n12 t1 t2 t3 t4 t5) {k : Nat} : FnOk P w K mg base CX0 (k + 5) m10 n10 ["thing"] (spMachine K) := by
  have GF : FnOk P w K mg base CX0 (k + 4) m8 n8 ["thing", "most"] (spFrame K) := ok_frame T
  have GC : FnOk P w K mg base CX0 (k + 4) m9 n9 ["thing", "many"] (spChoice K) := ok_choice T
  refine T.FMachine.ok scMachine (fun vs H Q E h => ?_) (fun cdv A outer s H vs Q E hr h => ?_)
  · obtain ⟨x, d, rfl, _⟩ := h
    rfl
  · obtain ⟨x, d, rfl, hd, q⟩ := h
    refine ⟨_, (pss_cons (ps_if (pt_not (pt_val (pe_call GF hr (by rfl) T.gFrame T.FFrame.kp T.bFrame .nil pass0 (pa_cons (pv 0) (pa_cons (pe_glob (v := .int 4) (by rfl) T.look.mStates ⟨_, rfl⟩) pa_nil))))) (pss_one (ps_ret pe_bl)) pss_nil)
 (pss_cons (ps_set (i := 1) scMachine.nd rfl (.inr rfl) (pe_ix ix_tup (pv 0) pe_int (fun _ _ => rfl)))
 (pss_one (ps_ret (pe_callB (cr_all rfl) (by rfl) T.look.all (by decide +kernel) (pa_cons (pe_lc2 (own := [("state", 2), ("choice", 3)]) (vs1 := [3]) (g := gName 2) (g1 := gName 3) (tt := tYes) (tt1 := tYes) (by rfl) scMachine.nd (pi_tup (pv 1)) (blkOk_by (N := ["thing", "states", "state", "choice"]) (sc := defScope sMachine) (by decide +kernel)) (by decide) (fun _ _ _ _ _ => pg_name (i := 2) scMachine.nd rfl (Or.inl rfl)) (fun _ _ _ _ _ => pts_nil) (fun _ _ _ _ _ => (pi_tupK (K := K) rfl (pv 2))) (fun _ _ _ _ _ => pg_name (i := 3) scMachine.nd rfl (Or.inl rfl)) (fun _ _ _ _ _ => pts_nil) (fun _ _ _ _ _ => (pe_call GC hr (by rfl) T.gChoice T.FChoice.kp T.bChoice .nil pass0 (pa_cons (pv 3) (pa_cons (pe_callB (len_seqK (K := K) rfl) (by rfl) T.look.len PySem.boot_len (pa_cons (pv 1) pa_nil)) pa_nil))))) pa_nil)))))), ?_⟩
    refine ⟨_, rfl, x, d, 4, rfl, hd, (by decide), fun H1 s1 => ⟨_, rfl, ?_⟩⟩
    by_cases y : frmD 4 d = true
    · refine ite2 (fun u => absurd u (by rw [y]; decide)) (fun _ => ?_)
      obtain ⟨a, u, v, c, b, l, ss, xs, rfl, rfl, hS, hS2, hA, hall, hl1, hl2⟩ := frm_of hd y
      refine ⟨_, rfl, _, _, 2, _, rfl, rfl, same_tup s1 hS, rfl, ?_⟩
      have sS := same_tup s1 hS2
      have ln := hA.len
      refine ⟨_, rfl, c, rfl, ⟨xs, sS⟩, fun D nD => ?_⟩
      refine lc_tupO (xs := xs) (fun i H' => Same H1 H' ∧ H' D = some (.lst (((ss.take i).flatMap fun st => (elems st).map (chD (ss.length : Int))).map V.bl))) ⟨same_upd nD, upd_same⟩ (fun i H' h => same_tup h.1 sS) ?_ ?_
      · rintro i u2 H' hu ⟨sm, hD⟩
        obtain ⟨e, he, re⟩ := hA.at hu
        obtain ⟨es, rfl, le⟩ := hall e (List.mem_of_getElem? he)
        obtain ⟨a2, ys, rfl, hS3, hA3⟩ := re.isTup
        have s13 := s1.trans sm
        refine ⟨rfl, ?_⟩
        refine ⟨_, rfl, a2, rfl, ⟨ys, same_tup s13 hS3⟩, ?_⟩
        refine lc_tupO (xs := ys) (fun j H2 => Same H1 H2 ∧ H2 D = some (.lst ((((ss.take i).flatMap fun st => (elems st).map (chD (ss.length : Int))) ++ (es.take j).map (chD (ss.length : Int))).map V.bl))) ⟨sm, by rw [hD]; simp⟩ (fun j H2 h => same_tup (s1.trans h.1) hS3) ?_ ?_
        · rintro j u3 H2 hu3 ⟨sm2, hD2⟩
          obtain ⟨e3, he3, re3⟩ := hA3.at hu3
          have bound : ((((ss.take i).flatMap fun st => (elems st).map (chD (ss.length : Int))) ++ (es.take j).map (chD (ss.length : Int))).map V.bl).length < sizeLine := by
            have h1 := flat_len (g := fun st => (elems st).map (chD (ss.length : Int))) (n := 3) (ss.take i) fun x hx => by
              obtain ⟨es', rfl, le'⟩ := hall x (List.mem_of_mem_take hx)
              rw [List.length_map]
              exact le'
            have h2 := List.length_take_le' i ss
            have h3 := List.length_take_le' j es
            rw [List.length_map, List.length_append, List.length_map]
            exact Nat.lt_of_le_of_lt (show _ ≤ 1000 by omega) (by decide)
          refine ⟨rfl, ?_⟩
          refine ⟨_, rfl, _, rfl, c, xs, rfl, .inr (same_tup sm2 sS), u3, e3, _, rfl, re3.go (s1.trans sm2), fun H3 s3 => ⟨_, s3 _ _ hD2, bound, same_new (sm2.trans s3) nD, ?_⟩⟩
          rw [upd_same, take_all he3, ln]
          simp only [List.map_append, List.map_cons, List.map_nil, List.append_assoc]
        · rintro H2 ⟨sm2, hD2⟩
          refine ⟨sm2, ?_⟩
          rw [hD2, hA3.len, List.take_length, take_flat he]
          rfl
      · rintro H' ⟨sm, hD⟩
        have q1 := q H' (s1.trans sm)
        refine ⟨D, _, rfl, SqL.of hD, ?_⟩
        rw [ln, List.take_length]
        rw [mchD, y, Bool.true_and] at q1
        exact q1
    · refine ite2 (fun _ => ?_) (fun u => absurd (by rw [eq_false_of_ne_true y]; rfl) u)
      have q1 := q H1 s1
      rw [mchD_not y] at q1
      exact q1
end
end My
/-! ### what arguments have to be -/
namespace My
open PySem PySem.Spec PyProof.Rows L2
abbrev sNeedMachine : Stmt := topS 35
abbrev sWith : Stmt := topS 25
theorem scNeedMachine : FnScope ["thing", "name"] ["thing", "name"] (defScope sNeedMachine) := ⟨rfl, rfl, rfl, by decide +kernel, rfl, by decide +kernel, by decide +kernel⟩
theorem scWith : FnScope ["plain", "base", "letters", "states", "state", "pair"] ["plain"] (defScope sWith) := ⟨rfl, rfl, rfl, by decide +kernel, rfl, by decide +kernel, by decide +kernel⟩
/-- an own class of errors over ValueError, without an __init__ -/
structure ExcF (K : PySem.W.Frag) (mg : Str → Option Value) (x : Str) (C : Addr) : Prop where
  g : mg x = some (.ref C)
  q : PySem.W.excIn K C [.type "ValueError", .type "Exception", .type "BaseException", .type "object"] "ValueError.__new__" = true
  k : PySem.W.keepIn K (.ref C) = true
  b : PySem.W.subIn K (.ref C) (.type "BaseException") = some true
  t : PySem.W.typeIn K (.ref C) = some (.type "type")
structure FrmTxt (K : PySem.W.Frag) (mg : Str → Option Value) (m1 m2 m3 m4 m5 m6 m7 m8 m9 m10 m11 m12 : Addr) (n1 n2 n3 n4 n5 n6 n7 n8 n9 n10 n11 n12 : FuncData) (t1 t2 t3 t4 t5 : Tok) (CM a1 a3 : Addr) (b1 b3 : FuncData) : Prop where
  mach : MachTxt K mg m1 m2 m3 m4 m5 m6 m7 m8 m9 m10 m11 m12 n1 n2 n3 n4 n5 n6 n7 n8 n9 n10 n11 n12 t1 t2 t3 t4 t5
  noMachine : ExcF K mg "NoMachine" CM
  FNeedMachine : Fun K "need_machine" "need_machine" sNeedMachine a1 b1
  bNeedMachine : Binds K b1 ["thing", "name"] []
  gNeedMachine : mg "need_machine" = some (.ref a1)
  FWith : Fun K "with_choices" "with_choices" sWith a3 b3
  bWith : Binds K b3 ["plain"] []
  gWith : mg "with_choices" = some (.ref a3)
/-- a plain machine with choices of one pair -/
def withD : PyData → PyData
  | .tuple [b, l, .tuple ss] => .tuple [b, l, .tuple (ss.map fun st => .tuple ((elems st).map fun pr => .tuple [pr]))]
  | d => d
def spWith (K : PySem.W.Frag) : Sp := fun vs H Q _ => ∃ x d, vs = [x] ∧ Rp K H x d ∧ plnD d = true ∧ ∀ H' t, Same H H' → Rp K H' (.ref t) (withD d) → Q (.ref t) H'
theorem call_tuple_ofK {X : Cx} {K : PySem.W.Frag} (e : X.K = K) : CallR X (.type "tuple") (fun xs H Q => ∃ p ys, xs = [.ref p] ∧ ((SqL K H p ys ∧ ∀ l, H l = none → Q (.ref l) (upd H l (.tup ys))) ∨ (SqT K H p ys ∧ Q (.ref p) H))) := by
  subst e
  exact call_tuple_of
/-! new tuples over data that stands -/
def ButU (H H' : Hp) : Prop := ∀ b xs, H b = some (.tup xs) → H' b = some (.tup xs)
theorem butU_same {H H' : Hp} (s : Same H H') : ButU H H' := fun b xs e => s b _ e
theorem butU_lst {S : Addr} {ys : List V} {o : HO} {H : Hp} (h : H S = some (.lst ys)) : ButU H (upd H S o) := fun b xs e => by
  rw [upd_ne (ne_of e h (by intro z; cases z))]
  exact e
mutual
inductive Rk (K : PySem.W.Frag) (H0 H : Hp) : V → PyData → Prop
  | base {v : V} {d : PyData} (h : Rp K H0 v d) : Rk K H0 H v d
  | tup {a : Addr} {xs : List V} {ds : List PyData} (h : H a = some (.tup xs)) (t : RkAll K H0 H xs ds) : Rk K H0 H (.ref a) (.tuple ds)
inductive RkAll (K : PySem.W.Frag) (H0 H : Hp) : List V → List PyData → Prop
  | nil : RkAll K H0 H [] []
  | cons {v : V} {d : PyData} {vs : List V} {ds : List PyData} (h : Rk K H0 H v d) (t : RkAll K H0 H vs ds) : RkAll K H0 H (v :: vs) (d :: ds)
end
mutual
theorem Rk.go {K : PySem.W.Frag} {H0 H H' : Hp} (s : ButU H H') : ∀ {v : V} {d : PyData}, Rk K H0 H v d → Rk K H0 H' v d
  | _, _, .base h => .base h
  | _, _, .tup h t => .tup (s _ _ h) (RkAll.go s t)
theorem RkAll.go {K : PySem.W.Frag} {H0 H H' : Hp} (s : ButU H H') : ∀ {vs : List V} {ds : List PyData}, RkAll K H0 H vs ds → RkAll K H0 H' vs ds
  | _, _, .nil => .nil
  | _, _, .cons h t => .cons (Rk.go s h) (RkAll.go s t)
end
mutual
theorem Rk.rp {K : PySem.W.Frag} {H0 H : Hp} (s : Same H0 H) : ∀ {v : V} {d : PyData}, Rk K H0 H v d → Rp K H v d
  | _, _, .base h => h.go s
  | _, _, .tup h t => .tup (SqT.of h) (RkAll.rp s t)
theorem RkAll.rp {K : PySem.W.Frag} {H0 H : Hp} (s : Same H0 H) : ∀ {vs : List V} {ds : List PyData}, RkAll K H0 H vs ds → RpAll K H vs ds
  | _, _, .nil => .nil
  | _, _, .cons h t => .cons (Rk.rp s h) (RkAll.rp s t)
end
theorem RkAll.snoc {K : PySem.W.Frag} {H0 H : Hp} {v : V} {d : PyData} : ∀ {vs : List V} {ds : List PyData}, RkAll K H0 H vs ds → Rk K H0 H v d → RkAll K H0 H (vs ++ [v]) (ds ++ [d])
  | _, _, .nil, h => .cons h .nil
  | _, _, .cons a t, h => .cons a (t.snoc h)
theorem frm_of2 {K : PySem.W.Frag} {H : Hp} {x : V} {d : PyData} {most : Int} (h : Rp K H x d) (z : frmD most d = true) : ∃ a u v c b l ss xs, x = .ref a ∧ d = .tuple [b, l, .tuple ss] ∧ SqT K H a [u, v, .ref c] ∧ SqT K H c xs ∧ RpAll K H xs ss ∧ (∀ e ∈ ss, ∃ es, e = .tuple es ∧ es.length ≤ 3) ∧ (ss.length : Int) ≤ most ∧ Rp K H u b ∧ Rp K H v l := by
  by_cases y : tupD 3 3 d = true
  · obtain ⟨a, xs, ds, rfl, rfl, hS, hA, l1, l2⟩ := tup_of h y
    obtain ⟨u, v, t, b, l, e, rfl, rfl, hb, hl, he⟩ := hA.three (by omega)
    rw [frmD, Bool.and_eq_true, Bool.and_eq_true] at z
    have ht := tabD_tup z.2.2
    have hlen := ltrD_len z.2.1
    obtain ⟨c, ys, ss, rfl, rfl, hS2, hA2, l3, l4⟩ := tup_of he ht.1
    refine ⟨a, u, v, c, b, l, ss, ys, rfl, rfl, hS, hS2, hA2, fun e he => ?_, l4, hb, hl⟩
    have := ht.2 e he
    cases e with
    | tuple es =>
      rw [tupD, Bool.and_eq_true, decide_eq_true_eq, decide_eq_true_eq] at this
      exact ⟨es, rfl, by omega⟩
    | _ => exact absurd this (by simp [tupD])
  · rw [frmD_not y] at z
    cases z
def choD (st : PyData) : PyData := .tuple ((elems st).map fun pr => .tuple [pr])
/-- the frame: the machine itself, or the plain one with choices of one pair -/
def spNeedMachine (K : PySem.W.Frag) (CM : Addr) : Sp := fun vs H Q E => ∃ x d nm, vs = [x, .str nm] ∧ Rp K H x d ∧ nm.length ≤ 100 ∧
  ((mchD d = true ∧ ∀ H', Same H H' → Q x H') ∨ (mchD d = false ∧ plnD d = true ∧ ∀ H' t, Same H H' → Rp K H' (.ref t) (withD d) → Q (.ref t) H') ∨ (mchD d = false ∧ plnD d = false ∧ ∀ H', Same H H' → E (.ref CM) none H'))
section
variable {P : Program} {w : World} {K : PySem.W.Frag} {mg : Str → Option Value} {base : Heap} {m1 m2 m3 m4 m5 m6 m7 m8 m9 m10 m11 m12 : Addr} {n1 n2 n3 n4 n5 n6 n7 n8 n9 n10 n11 n12 : FuncData} {t1 t2 t3 t4 t5 t6 t7 : Tok} {r2 : Addr} {v2 : FuncData} {CM CW a1 a2 a3 : Addr} {b1 b2 b3 : FuncData}
theorem ok_with (T : FrmTxt K mg m1 m2 m3 m4 m5 m6 m7 m8 m9 m10 m11 m12 n1 n2 n3 n4 n5 n6 n7 n8 n9 n10 n11 n12 t1 t2 t3 t4 t5 CM a1 a3 b1 b3) {k : Nat} : FnOk P w K mg base CX0 (k + 1) a3 b3 ["plain"] (spWith K) := by
  refine T.FWith.ok scWith (fun vs H Q E h => ?_) (fun cdv A outer s H vs Q E hr h => ?_)
  · obtain ⟨x, d, rfl, _⟩ := h
    rfl
  · obtain ⟨x, d, rfl, hd, hp, q⟩ := h
    refine ⟨_, (pss_cons (ps_asg (pv 0) (pg_tup rfl (pgs_cons (pg_name (i := 1) scWith.nd rfl (.inl rfl)) (pgs_cons (pg_name (i := 2) scWith.nd rfl (.inl rfl)) (pgs_cons (pg_name (i := 3) scWith.nd rfl (.inl rfl)) pgs_nil)))))
 (pss_one (ps_ret (pe_tup (pa_cons (pv 1) (pa_cons (pv 2) (pa_cons (pe_callTy (call_tuple_ofK (K := K) rfl) (by rfl) T.mach.look.tuple (by decide +kernel) (pa_cons (pe_lc (own := [("state", 4)]) (g := gName 4) (tt := tYes) (by rfl) scWith.nd (pi_tup (pv 3)) (blkOk_by (N := ["plain", "base", "letters", "states", "state", "pair"]) (sc := defScope sWith) (by decide +kernel)) (fun _ _ _ _ _ => pg_name (i := 4) scWith.nd rfl (Or.inl rfl)) (fun _ _ _ _ _ => pts_nil) (fun _ _ _ _ _ => (pe_callTy (call_tuple_ofK (K := K) rfl) (by rfl) T.mach.look.tuple (by decide +kernel) (pa_cons (pe_lc (own := [("pair", 5)]) (g := gName 5) (tt := tYes) (by rfl) scWith.nd (pi_tupK (K := K) rfl (pv 4)) (blkOk_by (N := ["plain", "base", "letters", "states", "state", "pair"]) (sc := { kind := ScopeKind.function, names := [(".0", NameKind.local), ("state", NameKind.local), ("tuple", NameKind.globalImplicit)], isGenerator := false, isCoroutine := false }) (by decide +kernel)) (fun _ _ _ _ _ => pg_name (i := 5) scWith.nd rfl (Or.inl rfl)) (fun _ _ _ _ _ => pts_nil) (fun _ _ _ _ _ => (pe_tup (pa_cons (pv 5) pa_nil)))) pa_nil)))) pa_nil)) pa_nil))))))), ?_⟩
    have y : frmD 300 d = true := by
      cases e : frmD 300 d with
      | true => rfl
      | false =>
        rw [plnD_not (by rw [e]; decide)] at hp
        cases hp
    obtain ⟨a, u, v, c, b, l, ss, xs, rfl, rfl, hS, hS2, hA, hall, hl2, hb, hl⟩ := frm_of2 hd y
    have ln := hA.len
    refine ⟨_, rfl, a, _, rfl, hS, rfl, u, [v, .ref c], rfl, v, [.ref c], rfl, .ref c, [], rfl, rfl, ?_⟩
    refine ⟨_, rfl, _, rfl, _, rfl, c, rfl, ⟨xs, hS2⟩, fun D nD => ?_⟩
    refine lc_tupO (xs := xs) (fun i H' => Same H H' ∧ ∃ us, H' D = some (.lst us) ∧ us.length = i ∧ RkAll K H H' us ((ss.take i).map choD)) ⟨same_upd nD, [], upd_same, rfl, .nil⟩ (fun i H' h => same_tup h.1 hS2) ?_ ?_
    · rintro i u2 H' hu ⟨sm, us, hD, lu, hU⟩
      obtain ⟨e, he, re⟩ := hA.at hu
      obtain ⟨es, rfl, le⟩ := hall e (List.mem_of_getElem? he)
      obtain ⟨a2, ys, rfl, hS3, hA3⟩ := re.isTup
      refine ⟨rfl, ?_⟩
      refine ⟨_, rfl, a2, rfl, ⟨ys, same_tup sm hS3⟩, fun D2 nD2 => ?_⟩
      have nDD : D ≠ D2 := ne_of_none hD nD2
      refine lc_tupO (xs := ys) (fun j H2 => Same H' H2 ∧ ∃ ws, H2 D2 = some (.lst ws) ∧ ws.length = j ∧ RkAll K H H2 ws ((es.take j).map fun pr => .tuple [pr])) ⟨same_upd nD2, [], upd_same, rfl, .nil⟩ (fun j H2 h => same_tup (sm.trans h.1) hS3) ?_ ?_
      · rintro j u3 H2 hu3 ⟨s2, ws, hD2, lw, hW⟩
        obtain ⟨e3, he3, re3⟩ := hA3.at hu3
        refine ⟨rfl, ?_⟩
        refine ⟨_, rfl, (by show 1 ≤ sizeLine; decide), fun t ht => ?_⟩
        have xt := same_upd (o := HO.tup [u3]) ht
        have hD2t := xt _ _ hD2
        have bt := butU_lst (o := HO.lst (ws ++ [V.ref t])) hD2t
        have jl : j < es.length := by
          have := (List.getElem?_eq_some_iff.mp he3).1
          exact this
        refine ⟨_, hD2t, Nat.lt_of_le_of_lt (show _ ≤ 1000 by omega) (by decide), same_new (s2.trans xt) nD2, ws ++ [V.ref t], upd_same, by rw [List.length_append, lw]; rfl, ?_⟩
        rw [List.take_succ, he3, List.map_append]
        exact ((hW.go (butU_same xt)).go bt).snoc (.tup (bt _ _ upd_same) (.cons (.base re3) .nil))
      · rintro H2 ⟨s2, ws, hD2, lw, hW⟩
        rw [hA3.len, List.take_length] at hW
        refine ⟨D2, _, rfl, .inl ⟨SqL.of hD2, fun t ht => ?_⟩⟩
        have xt := same_upd (o := HO.tup ws) ht
        have hDt := xt _ _ (s2 _ _ hD)
        have bt := butU_lst (o := HO.lst (us ++ [V.ref t])) hDt
        have il : i < ss.length := (List.getElem?_eq_some_iff.mp he).1
        refine ⟨_, hDt, Nat.lt_of_le_of_lt (show _ ≤ 1000 by omega) (by decide), same_new (sm.trans (s2.trans xt)) nD, us ++ [V.ref t], upd_same, by rw [List.length_append, lu]; rfl, ?_⟩
        rw [List.take_succ, he, List.map_append]
        exact ((hU.go (butU_same (s2.trans xt))).go bt).snoc (.tup (bt _ _ upd_same) ((hW.go (butU_same xt)).go bt))
    · rintro H' ⟨sm, us, hD, lu, hU⟩
      rw [ln, List.take_length] at hU
      refine ⟨D, _, rfl, .inl ⟨SqL.of hD, fun t ht => ⟨(by show 3 ≤ sizeLine; decide), fun t2 ht2 => ?_⟩⟩⟩
      have xt := same_upd (o := HO.tup us) ht
      have xt2 := same_upd (o := HO.tup [u, v, V.ref t]) ht2
      have s4 := sm.trans (xt.trans xt2)
      exact q _ t2 s4 (.tup (SqT.of upd_same) (.cons (hb.go s4) (.cons (hl.go s4) (.cons (.tup (SqT.of (xt2 _ _ upd_same)) ((hU.go (butU_same (xt.trans xt2))).rp s4)) .nil))))
theorem ok_needMachine (T : FrmTxt K mg m1 m2 m3 m4 m5 m6 m7 m8 m9 m10 m11 m12 n1 n2 n3 n4 n5 n6 n7 n8 n9 n10 n11 n12 t1 t2 t3 t4 t5 CM a1 a3 b1 b3) {k : Nat} : FnOk P w K mg base (L2.CX P w) (k + 6) a1 b1 ["thing", "name"] (spNeedMachine K CM) := by
  have GM : FnOk P w K mg base CX0 (k + 5) m10 n10 ["thing"] (spMachine K) := ok_machine T.mach
  have GP : FnOk P w K mg base CX0 (k + 5) m11 n11 ["thing"] (spPlain K) := ok_plain T.mach (k := k + 1)
  have GW : FnOk P w K mg base CX0 (k + 5) a3 b3 ["plain"] (spWith K) := ok_with T (k := k + 4)
  refine T.FNeedMachine.okX scNeedMachine (fun vs H Q E h => ?_) (fun cdv A outer s H vs Q E hr h => ?_)
  · obtain ⟨x, d, nm, rfl, _⟩ := h
    rfl
  · obtain ⟨x, d, nm, rfl, hd, hn, h⟩ := h
    refine ⟨_, (pss_cons (ps_if (pt_val (pe_call GM hr (by rfl) T.mach.gMachine T.mach.FMachine.kp T.mach.bMachine .nil pass0 (pa_cons (pv 0) pa_nil))) (pss_one (ps_ret (pv 0))) pss_nil)
 (pss_cons (ps_if (pt_not (pt_val (pe_call GP hr (by rfl) T.mach.gPlain T.mach.FPlain.kp T.mach.bPlain .nil pass0 (pa_cons (pv 0) pa_nil)))) (pss_one (ps_raise rfl (takes_of rfl rfl rfl rfl) (SkE.pmk_own1 PySem.F.excBase_ValueError T.noMachine.q T.noMachine.g T.noMachine.k (raises_own T.noMachine.b T.noMachine.t) (by exact rfl) (pe_joined (.cons (pe_fmt (pv 1)) (.cons pe_str .nil)))))) pss_nil)
 (pss_one (ps_ret (pe_call GW hr (by rfl) T.gWith T.FWith.kp T.bWith .nil pass0 (pa_cons (pv 0) pa_nil)))))), ?_⟩
    refine ⟨_, rfl, x, d, rfl, hd, fun H1 s1 => ⟨_, rfl, ?_⟩⟩
    rcases h with ⟨zm, q⟩ | ⟨zm, zp, q⟩ | ⟨zm, zp, q⟩
    · exact ite2 (fun _ => ⟨_, rfl, q H1 s1⟩) (fun u => absurd zm u)
    · refine ite2 (fun u => absurd u (by rw [zm]; decide)) (fun _ => ?_)
      refine ⟨_, rfl, x, d, rfl, hd.go s1, fun H2 s2 => ⟨_, rfl, ite2 (fun u => absurd u (by rw [zp]; decide)) (fun _ => ?_)⟩⟩
      exact ⟨_, rfl, x, d, rfl, (hd.go s1).go s2, zp, fun H3 t s3 r3 => q H3 t (s1.trans (s2.trans s3)) r3⟩
    · refine ite2 (fun u => absurd u (by rw [zm]; decide)) (fun _ => ?_)
      refine ⟨_, rfl, x, d, rfl, hd.go s1, fun H2 s2 => ⟨_, rfl, ite2 (fun _ => ?_) (fun u => absurd (by rw [zp]; rfl) u)⟩⟩
      have big : 1000 ≤ sizeLine := by decide
      have ap : ∀ a b : Str, (a ++ b).length = a.length + b.length := fun a b => Array.size_append
      have l1 : (Str.empty ++ nm).length ≤ 100 := by
        rw [ap]
        show 0 + nm.length ≤ 100
        omega
      refine ⟨_, rfl, .inl ⟨nm, rfl, Nat.le_trans hn (by decide), nm, rfl, by omega, _, rfl, ?_, q H2 (s1.trans s2)⟩⟩
      rw [ap]
      refine Nat.le_trans (show _ ≤ 200 from ?_) (by decide)
      have l2 : (Str.ofString " is neither a machine nor a plain machine").length ≤ 100 := by decide +kernel
      omega
end
end My
namespace My
/-! ### dicts of ints, as lists of pairs -/
abbrev Dk := List (Int × Int)
def getI (d : Dk) (k : Int) : Option Int := (d.find? fun kv => decide (kv.1 = k)).map (·.2)
def putI (d : Dk) (k v : Int) : Dk := if (d.any fun kv => decide (kv.1 = k)) = true then d.map (fun kv => if kv.1 = k then (kv.1, v) else kv) else d ++ [(k, v)]
def upMax (d : Dk) (k v : Int) : Dk := match getI d k with
  | none => putI d k v
  | some w => if w < v then putI d k v else d
theorem getI_nil {k : Int} : getI [] k = none := rfl
theorem getI_cons (p : Int × Int) (r : Dk) (k : Int) : getI (p :: r) k = if p.1 = k then some p.2 else getI r k := by
  unfold getI
  rw [List.find?_cons]
  by_cases e : p.1 = k <;> simp [e]
theorem getI_any (k : Int) : ∀ d : Dk, (d.any fun kv => decide (kv.1 = k)) = (getI d k).isSome
  | [] => rfl
  | p :: r => by
    rw [List.any_cons, getI_cons, getI_any k r]
    by_cases e : p.1 = k <;> simp [e]
theorem getI_map (k j y : Int) : ∀ d : Dk, getI (d.map fun kv => if kv.1 = k then (kv.1, y) else kv) j = (getI d j).map fun x => if j = k then y else x
  | [] => rfl
  | p :: r => by
    rw [List.map_cons, getI_cons, getI_cons, getI_map k j y r]
    by_cases h : p.1 = k
    · rw [if_pos h]
      by_cases e : p.1 = j
      · simp [e, ← h]
      · simp [e]
    · rw [if_neg h]
      by_cases e : p.1 = j
      · have : ¬ j = k := fun z => h (e.trans z)
        simp [e, this]
      · simp [e]
theorem getI_snoc (k j y : Int) : ∀ d : Dk, getI d k = none → getI (d ++ [(k, y)]) j = if j = k then some y else getI d j
  | [], _ => by
    rw [List.nil_append, getI_cons]
    by_cases e : k = j
    · rw [if_pos e, if_pos e.symm]
    · rw [if_neg e, if_neg (fun z => e z.symm)]
  | p :: r, h => by
    rw [getI_cons] at h
    by_cases e : p.1 = k
    · rw [if_pos e] at h
      cases h
    · rw [if_neg e] at h
      rw [List.cons_append, getI_cons, getI_cons, getI_snoc k j y r h]
      by_cases e2 : p.1 = j
      · rw [if_pos e2, if_pos e2, if_neg (fun z => e (e2.trans z))]
      · rw [if_neg e2, if_neg e2]
theorem getI_put (d : Dk) (k j y : Int) : getI (putI d k y) j = if j = k then some y else getI d j := by
  unfold putI
  rw [getI_any]
  cases h : getI d k with
  | none => exact getI_snoc k j y d h
  | some x =>
    rw [if_pos (show (some x).isSome = true from rfl), getI_map]
    by_cases e : j = k
    · rw [e, h]; simp
    · simp [e]
def keysI (d : Dk) : List Int := d.map (·.1)
theorem put_keys (d : Dk) (k y : Int) : keysI (putI d k y) = if (getI d k).isSome then keysI d else keysI d ++ [k] := by
  unfold putI
  rw [getI_any]
  split
  · unfold keysI
    rw [List.map_map]
    refine List.map_congr_left fun p _ => ?_
    show (if p.1 = k then (p.1, y) else p).1 = p.1
    split <;> rfl
  · unfold keysI
    rw [List.map_append]
    rfl
theorem getI_mem {d : Dk} {k : Int} : (getI d k).isSome = true ↔ k ∈ keysI d := by
  rw [← getI_any, List.any_eq_true]
  unfold keysI
  simp only [decide_eq_true_eq, List.mem_map]
theorem getI_some_mem {d : Dk} {k v : Int} (h : getI d k = some v) : (k, v) ∈ d := by
  induction d with
  | nil => cases h
  | cons p r ih =>
    rw [getI_cons] at h
    by_cases e : p.1 = k
    · rw [if_pos e] at h
      cases h
      rw [← e]
      exact .head _
    · rw [if_neg e] at h
      exact .tail _ (ih h)
theorem mem_getI {d : Dk} {k v : Int} (nd : (keysI d).Nodup) (h : (k, v) ∈ d) : getI d k = some v := by
  induction d with
  | nil => cases h
  | cons p r ih =>
    rw [getI_cons]
    have nd2 : p.1 ∉ keysI r ∧ (keysI r).Nodup := List.nodup_cons.mp nd
    rcases List.mem_cons.mp h with e | e
    · rw [← e, if_pos rfl]
    · have : ¬ p.1 = k := fun z => nd2.1 (by rw [z]; exact List.mem_map_of_mem (f := (·.1)) e)
      rw [if_neg this]
      exact ih nd2.2 e
theorem put_nodup {d : Dk} {k y : Int} (nd : (keysI d).Nodup) : (keysI (putI d k y)).Nodup := by
  rw [put_keys]
  split
  · exact nd
  · rename_i h
    rw [List.nodup_append]
    refine ⟨nd, by simp, fun a ha b hb => ?_⟩
    simp only [List.mem_singleton] at hb
    rintro rfl
    rw [hb] at ha
    exact h (getI_mem.mpr ha)
theorem up_get (d : Dk) (k v j : Int) : getI (upMax d k v) j = if j = k then some (match getI d k with | none => v | some w => if w < v then v else w) else getI d j := by
  unfold upMax
  cases h : getI d k with
  | none => exact getI_put d k j v
  | some w =>
    show getI (if w < v then putI d k v else d) j = if j = k then some (if w < v then v else w) else getI d j
    by_cases l : w < v
    · rw [if_pos l, if_pos l]
      exact getI_put d k j v
    · rw [if_neg l, if_neg l]
      by_cases e : j = k
      · rw [e, h, if_pos rfl]
      · rw [if_neg e]
theorem up_nodup {d : Dk} {k v : Int} (nd : (keysI d).Nodup) : (keysI (upMax d k v)).Nodup := by
  unfold upMax
  split
  · exact put_nodup nd
  · split
    · exact put_nodup nd
    · exact nd
theorem put_same {d : Dk} {k v : Int} (nd : (keysI d).Nodup) (h : getI d k = some v) : putI d k v = d := by
  unfold putI
  rw [getI_any, h, if_pos (show (some v).isSome = true from rfl)]
  have : ∀ p ∈ d, (fun kv : Int × Int => if kv.1 = k then (kv.1, v) else kv) p = id p := fun p hp => by
    show (if p.1 = k then (p.1, v) else p) = p
    split
    · rename_i e
      have := mem_getI nd (k := p.1) (v := p.2) hp
      rw [e, h] at this
      cases this
      rfl
    · rfl
  rw [List.map_congr_left this, List.map_id]
/-- the law's own way to the greater one -/
theorem up_put {d : Dk} {k v : Int} (nd : (keysI d).Nodup) : putI d k (max v ((getI d k).getD v)) = upMax d k v := by
  unfold upMax
  cases h : getI d k with
  | none =>
    show putI d k (max v v) = putI d k v
    rw [Int.max_self]
  | some w =>
    show putI d k (max v w) = if w < v then putI d k v else d
    by_cases l : w < v
    · rw [if_pos l, Int.max_eq_left (by omega)]
    · rw [if_neg l, Int.max_eq_right (by omega)]
      exact put_same nd h
/-! ### the best ways on -/
def bestIn (f : Int → Int → Int) (v : Int) (ps : List (Int × Int)) (d : Dk) : Dk := ps.foldl (fun l pr => upMax l pr.2 (f v pr.1)) d
def bestOn (P : Int → List (Int × Int)) (f : Int → Int → Int) (d l : Dk) : Dk := d.foldl (fun l kv => bestIn f kv.2 (P kv.1) l) l
def bestOf (P : Int → List (Int × Int)) (f : Int → Int → Int) (d : Dk) : Dk := bestOn P f d []
theorem bestIn_nodup {f : Int → Int → Int} {v : Int} : ∀ {ps : List (Int × Int)} {d : Dk}, (keysI d).Nodup → (keysI (bestIn f v ps d)).Nodup
  | [], _, h => h
  | p :: ps, d, h => bestIn_nodup (ps := ps) (d := upMax d p.2 (f v p.1)) (up_nodup h)
theorem bestOn_nodup {P : Int → List (Int × Int)} {f : Int → Int → Int} : ∀ {d l : Dk}, (keysI l).Nodup → (keysI (bestOn P f d l)).Nodup
  | [], _, h => h
  | q :: d, l, h => bestOn_nodup (d := d) (l := bestIn f q.2 (P q.1) l) (bestIn_nodup h)
theorem up_le (d : Dk) (k v : Int) {j w : Int} (h : getI d j = some w) : ∃ u, getI (upMax d k v) j = some u ∧ w ≤ u := by
  rw [up_get]
  by_cases e : j = k
  · subst e
    rw [if_pos rfl, h]
    refine ⟨_, rfl, ?_⟩
    show w ≤ if w < v then v else w
    split <;> omega
  · rw [if_neg e]
    exact ⟨w, h, Int.le_refl _⟩
theorem up_has (d : Dk) (k v : Int) : ∃ u, getI (upMax d k v) k = some u ∧ v ≤ u := by
  rw [up_get, if_pos rfl]
  refine ⟨_, rfl, ?_⟩
  split
  · exact Int.le_refl _
  · split <;> omega
theorem up_from {d : Dk} {k v j w : Int} (h : getI (upMax d k v) j = some w) : getI d j = some w ∨ (j = k ∧ w = v) := by
  rw [up_get] at h
  by_cases e : j = k
  · rw [if_pos e] at h
    cases g : getI d k with
    | none =>
      rw [g] at h
      cases h
      exact .inr ⟨e, rfl⟩
    | some x =>
      rw [g] at h
      have h2 : (if x < v then v else x) = w := Option.some.inj h
      by_cases l : x < v
      · rw [if_pos l] at h2
        exact .inr ⟨e, h2.symm⟩
      · rw [if_neg l] at h2
        rw [e, g, h2]
        exact .inl rfl
  · rw [if_neg e] at h
    exact .inl h
theorem bestIn_le {f : Int → Int → Int} {v : Int} : ∀ (ps : List (Int × Int)) (d : Dk) {j w : Int}, getI d j = some w → ∃ u, getI (bestIn f v ps d) j = some u ∧ w ≤ u
  | [], _, _, w, h => ⟨w, h, Int.le_refl _⟩
  | p :: ps, d, j, w, h => by
    obtain ⟨u, h2, l2⟩ := up_le d p.2 (f v p.1) h
    obtain ⟨u3, h3, l3⟩ := bestIn_le ps _ h2
    exact ⟨u3, h3, Int.le_trans l2 l3⟩
theorem bestIn_has {f : Int → Int → Int} {v : Int} : ∀ (ps : List (Int × Int)) (d : Dk) {p k : Int}, (p, k) ∈ ps → ∃ u, getI (bestIn f v ps d) k = some u ∧ f v p ≤ u
  | q :: ps, d, p, k, h => by
    rcases List.mem_cons.mp h with e | e
    · subst e
      obtain ⟨u, h2, l2⟩ := up_has d k (f v p)
      obtain ⟨u3, h3, l3⟩ := bestIn_le ps (upMax d k (f v p)) h2
      exact ⟨u3, h3, Int.le_trans l2 l3⟩
    · exact bestIn_has ps _ e
theorem bestIn_from {f : Int → Int → Int} {v : Int} : ∀ (ps : List (Int × Int)) (d : Dk) {j w : Int}, getI (bestIn f v ps d) j = some w → getI d j = some w ∨ ∃ p, (p, j) ∈ ps ∧ w = f v p
  | [], _, _, _, h => .inl h
  | q :: ps, d, j, w, h => by
    rcases bestIn_from ps _ h with h | ⟨p, h, e⟩
    · rcases up_from h with h | ⟨e1, e2⟩
      · exact .inl h
      · refine .inr ⟨q.1, ?_, e2⟩
        rw [e1]
        exact .head _
    · exact .inr ⟨p, .tail _ h, e⟩
theorem bestOn_le {P : Int → List (Int × Int)} {f : Int → Int → Int} : ∀ (d l : Dk) {j w : Int}, getI l j = some w → ∃ u, getI (bestOn P f d l) j = some u ∧ w ≤ u
  | [], _, _, w, h => ⟨w, h, Int.le_refl _⟩
  | q :: d, l, j, w, h => by
    obtain ⟨u, h2, l2⟩ := bestIn_le (f := f) (v := q.2) (P q.1) l h
    obtain ⟨u3, h3, l3⟩ := bestOn_le (P := P) (f := f) d _ h2
    exact ⟨u3, h3, Int.le_trans l2 l3⟩
theorem bestOn_has {P : Int → List (Int × Int)} {f : Int → Int → Int} : ∀ (d l : Dk) {s v p k : Int}, (s, v) ∈ d → (p, k) ∈ P s → ∃ u, getI (bestOn P f d l) k = some u ∧ f v p ≤ u
  | q :: d, l, s, v, p, k, h, hp => by
    rcases List.mem_cons.mp h with e | e
    · subst e
      obtain ⟨u, h2, l2⟩ := bestIn_has (f := f) (v := v) (P s) l hp
      obtain ⟨u3, h3, l3⟩ := bestOn_le (P := P) (f := f) d _ h2
      exact ⟨u3, h3, Int.le_trans l2 l3⟩
    · exact bestOn_has (P := P) (f := f) d _ e hp
theorem bestOn_from {P : Int → List (Int × Int)} {f : Int → Int → Int} : ∀ (d l : Dk) {j w : Int}, getI (bestOn P f d l) j = some w → getI l j = some w ∨ ∃ s v p, (s, v) ∈ d ∧ (p, j) ∈ P s ∧ w = f v p
  | [], _, _, _, h => .inl h
  | q :: d, l, j, w, h => by
    rcases bestOn_from d _ h with h | ⟨s, v, p, h, hp, e⟩
    · rcases bestIn_from (P q.1) l h with h | ⟨p, h, e⟩
      · exact .inl h
      · exact .inr ⟨q.1, q.2, p, .head _, h, e⟩
    · exact .inr ⟨s, v, p, .tail _ h, hp, e⟩
/-! ### the greatest of some -/
def maxL : List Int → Int
  | [] => 0
  | x :: xs => xs.foldl max x
def minL : List Int → Int
  | [] => 0
  | x :: xs => xs.foldl min x
theorem foldmax_le : ∀ (xs : List Int) (x : Int), x ≤ xs.foldl max x ∧ ∀ y ∈ xs, y ≤ xs.foldl max x
  | [], x => ⟨Int.le_refl _, fun _ h => nomatch h⟩
  | z :: xs, x => by
    have := foldmax_le xs (max x z)
    refine ⟨by show x ≤ xs.foldl max (max x z); omega, fun y hy => ?_⟩
    rcases List.mem_cons.mp hy with e | e
    · subst e
      show y ≤ xs.foldl max (max x y)
      omega
    · exact this.2 y e
theorem foldmax_mem : ∀ (xs : List Int) (x : Int), xs.foldl max x = x ∨ xs.foldl max x ∈ xs
  | [], x => .inl rfl
  | z :: xs, x => by
    show xs.foldl max (max x z) = x ∨ xs.foldl max (max x z) ∈ z :: xs
    rcases foldmax_mem xs (max x z) with h | h
    · rw [h]
      rcases (show max x z = x ∨ max x z = z by omega) with e | e
      · exact .inl e
      · rw [e]; exact .inr (.head _)
    · exact .inr (.tail _ h)
theorem maxL_mem {l : List Int} (h : l ≠ []) : maxL l ∈ l := by
  cases l with
  | nil => exact absurd rfl h
  | cons x xs =>
    rcases foldmax_mem xs x with e | e
    · show xs.foldl max x ∈ _
      rw [e]; exact .head _
    · exact .tail _ e
theorem le_maxL {l : List Int} {y : Int} (h : y ∈ l) : y ≤ maxL l := by
  cases l with
  | nil => cases h
  | cons x xs =>
    rcases List.mem_cons.mp h with e | e
    · subst e; exact (foldmax_le xs y).1
    · exact (foldmax_le xs x).2 y e
theorem maxL_eq {l : List Int} {m : Int} (h : m ∈ l) (g : ∀ y ∈ l, y ≤ m) : m = maxL l := by
  have h1 := le_maxL h
  have h2 := g _ (maxL_mem (l := l) (by intro z; rw [z] at h; cases h))
  omega
theorem foldmin_le : ∀ (xs : List Int) (x : Int), xs.foldl min x ≤ x ∧ ∀ y ∈ xs, xs.foldl min x ≤ y
  | [], x => ⟨Int.le_refl _, fun _ h => nomatch h⟩
  | z :: xs, x => by
    have := foldmin_le xs (min x z)
    refine ⟨by show xs.foldl min (min x z) ≤ x; omega, fun y hy => ?_⟩
    rcases List.mem_cons.mp hy with e | e
    · subst e
      show xs.foldl min (min x y) ≤ y
      omega
    · exact this.2 y e
theorem foldmin_mem : ∀ (xs : List Int) (x : Int), xs.foldl min x = x ∨ xs.foldl min x ∈ xs
  | [], x => .inl rfl
  | z :: xs, x => by
    show xs.foldl min (min x z) = x ∨ xs.foldl min (min x z) ∈ z :: xs
    rcases foldmin_mem xs (min x z) with h | h
    · rw [h]
      rcases (show min x z = x ∨ min x z = z by omega) with e | e
      · exact .inl e
      · rw [e]; exact .inr (.head _)
    · exact .inr (.tail _ h)
theorem minL_mem {l : List Int} (h : l ≠ []) : minL l ∈ l := by
  cases l with
  | nil => exact absurd rfl h
  | cons x xs =>
    rcases foldmin_mem xs x with e | e
    · show xs.foldl min x ∈ _
      rw [e]; exact .head _
    · exact .tail _ e
theorem minL_le {l : List Int} {y : Int} (h : y ∈ l) : minL l ≤ y := by
  cases l with
  | nil => cases h
  | cons x xs =>
    rcases List.mem_cons.mp h with e | e
    · subst e; exact (foldmin_le xs y).1
    · exact (foldmin_le xs x).2 y e
theorem minL_eq {l : List Int} {m : Int} (h : m ∈ l) (g : ∀ y ∈ l, m ≤ y) : m = minL l := by
  have h1 := minL_le h
  have h2 := g _ (minL_mem (l := l) (by intro z; rw [z] at h; cases h))
  omega
/-! ### sorted -/
def insI (x : Int) : List Int → List Int
  | [] => [x]
  | y :: r => if x ≤ y then x :: y :: r else y :: insI x r
def sortI : List Int → List Int
  | [] => []
  | x :: r => insI x (sortI r)
theorem ins_perm (x : Int) : ∀ l, (insI x l).Perm (x :: l)
  | [] => .refl _
  | y :: r => by
    unfold insI
    split
    · exact .refl _
    · exact ((ins_perm x r).cons y).trans (.swap x y r)
theorem sort_perm : ∀ l, (sortI l).Perm l
  | [] => .refl _
  | x :: r => (ins_perm x _).trans ((sort_perm r).cons x)
theorem ins_sorted {x : Int} : ∀ {l : List Int}, l.Pairwise (· ≤ ·) → (insI x l).Pairwise (· ≤ ·)
  | [], _ => by simp [insI]
  | y :: r, h => by
    have h2 := List.pairwise_cons.mp h
    unfold insI
    split
    · rename_i l
      refine List.pairwise_cons.mpr ⟨fun z hz => ?_, h⟩
      rcases List.mem_cons.mp hz with e | e
      · omega
      · have := h2.1 z e; omega
    · rename_i l
      refine List.pairwise_cons.mpr ⟨fun z hz => ?_, ins_sorted h2.2⟩
      rcases List.mem_cons.mp ((ins_perm x r).mem_iff.mp hz) with e | e
      · omega
      · exact h2.1 z e
theorem sort_sorted : ∀ l : List Int, (sortI l).Pairwise (· ≤ ·)
  | [] => .nil
  | _ :: r => ins_sorted (sort_sorted r)
theorem sorted_unique : ∀ {a b : List Int}, a.Perm b → a.Pairwise (· ≤ ·) → b.Pairwise (· ≤ ·) → a = b
  | [], b, p, _, _ => (List.Perm.nil_eq p)
  | x :: a, [], p, _, _ => absurd p.length_eq (by simp)
  | x :: a, y :: b, p, ha, hb => by
    have ha2 := List.pairwise_cons.mp ha
    have hb2 := List.pairwise_cons.mp hb
    have h1 : x = y ∨ x ∈ b := by
      have := p.mem_iff.mp (List.mem_cons_self (a := x) (l := a))
      rcases List.mem_cons.mp this with e | e
      · exact .inl e
      · exact .inr e
    have h2 : y = x ∨ y ∈ a := by
      have := p.mem_iff.mpr (List.mem_cons_self (a := y) (l := b))
      rcases List.mem_cons.mp this with e | e
      · exact .inl e
      · exact .inr e
    have e : x = y := by
      rcases h1 with e | e
      · exact e
      · rcases h2 with e2 | e2
        · exact e2.symm
        · have a1 := hb2.1 x e
          have a2 := ha2.1 y e2
          omega
    subst e
    rw [sorted_unique (p.cons_inv) ha2.2 hb2.2]
theorem sort_eq {l ys : List Int} (p : ys.Perm l) (h : ys.Pairwise (· ≤ ·)) : ys = sortI l := sorted_unique (p.trans (sort_perm l).symm) h (sort_sorted l)
/-! ### lacks -/
def hopes (b sp k : Int) : Bool := decide (k = 0) || decide (k * (b - 1) < sp * b)
def laterOf (b sp : Int) (g : Dk) : Dk := (sortI (keysI g)).filterMap fun to => if hopes b sp (b * (maxL (g.map (·.2)) - (getI g to).getD 0)) = true then some (to, b * (maxL (g.map (·.2)) - (getI g to).getD 0)) else none
def gainOf (P : Int → List (Int × Int)) (d : Dk) : Dk := bestOf P (fun v p => p - v) d
def sumOf (P : Int → List (Int × Int)) (b : Int) (d : Dk) : Dk := bestOf P (fun v p => b * v + p) d
theorem later_keys {b sp : Int} {g : Dk} (nd : (keysI g).Nodup) : (keysI (laterOf b sp g)).Nodup := by
  have h1 : (sortI (keysI g)).Nodup := (sort_perm _).nodup_iff.mpr nd
  unfold laterOf keysI
  unfold keysI at h1
  generalize hF : (fun to => if hopes b sp (b * (maxL (g.map (·.2)) - (getI g to).getD 0)) = true then some (to, b * (maxL (g.map (·.2)) - (getI g to).getD 0)) else none) = F
  have hk : ∀ t p, F t = some p → p.1 = t := fun t p e => by
    rw [← hF] at e
    simp only at e
    split at e
    · cases e; rfl
    · cases e
  generalize sortI (List.map (fun x => x.fst) g) = l at h1 ⊢
  clear hF
  induction l with
  | nil => exact .nil
  | cons x r ih =>
    have h2 := List.nodup_cons.mp h1
    rw [List.filterMap_cons]
    cases e : F x with
    | none => exact ih h2.2
    | some p =>
      rw [List.map_cons]
      refine List.nodup_cons.mpr ⟨fun hm => ?_, ih h2.2⟩
      obtain ⟨q, hq, e2⟩ := List.mem_map.mp hm
      obtain ⟨t, ht, e3⟩ := List.mem_filterMap.mp hq
      rw [hk _ _ e3, hk _ _ e] at e2
      exact h2.1 (e2 ▸ ht)
theorem later_get {b sp : Int} {g : Dk} (nd : (keysI g).Nodup) {to k : Int} : getI (laterOf b sp g) to = some k ↔ ∃ x, getI g to = some x ∧ k = b * (maxL (g.map (·.2)) - x) ∧ hopes b sp k = true := by
  constructor
  · intro h
    have hm := getI_some_mem h
    unfold laterOf at hm
    obtain ⟨t, ht, e⟩ := List.mem_filterMap.mp hm
    split at e
    · rename_i hh
      cases e
      have : to ∈ keysI g := (sort_perm _).mem_iff.mp ht
      obtain ⟨x, hx⟩ := Option.isSome_iff_exists.mp (getI_mem.mpr this)
      rw [hx] at hh
      exact ⟨x, hx, by rw [hx]; rfl, by rw [hx]; exact hh⟩
    · cases e
  · rintro ⟨x, hx, rfl, hh⟩
    refine mem_getI (later_keys nd) ?_
    unfold laterOf
    refine List.mem_filterMap.mpr ⟨to, (sort_perm _).mem_iff.mpr (getI_mem.mp (by rw [hx]; rfl)), ?_⟩
    rw [hx, Option.getD_some, if_pos hh]
/-- what holds behind a word between the sums, the lacks and what is paid in all -/
structure Lk (b sp T : Int) (S D : Dk) : Prop where
  nS : (keysI S).Nodup
  nD : (keysI D).Nodup
  top : ∃ s, getI S s = some T ∧ getI D s = some 0
  of : ∀ s v, getI S s = some v → v ≤ T ∧ (getI D s = some (b * (T - v)) ∨ (getI D s = none ∧ 0 < b * (T - v) ∧ sp * b ≤ b * (T - v) * (b - 1)))
  sub : ∀ s k, getI D s = some k → ∃ v, getI S s = some v ∧ k = b * (T - v)
theorem lk_start (b sp : Int) : Lk b sp 0 [(0, 0)] [(0, 0)] := by
  refine ⟨by simp [keysI], by simp [keysI], ⟨0, rfl, rfl⟩, fun s v h => ?_, fun s k h => ?_⟩
  · rw [getI_cons] at h
    split at h
    · rename_i e
      cases h
      refine ⟨Int.le_refl _, .inl ?_⟩
      rw [getI_cons, if_pos e]
      simp
    · cases h
  · rw [getI_cons] at h
    split at h
    · rename_i e
      cases h
      exact ⟨0, by rw [getI_cons, if_pos e], by simp⟩
    · cases h
theorem lk_step {P : Int → List (Int × Int)} {b T lo hi : Int} {S D : Dk} (h : Lk b (hi - lo) T S D) (b2 : 2 ≤ b) (hl : lo ≤ hi)
    (hP : ∀ s v, getI S s = some v → ∃ p k, (p, k) ∈ P s) (hlo : ∀ s v p k, getI S s = some v → (p, k) ∈ P s → lo ≤ p ∧ p ≤ hi) :
    Lk b (hi - lo) (b * T + maxL ((gainOf P D).map (·.2))) (sumOf P b S) (laterOf b (hi - lo) (gainOf P D)) ∧ gainOf P D ≠ [] ∧ sumOf P b S ≠ [] := by
  have nS := bestOn_nodup (P := P) (f := fun v p => b * v + p) (d := S) (l := []) .nil
  have nG := bestOn_nodup (P := P) (f := fun v p => p - v) (d := D) (l := []) .nil
  have eS : ∀ {k w}, getI (sumOf P b S) k = some w → ∃ s v p, getI S s = some v ∧ (p, k) ∈ P s ∧ w = b * v + p := fun {k w} e => by
    rcases bestOn_from S [] e with e | ⟨s, v, p, m, hp, e⟩
    · cases e
    · exact ⟨s, v, p, mem_getI h.nS m, hp, e⟩
  have eG : ∀ {k w}, getI (gainOf P D) k = some w → ∃ s v p, getI D s = some v ∧ (p, k) ∈ P s ∧ w = p - v := fun {k w} e => by
    rcases bestOn_from D [] e with e | ⟨s, v, p, m, hp, e⟩
    · cases e
    · exact ⟨s, v, p, mem_getI h.nD m, hp, e⟩
  have hS : ∀ {s v p k}, getI S s = some v → (p, k) ∈ P s → ∃ u, getI (sumOf P b S) k = some u ∧ b * v + p ≤ u := fun {s v p k} e hp => bestOn_has (f := fun v p => b * v + p) S [] (getI_some_mem e) hp
  have hG : ∀ {s v p k}, getI D s = some v → (p, k) ∈ P s → ∃ u, getI (gainOf P D) k = some u ∧ p - v ≤ u := fun {s v p k} e hp => bestOn_has (f := fun v p => p - v) D [] (getI_some_mem e) hp
  obtain ⟨s0, t1, t2⟩ := h.top
  obtain ⟨p0, k0, hp0⟩ := hP s0 T t1
  obtain ⟨u0, hu0, lu0⟩ := hG t2 hp0
  have r0 := hlo s0 T p0 k0 t1 hp0
  have gne : gainOf P D ≠ [] := fun z => by rw [z] at hu0; cases hu0
  have sne : sumOf P b S ≠ [] := fun z => by
    obtain ⟨u, hu, _⟩ := hS t1 hp0
    rw [z] at hu; cases hu
  generalize hm : maxL ((gainOf P D).map (·.2)) = m
  have mle : ∀ {k w}, getI (gainOf P D) k = some w → w ≤ m := fun {k w} e => by
    rw [← hm]
    exact le_maxL (List.mem_map_of_mem (f := (·.2)) (getI_some_mem e))
  have mmem : ∃ k, getI (gainOf P D) k = some m := by
    have := maxL_mem (l := (gainOf P D).map (·.2)) (by simpa using gne)
    obtain ⟨q, hq, e⟩ := List.mem_map.mp this
    rw [hm] at e
    exact ⟨q.1, mem_getI nG (by rw [← e]; exact hq)⟩
  have mlo : lo ≤ m := by have := mle hu0; omega
  obtain ⟨kt, hkt⟩ := mmem
  -- what a path along s pays
  have path : ∀ {s v p k}, getI S s = some v → (p, k) ∈ P s → (getI D s = some (b * (T - v)) ∧ b * v + p = b * T + (p - b * (T - v))) ∨
      (0 < b * (b * T + m - (b * v + p)) ∧ (hi - lo) * b ≤ b * (b * T + m - (b * v + p)) * (b - 1)) := fun {s v p k} e hp => by
    rcases (h.of s v e).2 with d | ⟨_, d1, d2⟩
    · refine .inl ⟨d, ?_⟩
      rw [Int.mul_sub]
      omega
    · right
      have r := hlo s v p k e hp
      generalize hx : b * (T - v) = x at d1 d2
      have e1 : b * T + m - (b * v + p) = x + (m - p) := by
        rw [← hx, Int.mul_sub]; omega
      rw [e1]
      have x1 : hi - lo < x := by
        rcases Int.lt_or_le (hi - lo) x with l | l
        · exact l
        · exfalso
          have a1 : x * (b - 1) ≤ (hi - lo) * (b - 1) := Int.mul_le_mul_of_nonneg_right l (by omega)
          have a2 : (hi - lo) * (b - 1) = (hi - lo) * b - (hi - lo) := by rw [Int.mul_sub, Int.mul_one]
          omega
      have y0 : x - (hi - lo) ≤ x + (m - p) := by omega
      generalize hy : x + (m - p) = y at y0
      have y1 : 0 < y := by omega
      refine ⟨Int.mul_pos (by omega) y1, ?_⟩
      rw [Int.mul_assoc, Int.mul_comm (hi - lo) b]
      refine Int.mul_le_mul_of_nonneg_left ?_ (by omega)
      have a1 : (x - (hi - lo)) * (b - 1) ≤ y * (b - 1) := Int.mul_le_mul_of_nonneg_right y0 (by omega)
      have a2 : (x - (hi - lo)) * (b - 1) = x * (b - 1) - ((hi - lo) * b - (hi - lo)) := by
        rw [Int.sub_mul, Int.mul_sub (hi - lo), Int.mul_one]
      omega
  have gto : ∀ {k w}, getI (gainOf P D) k = some w → ∃ u, getI (sumOf P b S) k = some u ∧ b * T + w ≤ u := fun {k w} e => by
    obtain ⟨s, v, p, hs, hp, e2⟩ := eG e
    obtain ⟨x, hx, e3⟩ := h.sub s v hs
    obtain ⟨u, hu, lu⟩ := hS hx hp
    refine ⟨u, hu, ?_⟩
    rw [e3, Int.mul_sub] at e2
    omega
  have stop : ∀ {k w}, getI (sumOf P b S) k = some w → w ≤ b * T + m := fun {k w} e => by
    obtain ⟨s, v, p, hs, hp, e2⟩ := eS e
    rcases path hs hp with ⟨d, e3⟩ | ⟨d1, _⟩
    · obtain ⟨u, hu, lu⟩ := hG d hp
      have := mle hu
      omega
    · rw [← e2] at d1
      have := Int.pos_of_mul_pos_right d1 (by omega)
      omega
  have lg := fun {to k} => later_get (b := b) (sp := hi - lo) (g := gainOf P D) nG (to := to) (k := k)
  simp only [hm] at lg
  refine ⟨⟨nS, later_keys nG, ⟨kt, ?_, ?_⟩, fun to w e => ⟨stop e, ?_⟩, fun to k e => ?_⟩, gne, sne⟩
  · obtain ⟨u, hu, lu⟩ := gto hkt
    have := stop hu
    rw [hu, show u = b * T + m by omega]
  · refine lg.mpr ⟨m, hkt, by simp, rfl⟩
  · obtain ⟨s, v, p, hs, hp, e2⟩ := eS e
    rcases path hs hp with ⟨d, e3⟩ | ⟨d1, d2⟩
    · obtain ⟨x, hx, lx⟩ := hG d hp
      obtain ⟨u, hu, lu⟩ := gto hx
      rw [e] at hu
      cases hu
      have ex : x = w - b * T := by omega
      have le := stop e
      have ew : b * (b * T + m - w) = b * (m - x) := by rw [ex]; congr 1; omega
      by_cases hh : hopes b (hi - lo) (b * (m - x)) = true
      · left
        rw [ew]
        exact lg.mpr ⟨x, hx, rfl, hh⟩
      · right
        have hh2 : ¬ (b * (m - x) = 0) ∧ ¬ (b * (m - x) * (b - 1) < (hi - lo) * b) := by
          unfold hopes at hh
          simpa using hh
        have pos : 0 ≤ b * (m - x) := Int.mul_nonneg (by omega) (by omega)
        refine ⟨?_, by rw [ew]; omega, by rw [ew]; omega⟩
        cases q : getI (laterOf b (hi - lo) (gainOf P D)) to with
        | none => rfl
        | some k =>
          obtain ⟨x2, hx2, e4, h4⟩ := lg.mp q
          rw [hx] at hx2
          cases hx2
          rw [e4] at h4
          exact absurd h4 hh
    · right
      rw [← e2] at d1 d2
      refine ⟨?_, d1, d2⟩
      cases q : getI (laterOf b (hi - lo) (gainOf P D)) to with
      | none => rfl
      | some k =>
        exfalso
        obtain ⟨x2, hx2, e4, h4⟩ := lg.mp q
        obtain ⟨u, hu, lu⟩ := gto hx2
        rw [e] at hu
        cases hu
        have a1 : b * (b * T + m - w) ≤ b * (m - x2) := Int.mul_le_mul_of_nonneg_left (by omega) (by omega)
        have a2 := Int.mul_le_mul_of_nonneg_right a1 (show 0 ≤ b - 1 by omega)
        unfold hopes at h4
        rw [e4] at h4
        simp only [Bool.or_eq_true, decide_eq_true_eq] at h4
        omega
  · obtain ⟨x, hx, e4, h4⟩ := lg.mp e
    obtain ⟨u, hu, lu⟩ := gto hx
    refine ⟨u, hu, ?_⟩
    -- the sum there is that of the gain: else it is hopeless
    obtain ⟨s, v, p, hs, hp, e2⟩ := eS hu
    rcases path hs hp with ⟨d, e3⟩ | ⟨d1, d2⟩
    · obtain ⟨x2, hx2, lx⟩ := hG d hp
      rw [hx] at hx2
      cases hx2
      rw [e4, show u = b * T + x by omega]
      congr 1
      omega
    · exfalso
      rw [← e2] at d1 d2
      have a1 : b * (b * T + m - u) ≤ b * (m - x) := Int.mul_le_mul_of_nonneg_left (by omega) (by omega)
      have a2 := Int.mul_le_mul_of_nonneg_right a1 (show 0 ≤ b - 1 by omega)
      unfold hopes at h4
      rw [e4] at h4
      simp only [Bool.or_eq_true, decide_eq_true_eq] at h4
      omega
end My
/-! ### list comprehensions of any number of clauses: clause by clause -/
namespace My
open PySem PySem.Spec PyProof.Rows L2
/-- what goes from a clause's turn into the next clause, and then on -/
def nextOf (e : Expr) (k : Nat) (it1 : Expr) (acc : Value) (env : Env) (on : Sem Fin) : Sem Fin := do
  let got ← eval it1 env
  standAt it1.pos
  let src ← foldedSetIterable it1 env got
  let _ ← runOwn (.compStart e k (← holding [src] (pyIter src)) acc env) env
  on
def lastOf (elt : Expr) (acc : Value) (env : Env) (on : Sem Fin) : Sem Fin := (do
  let made ← eval elt env
  let _ ← call (.builtin "list.append") [acc, made]) >>= fun _ => on
/-- a clause's turn -/
def TurnIs (elt : Expr) (gens : List Comprehension) (scope : Scope) (pos : Pos) (k : Nat) (tg iter : Expr) (ifs : List Expr) (acc : Value) (env : Env) (body : Sem Fin → Sem Fin) : Prop := ∀ it, compTurn (.ListComp elt gens scope pos) k it acc env = (standAt iter.pos >>= fun _ => pyNext it >>= fun got => match got with
  | none => pure (.done .next)
  | some v => letOwnedTupleGo tg it v >>= fun _ => assign tg env v >>= fun _ =>
    (forIn ifs true fun c r => if r = true then do let yes ← isTrue c env (eval c env); pure (ForInStep.yield yes) else pure (ForInStep.yield r)) >>= fun yes =>
      if yes = true then body (again (.compLoop (.ListComp elt gens scope pos) k it acc env)) else again (.compLoop (.ListComp elt gens scope pos) k it acc env))
section
variable {elt t0 i0 t1 i1 t2 i2 : Expr} {f0 f1 f2 : List Expr} {scope : Scope} {pos : Pos} {acc : Value} {env : Env}
abbrev cls3 (t0 i0 t1 i1 t2 i2 : Expr) (f0 f1 f2 : List Expr) : List Comprehension := [⟨t0, i0, f0, 0⟩, ⟨t1, i1, f1, 0⟩, ⟨t2, i2, f2, 0⟩]
theorem turn3_0 : TurnIs elt (cls3 t0 i0 t1 i1 t2 i2 f0 f1 f2) scope pos 0 t0 i0 f0 acc env (nextOf (.ListComp elt (cls3 t0 i0 t1 i1 t2 i2 f0 f1 f2) scope pos) 1 i1 acc env) := fun _ => rfl
theorem turn3_1 : TurnIs elt (cls3 t0 i0 t1 i1 t2 i2 f0 f1 f2) scope pos 1 t1 i1 f1 acc env (nextOf (.ListComp elt (cls3 t0 i0 t1 i1 t2 i2 f0 f1 f2) scope pos) 2 i2 acc env) := fun _ => rfl
theorem turn3_2 : TurnIs elt (cls3 t0 i0 t1 i1 t2 i2 f0 f1 f2) scope pos 2 t2 i2 f2 acc env (lastOf elt acc env) := fun _ => rfl
end
section
variable {prog : Program} {w : World} {A : Around} {R : Result → Shared → Prop} {s : Shared} {tg iter elt : Expr} {gens : List Comprehension} {scope : Scope} {pos : Pos} {ifs : List Expr} {acc : Value} {env : Env} {body : Sem Fin → Sem Fin} {k : Nat} {it : Value}
/-- a body comes to where N holds, and nothing is raised -/
def Comes (prog : Program) (w : World) (A : Around) (body : Sem Fin → Sem Fin) (N : Shared → Prop) (s : Shared) : Prop :=
  ∀ (on : Sem Fin) (Q : Fin → Shared → Prop) (E : Value → Shared → Prop), (∀ s', N s' → wpAny (model prog w) A on Q E s') → wpAny (model prog w) A (body on) Q E s
/-- one clause's loop, nothing being raised in it: J holds ahead of each turn -/
theorem loop_of (ti : TurnIs elt gens scope pos k tg iter ifs acc env body) (J : Nat → Shared → Prop)
    (h : ∀ n s, J n s → wpAny (model prog w) A (pyNext it) (fun got s1 => match got with
      | none => R (.ok .next) s1
      | some v => wpAny (model prog w) A (letOwnedTupleGo tg it v) (fun _ s2 => wpAny (model prog w) A (assign tg env v) (fun _ s3 =>
          wpAny (model prog w) A (forIn ifs true fun c r => if r = true then do let yes ← isTrue c env (eval c env); pure (ForInStep.yield yes) else pure (ForInStep.yield r)) (fun yes s4 =>
            if yes = true then Comes prog w A body (fun s5 => ∃ m, m < n ∧ J m s5) s4 else ∃ m, m < n ∧ J m s4) (fun _ _ => False) s3) (fun _ _ => False) s2) (fun _ _ => False) s1) (fun _ _ => False) s)
    (n : Nat) (hn : J n s) : codeAny (model prog w) A (.compLoop (.ListComp elt gens scope pos) k it acc env) R s := by
  refine codeAny_loop rfl J (fun n s hJ => ?_) n hn
  show wpAny _ A ((compTurn (.ListComp elt gens scope pos) k it acc env).onRaise (fun x => do noteFrame x env; theTreesLotGoes x)) _ _ s
  refine wpAny_noted ?_
  rw [ti it]
  have no : ∀ {E : Value → Shared → Prop} (x : Value) (s' : Shared), False → E x s' := fun _ _ z => z.elim
  refine wpAny_bind (wpAny_standAt (wpAny_bind (wpAny_mono (h n s hJ) (fun got s1 h1 => ?_) no)))
  cases got with
  | none => exact wpAny_pure h1
  | some v =>
    refine wpAny_bind (wpAny_mono h1 (fun _ s2 h2 => wpAny_bind (wpAny_mono h2 (fun _ s3 h3 => wpAny_bind (wpAny_mono h3 (fun yes s4 h4 => ?_) no)) no)) no)
    cases yes with
    | false => exact wpAny_pure ⟨rfl, h4⟩
    | true => exact h4 _ _ _ fun s5 h5 => wpAny_pure ⟨rfl, h5⟩
/-- a clause behind the first one starts -/
theorem start_of {c : Comprehension} (hc : gens[k]? = some c) (ha : (c.is_async != 0) = false) (h0 : codeAny (model prog w) A (.compLoop (.ListComp elt gens scope pos) k it acc env) R s)
    (h : wpAny (model prog w) A (pyIter it) (fun it' s' => codeAny (model prog w) A (.compLoop (.ListComp elt gens scope pos) k it' acc env) R s') (fun _ _ => False) s) :
    codeAny (model prog w) A (.compStart (.ListComp elt gens scope pos) k it acc env) R s := by
  refine codeAny_of_tree ?_
  show wpAny _ _ ((compStart (.ListComp elt gens scope pos) k it acc env).onRaise (fun x => do noteFrame x env; standAt theWindowsPlace)) _ _ s
  refine wpAny_notedAt ?_
  unfold compStart
  have hcl : (clausesOf (.ListComp elt gens scope pos))[k]? = some c := hc
  rw [hcl]
  simp only [Option.elim_some, ha]
  refine wpAny_bind (wpAny_askSetting (wpAny_ite ?_))
  split
  · first
      | exact wpAny_bind (wpAny_pure (wpAny_pure (And.intro rfl h0)))
      | exact wpAny_pure (And.intro rfl h0)
  · exact wpAny_bind (wpAny_rule (wpAny_bind (wpAny_standAt (wpAny_bind (wpAny_mono h (fun it' s' h' => wpAny_pure (And.intro rfl h')) fun _ _ z => z.elim)))))
end
/-! what a clause asks -/
abbrev TC := L2.St → Hp → (Hp → Prop) → Prop
def tEnd (te : TE) (D : Addr) : TC := fun σ H N => te σ H fun y H1 => ∃ made, H1 D = some (.lst made) ∧ made.length < sizeLine ∧ N (upd H1 D (.lst (made ++ [y])))
def tTurns (J : It) (g : TG) (tt : TT) (vs : List Nat) (t : TC) : TC := fun σ H N => ∃ W : Nat → Nat → Hp → Prop, (∃ m, W 0 m H) ∧ ∀ i m H, W i m H →
  (J.stop i H ∧ N H) ∨ (J.go i H ∧ ∃ N1 : Hp → Prop, (∀ H', N1 H' → ∃ m', m' < m ∧ W (i + 1) m' H') ∧ ∀ x H', J.yld i H x H' → g x (wipe σ vs) H' fun σ2 H2 => wipe σ2 vs = wipe σ vs ∧ tt σ2 H2 fun b H3 => if b = true then t σ2 H3 N1 else N1 H3)
def tNest (wi : TI) (g : TG) (tt : TT) (vs : List Nat) (t : TC) : TC := fun σ H N => wi σ H fun J H1 => tTurns J g tt vs t σ H1 N
def tLcN (wi : TI) (g : TG) (tt : TT) (vs : List Nat) (t : Addr → TC) : TE := fun σ H Q => wi σ H fun J H1 => ∀ D, H1 D = none → tTurns J g tt vs (t D) σ (upd H1 D (.lst [])) (Q (.ref D))
/-- what a clause's body does within the block -/
structure PCl (B : Cx) (body : Sem Fin → Sem Fin) (t : TC) (vd : List Nat) : Prop where
  run : ∀ (pins : List (Addr × Obj)) (s : Shared) (σ : L2.St) (H : Hp) (N : Hp → Prop), Inv B pins σ H s → t σ H N → Comes B.prog B.w B.A body (fun s' => ∃ H', Inv B pins (wipe σ vd) H' s' ∧ N H') s
section
variable {X : Cx} {sB : Shared} {HB : Hp} {scB : Scope} {ceB : Env} {fpB : List Addr} {elt tg iter : Expr} {gens : List Comprehension} {scope : Scope} {pos : Pos} {ifs : List Expr} {body : Sem Fin → Sem Fin} {k : Nat} {D : Addr} {wi : TI} {g : TG} {tt : TT} {te : TE} {t : TC} {vd vs : List Nat}
theorem pcl_last (he : PE (X.blk sB HB scB ceB fpB) elt te) : PCl (X.blk sB HB scB ceB fpB) (lastOf elt (.ref D) ceB) (tEnd te D) [] := by
  refine ⟨fun pins s σ H N I h on Q E q => ?_⟩
  unfold lastOf
  refine wpAny_bind (wpAny_bind (wpAny_mono (he.run pins s σ H _ I h) (fun z s1 h1 => ?_) fun _ _ z => z.elim))
  obtain ⟨y, H1, I1, r1, made, hD, hz, n⟩ := h1
  refine wpAny_bind (app_ok (X := X.blk sB HB scB ceB fpB) I1 hD hz r1 fun s2 I2 => wpAny_pure ?_)
  exact q s2 ⟨_, I2, n⟩
/-- the turns of one clause, from where its iterator stands -/
theorem turns_run {pins : List (Addr × Obj)} {s : Shared} {σ : L2.St} {H : Hp} {N : Hp → Prop} {it : Addr} {fp : List Addr} {tn : Nat → Heap → Prop} {J : It} (hc : X.calm = true)
    (ti : TurnIs elt gens scope pos k tg iter ifs (.ref D) ceB body) (hg : PG (X.blk sB HB scB ceB fpB) tg g) (ht : PTs (X.blk sB HB scB ceB fpB) ifs tt) (hb : PCl (X.blk sB HB scB ceB fpB) body t vd) (hv : ∀ i ∈ vd, i ∈ vs)
    (I : Inv (X.blk sB HB scB ceB fpB) pins σ H s) (T : Turn X.prog X.w X.K tg J fp it tn) (st : tn 0 s.heap) (hfp : ∀ H' : Hp, (∀ b ∈ fp, H' b = none) → ∀ b ∈ fp, FpOk (X.blk sB HB scB ceB fpB) pins H' b) (f0 : ∀ b ∈ fp, H b = none) (h : tTurns J g tt vs t σ H N)
    {R : Result → Shared → Prop} (hR : ∀ s' H', Inv (X.blk sB HB scB ceB fpB) pins (wipe σ vs) H' s' → N H' → R (.ok .next) s') :
    codeAny (model X.prog X.w) X.A (.compLoop (.ListComp elt gens scope pos) k (.ref it) (.ref D) ceB) R s := by
  obtain ⟨W, ⟨m0, w0⟩, turn⟩ := h
  refine loop_of ti (fun n s' => ∃ i H', Inv (X.blk sB HB scB ceB fpB) pins (wipe σ vs) H' s' ∧ tn i s'.heap ∧ (∀ b ∈ fp, H' b = none) ∧ W i n H') ?_ m0 ⟨0, H, I.weak (wipe_length _ _) (fun j v e => (wipe_some e).1), st, f0, w0⟩
  rintro n s1 ⟨i, H1, I1, st1, n1, w1⟩
  rcases turn i n H1 w1 with ⟨stop, fine⟩ | ⟨go, N1, hN1, step⟩
  · refine wpAny_mono (T.done (X.blk sB HB scB ceB fpB) rfl rfl rfl hc i _ s1 (wipe σ vs) H1 (fun _ _ => False) I1 (hfp H1 n1) st1 stop) (fun got s2 h2 => ?_) fun _ _ z => z.elim
    obtain ⟨e, I2⟩ := h2
    subst e
    exact hR s2 H1 I2 fine
  · refine wpAny_mono (T.item (X.blk sB HB scB ceB fpB) rfl rfl rfl hc i _ s1 (wipe σ vs) H1 (fun _ _ => False) I1 (hfp H1 n1) st1 go) (fun got s2 h2 => ?_) fun _ _ z => z.elim
    obtain ⟨u, e, h2⟩ := h2
    subst e
    refine wpAny_mono h2 (fun _ s3 h3 => ?_) fun _ _ z => z.elim
    obtain ⟨x, H3, I3, r3, y3, st3, n3⟩ := h3
    have I3' := I3.pinned (hfp H3 n3) (T.obj _ _ st3)
    refine wpAny_mono (hg.run _ s3 (wipe σ vs) H3 x u _ I3' r3 (step x H3 y3)) (fun _ s4 h4 => ?_) fun _ _ z => z.elim
    obtain ⟨σ4, H4, I4, w4, q4⟩ := h4
    refine wpAny_mono (ht.run _ s4 σ4 H4 _ I4 q4) (fun b s5 h5 => ?_) fun _ _ z => z.elim
    obtain ⟨H5, I5, q5⟩ := h5
    have next : ∀ {σ' : L2.St} {s' : Shared} {H' : Hp}, Inv (X.blk sB HB scB ceB fpB) (pins ++ pinsAt fp s3.heap) σ' H' s' → (wipe σ vs).length = σ'.length → (∀ (j : Nat) v, (wipe σ vs)[j]? = some (some v) → σ'[j]? = some (some v)) → N1 H' →
        ∃ m, m < n ∧ ∃ i H', Inv (X.blk sB HB scB ceB fpB) pins (wipe σ vs) H' s' ∧ tn i s'.heap ∧ (∀ b ∈ fp, H' b = none) ∧ W i m H' := fun {σ' s' H'} I' hl hk nx => by
      obtain ⟨m', hm, w'⟩ := hN1 H' nx
      have there : ∀ b ∈ fp, ∀ o, s3.heap.get? b = some o → s'.heap.get? b = some o ∧ H' b = none := fun b hb o e => by
        have z := I'.pin (b, o) (List.mem_append_right _ (List.mem_append_right _ (mem_pinsAt hb e)))
        exact ⟨z.1, z.2.1⟩
      refine ⟨m', hm, i + 1, H', I'.unpinned.weak hl hk, T.keep _ _ _ st3 fun b hb o e => (there b hb o e).1, fun b hb => ?_, w'⟩
      obtain ⟨o, e, _⟩ := T.obj _ _ st3 b hb
      exact (there b hb o e).2
    cases b with
    | false => exact next I5 (by rw [← w4, wipe_length]) (fun j v e => by rw [← w4] at e; exact (wipe_some e).1) q5
    | true =>
      intro on Q E q
      refine hb.run _ s5 σ4 H5 N1 I5 q5 on Q E fun s6 h6 => q s6 ?_
      obtain ⟨H6, I6, nx⟩ := h6
      refine next I6 (by rw [← w4, wipe_length, wipe_length]) (fun j v e => ?_) nx
      rw [← w4] at e
      obtain ⟨e1, e2⟩ := wipe_some e
      rw [wipe_out fun z => e2 (hv j z)]
      exact e1
/-- one clause more -/
theorem pcl_next (hc : X.calm = true) (hk : gens[k]? = some ⟨tg, iter, ifs, 0⟩) (ti : TurnIs elt gens scope pos k tg iter ifs (.ref D) ceB body) (hi : PI (X.blk sB HB scB ceB fpB) tg iter wi) (hg : PG (X.blk sB HB scB ceB fpB) tg g) (ht : PTs (X.blk sB HB scB ceB fpB) ifs tt) (hb : PCl (X.blk sB HB scB ceB fpB) body t vd) (hv : ∀ i ∈ vd, i ∈ vs)
    (hs : ∀ x, foldedSetIterable iter ceB x = pure x) : PCl (X.blk sB HB scB ceB fpB) (nextOf (.ListComp elt gens scope pos) k iter (.ref D) ceB) (tNest wi g tt vs t) vs := by
  refine ⟨fun pins s σ H N I h on Q E q => ?_⟩
  unfold nextOf
  refine wpAny_bind (wpAny_mono (hi.run pins s σ H _ I h) (fun z s1 h1 => ?_) fun _ _ z => z.elim)
  refine wpAny_bind (wpAny_standAt (wpAny_bind (wpAny_of_eq (hs z) (wpAny_bind (wpAny_holding (wpAny_mono h1 (fun it1 s2 h2 => ?_) fun _ _ z => z.elim))))))
  obtain ⟨it, fp, tn, J, H2, e, I2, T, st, f2, tr⟩ := h2
  subst e
  refine wpAny_bind (wpAny_runOwn ?_)
  rw [Around.mark_none]
  have loop : codeAny (model X.prog X.w) X.A (.compLoop (.ListComp elt gens scope pos) k (.ref it) (.ref D) ceB) (fun r s' => match r with
      | .ok _ => ∃ H', Inv (X.blk sB HB scB ceB fpB) pins (wipe σ vs) H' s' ∧ N H'
      | .error _ => False) s2 :=
    turns_run hc ti hg ht hb hv I2 T st (fun H' hn b hb => ⟨hn b hb, (f2 b hb).2⟩) (fun b hb => (f2 b hb).1) tr fun s' H' I' n' => ⟨H', I', n'⟩
  refine codeAny_mono (start_of hk rfl loop (T.self X.A 0 _ _ _ st loop)) fun r s' hr => ?_
  cases r with
  | error e => exact hr.elim
  | ok f => exact q s' hr
end
/-! the whole comprehension -/
section
variable {X : Cx} {elt tg iter : Expr} {more : List Comprehension} {scope : Scope} {own : List (Str × Nat)} {pos : Pos} {ifs : List Expr} {wi : TI} {g : TG} {tt : TT} {t : Addr → TC} {vd : List Nat} {body : Value → Env → Sem Fin → Sem Fin}
theorem pe_lcN (hc : X.calm = true) (hN : X.N.Nodup) (hi : PI X tg iter wi) (ok : BlkOk X.N X.env.scope scope own)
    (ti : ∀ acc env, TurnIs elt (⟨tg, iter, ifs, 0⟩ :: more) scope pos 0 tg iter ifs acc env (body acc env))
    (hg : ∀ (s : Shared) (H : Hp) (C : Addr) (cl : List (Str × Addr)) (fp : List Addr), PG (X.blk s H scope (compEnvC scope cl C X.env) fp) tg g)
    (ht : ∀ (s : Shared) (H : Hp) (C : Addr) (cl : List (Str × Addr)) (fp : List Addr), PTs (X.blk s H scope (compEnvC scope cl C X.env) fp) ifs tt)
    (hb : ∀ (s : Shared) (H : Hp) (C : Addr) (cl : List (Str × Addr)) (fp : List Addr) (D : Addr), PCl (X.blk s H scope (compEnvC scope cl C X.env) fp) (body (.ref D) (compEnvC scope cl C X.env)) (t D) vd)
    (hv : ∀ i ∈ vd, i ∈ own.map (·.2)) (hs : ∀ x, foldedSetIterable iter X.env x = pure x := by intro _; rfl) :
    PE X (.ListComp elt (⟨tg, iter, ifs, 0⟩ :: more) scope pos) (tLcN wi g tt (own.map (·.2)) t) := by
  refine ⟨fun pins s σ H Q I h => ?_⟩
  rw [eval_ListComp]
  have captured : ∀ y ∈ scope.names, y.2 = .free → ∃ c, X.env.cells.lookup y.1 = some c := fun y hy e =>
    (ok.free y hy e).elim (fun z => I.ok.has _ (.inl z)) fun z => I.ok.has _ (.inr z)
  refine wpAny_comprehension_free (use := none) (g := ⟨tg, iter, ifs, 0⟩) (gs := more) rfl hs (closure_ok captured) ok.kind (fun y hy e => by rw [ok.uniq y hy, e])
    (thn (hi.run pins s σ H _ I h) fun z s1 hz => thn hz fun w s2 hw => ?_)
  obtain ⟨it, fp, tn, J, H2, e, I2, T, st2, f2, q⟩ := hw
  subst e
  refine wpAny_newObj_type (newEnv_comp ?_) (by show 0 ≤ sizeLine; decide)
  obtain ⟨D, hD⟩ : ∃ D, s2.heap.objs.size = D := ⟨_, rfl⟩
  rw [hD]
  have tr := q D (I2.hok.fresh (Nat.le_of_eq hD))
  obtain ⟨s3, hs3⟩ : ∃ s3 : Shared, ({ s2 with heap := s2.heap.push { cls := .type "list", data := .seq ([] : List Value).toArray } } : Shared) = s3 := ⟨_, rfl⟩
  have h3 : s3.heap = s2.heap.push { cls := .type "list", data := .seq ([] : List Value).toArray } := by rw [← hs3]
  rw [hs3]
  have I3 : Inv X pins σ (upd H2 D (.lst [])) s3 := by
    rw [← hs3]
    exact I2.laid (t' := s2.toks) (fun b o e => Heap.get?_push_of_some _ e) (Nat.le_of_eq hD) ⟨Nat.zero_le _, [], 0, .nil, hD ▸ Heap.get?_push_size _ rfl⟩
  have old : ∀ b ∈ fp, b < s2.heap.objs.size := fun b hb => (T.obj _ _ st2 b hb).elim fun o e => Heap.lt_size e.1
  have f3 : ∀ b ∈ fp, FpOk X pins (upd H2 D (.lst [])) b ∧ b < s3.heap.objs.size := fun b hb => by
    have l := old b hb
    refine ⟨⟨(upd_ne (by rw [← hD]; exact Nat.ne_of_lt l)).trans (f2 b hb).1, (f2 b hb).2⟩, ?_⟩
    rw [h3, Heap.size_push]
    exact Nat.lt_succ_of_lt l
  have st3 : tn 0 s3.heap := T.keep _ _ _ st2 fun b _ o e => h3 ▸ Heap.get?_push_of_some _ e
  have I4 := block_start I3 ok hN f3
  obtain ⟨cl, hcl⟩ : ∃ cl, cellsFrom (s3.heap.objs.size + 1) scope.names (cloFrom X.env.cells scope.names []) = cl := ⟨_, rfl⟩
  rw [hcl] at I4 ⊢
  have pg := hg s3 (upd H2 D (.lst [])) s3.heap.objs.size cl fp
  have pt := ht s3 (upd H2 D (.lst [])) s3.heap.objs.size cl fp
  have pb := hb s3 (upd H2 D (.lst [])) s3.heap.objs.size cl fp D
  have tin := ti (.ref D) (compEnvC scope cl s3.heap.objs.size X.env)
  have cL : (compEnvC scope cl s3.heap.objs.size X.env).locals = s3.heap.objs.size := rfl
  have f3n : ∀ b ∈ fp, (upd H2 D (.lst [])) b = none := fun b hb => (f3 b hb).1.1
  have fpI : ∀ H' : Hp, (∀ b ∈ fp, H' b = none) → ∀ b ∈ fp, FpOk (X.blk s3 (upd H2 D (.lst [])) scope (compEnvC scope cl s3.heap.objs.size X.env) fp) [] H' b := fun H' hn b hb =>
    ⟨hn b hb, (I4.ok.exf b hb).1, I4.ok.exfs b hb, .inl hb, fun x c e => (I4.ok.exf b hb).2 x c e, fun p hp => absurd (show p ∈ ([] : List (Addr × Obj)) ++ [] from hp) (by simp)⟩
  show codeAny _ _ (.compStart (.ListComp elt (⟨tg, iter, ifs, 0⟩ :: more) scope pos) 0 (.ref it) (.ref D) (compEnvC scope cl s3.heap.objs.size X.env)) (compPost (model X.prog X.w) X.A X.xe none _ (.ref D) s3.heap.objs.size) { s3 with heap := pushCells (s3.heap.push { cls := .type "dict", data := .dict #[] }) scope.names }
  have st4 : tn 0 (pushCells (s3.heap.push { cls := .type "dict", data := .dict #[] }) scope.names) := T.keep _ _ _ st3 fun b _ o e => pushCells_keeps _ _ _ _ (Heap.get?_push_of_some _ e)
  have loop : codeAny (model X.prog X.w) X.A (.compLoop (.ListComp elt (⟨tg, iter, ifs, 0⟩ :: more) scope pos) 0 (.ref it) (.ref D) (compEnvC scope cl s3.heap.objs.size X.env))
      (compPost (model X.prog X.w) X.A X.xe none (fun v s' => ∃ x H', Inv X pins σ H' s' ∧ RelV x v ∧ Q x H') (.ref D) s3.heap.objs.size) { s3 with heap := pushCells (s3.heap.push { cls := .type "dict", data := .dict #[] }) scope.names } := by
    refine turns_run (σ := wipe σ (own.map (·.2))) (N := Q (.ref D)) (vs := own.map (·.2)) hc tin pg pt pb hv I4 T st4 fpI f3n ?_ fun s5 H5 I5 n5 => ?_
    · have ww : ∀ vs' : List Nat, wipe (wipe σ vs') vs' = wipe σ vs' := fun vs' => by
        apply List.ext_getElem?
        intro j
        by_cases m : j ∈ vs'
        · have none_at : ∀ (τ : L2.St), τ.length = σ.length → (wipe τ vs')[j]? = if j < σ.length then some none else none := fun τ lt => by
            cases e : (wipe τ vs')[j]? with
            | none =>
              have := List.getElem?_eq_none_iff.mp e
              rw [wipe_length, lt] at this
              rw [if_neg (by omega)]
            | some o =>
              have := (List.getElem?_eq_some_iff.mp e).1
              rw [wipe_length, lt] at this
              rw [if_pos this]
              cases o with
              | none => rfl
              | some v => exact absurd m (wipe_some e).2
          rw [none_at _ (wipe_length _ _), none_at _ rfl]
        · rw [wipe_out m]
      obtain ⟨W, h0, go⟩ := tr
      refine ⟨W, h0, fun i m H hw => (go i m H hw).imp id fun z => ?_⟩
      rw [ww]
      exact z
    · have I6 : Inv X pins σ H5 s5 := I3.call' (ch := fp) I5.os I5.base I5.hok I5.bare fun b hb => ⟨(f3 b hb).1.2.2.2.1, (f3 b hb).1.2.1, (f3 b hb).1.2.2.2.2.1, (f3 b hb).1.2.2.2.2.2⟩
      obtain ⟨m, hn, _⟩ := I5.loc
      obtain ⟨f0, f1, f2', f3', f4, f5⟩ := I3.fpOk (Nat.le_refl _) (show H5 s3.heap.objs.size = none from I5.free)
      exact ⟨m, hn, fun h'' sb => ⟨.ref D, H5, I6.turned (t' := s5.toks) (fun b o hb e => (sb.2 b hb).trans e) f0 f1 f3' f4 f5, rfl, n5⟩⟩
  exact codeAny_compStart_list loop (T.self X.A 0 _ _ _ st4 loop)
end
section
variable {X : Cx} {elt t0 i0 t1 i1 t2 i2 : Expr} {f0 f1 f2 : List Expr} {scope : Scope} {own : List (Str × Nat)} {vs1 vs2 : List Nat} {pos : Pos} {w0 w1 w2 : TI} {g0 g1 g2 : TG} {u0 u1 u2 : TT} {te : TE}
theorem pe_lc3 (hc : X.calm = true) (hN : X.N.Nodup) (hi : PI X t0 i0 w0) (ok : BlkOk X.N X.env.scope scope own) (hv2 : ∀ i ∈ vs2, i ∈ vs1) (hv1 : ∀ i ∈ vs1, i ∈ own.map (·.2))
    (hg0 : ∀ (s : Shared) (H : Hp) (C : Addr) (cl : List (Str × Addr)) (fp : List Addr), PG (X.blk s H scope (compEnvC scope cl C X.env) fp) t0 g0) (ht0 : ∀ (s : Shared) (H : Hp) (C : Addr) (cl : List (Str × Addr)) (fp : List Addr), PTs (X.blk s H scope (compEnvC scope cl C X.env) fp) f0 u0)
    (hi1 : ∀ (s : Shared) (H : Hp) (C : Addr) (cl : List (Str × Addr)) (fp : List Addr), PI (X.blk s H scope (compEnvC scope cl C X.env) fp) t1 i1 w1) (hg1 : ∀ (s : Shared) (H : Hp) (C : Addr) (cl : List (Str × Addr)) (fp : List Addr), PG (X.blk s H scope (compEnvC scope cl C X.env) fp) t1 g1) (ht1 : ∀ (s : Shared) (H : Hp) (C : Addr) (cl : List (Str × Addr)) (fp : List Addr), PTs (X.blk s H scope (compEnvC scope cl C X.env) fp) f1 u1)
    (hi2 : ∀ (s : Shared) (H : Hp) (C : Addr) (cl : List (Str × Addr)) (fp : List Addr), PI (X.blk s H scope (compEnvC scope cl C X.env) fp) t2 i2 w2) (hg2 : ∀ (s : Shared) (H : Hp) (C : Addr) (cl : List (Str × Addr)) (fp : List Addr), PG (X.blk s H scope (compEnvC scope cl C X.env) fp) t2 g2) (ht2 : ∀ (s : Shared) (H : Hp) (C : Addr) (cl : List (Str × Addr)) (fp : List Addr), PTs (X.blk s H scope (compEnvC scope cl C X.env) fp) f2 u2)
    (he : ∀ (s : Shared) (H : Hp) (C : Addr) (cl : List (Str × Addr)) (fp : List Addr), PE (X.blk s H scope (compEnvC scope cl C X.env) fp) elt te)
    (hs0 : ∀ x, foldedSetIterable i0 X.env x = pure x := by intro _; rfl) (hs1 : ∀ env x, foldedSetIterable i1 env x = pure x := by intro _ _; rfl) (hs2 : ∀ env x, foldedSetIterable i2 env x = pure x := by intro _ _; rfl) :
    PE X (.ListComp elt [⟨t0, i0, f0, 0⟩, ⟨t1, i1, f1, 0⟩, ⟨t2, i2, f2, 0⟩] scope pos) (tLcN w0 g0 u0 (own.map (·.2)) fun D => tNest w1 g1 u1 vs1 (tNest w2 g2 u2 vs2 (tEnd te D))) :=
  pe_lcN (more := [⟨t1, i1, f1, 0⟩, ⟨t2, i2, f2, 0⟩]) (body := fun acc env => nextOf (.ListComp elt (cls3 t0 i0 t1 i1 t2 i2 f0 f1 f2) scope pos) 1 i1 acc env) hc hN hi ok (fun _ _ => turn3_0) hg0 ht0
    (fun s H C cl fp D => pcl_next (gens := cls3 t0 i0 t1 i1 t2 i2 f0 f1 f2) (k := 1) hc rfl turn3_1 (hi1 s H C cl fp) (hg1 s H C cl fp) (ht1 s H C cl fp)
      (pcl_next (gens := cls3 t0 i0 t1 i1 t2 i2 f0 f1 f2) (k := 2) hc rfl turn3_2 (hi2 s H C cl fp) (hg2 s H C cl fp) (ht2 s H C cl fp) (pcl_last (he s H C cl fp)) (fun _ z => nomatch z) (hs2 _)) hv2 (hs1 _)) hv1 hs0
end
end My
/-! ### machines as lists -/
namespace My
open PySem PySem.Spec PyProof.Rows L2
structure Mc where
  b : Int
  z : Str
  C : List (List (List (Int × Int)))
def eP (p : Int × Int) : PyData := .tuple [.int p.1, .int p.2]
def eC (ps : List (Int × Int)) : PyData := .tuple (ps.map eP)
def eS (cs : List (List (Int × Int))) : PyData := .tuple (cs.map eC)
def eM (M : Mc) : PyData := .tuple [.int M.b, .str M.z, .tuple (M.C.map eS)]
/-- the pair of a choice of one -/
def fC (ps : List (Int × Int)) : PyData := eP (ps.headD (0, 0))
def fS (cs : List (List (Int × Int))) : PyData := .tuple (cs.map fC)
def fM (M : Mc) : PyData := .tuple [.int M.b, .str M.z, .tuple (M.C.map fS)]
abbrev wideN : Int := (10 : Int) ^ (30 : Int).toNat
structure Mok (M : Mc) : Prop where
  b2 : 2 ≤ M.b
  b9 : M.b ≤ 9
  ltr : lettersL M.z.cps.toList = true
  c1 : 1 ≤ M.C.length
  c3 : M.C.length ≤ 300
  row : ∀ cs ∈ M.C, cs.length = M.z.length
  ch : ∀ cs ∈ M.C, ∀ ps ∈ cs, 1 ≤ ps.length ∧ ps.length ≤ 3
  pr : ∀ cs ∈ M.C, ∀ ps ∈ cs, ∀ p ∈ ps, -wideN ≤ p.1 ∧ p.1 ≤ wideN ∧ 0 ≤ p.2 ∧ p.2 ≤ (M.C.length : Int) - 1
  few : M.C.length ≤ 4 ∨ ∀ cs ∈ M.C, ∀ ps ∈ cs, ps.length = 1
theorem lift_map {α : Type} {f : α → PyData} {P : α → Prop} : ∀ ds : List PyData, (∀ d ∈ ds, ∃ x, d = f x ∧ P x) → ∃ xs : List α, ds = xs.map f ∧ ∀ x ∈ xs, P x
  | [], _ => ⟨[], rfl, fun _ h => nomatch h⟩
  | d :: ds, h => by
    obtain ⟨x, rfl, hx⟩ := h d (.head _)
    obtain ⟨xs, rfl, hxs⟩ := lift_map ds fun e he => h e (.tail _ he)
    refine ⟨x :: xs, rfl, fun y hy => ?_⟩
    rcases List.mem_cons.mp hy with e | e
    · subst e; exact hx
    · exact hxs y e
theorem pairD_form {most many : Int} {d : PyData} (h : pairD most many d = true) : ∃ p : Int × Int, d = eP p ∧ -most ≤ p.1 ∧ p.1 ≤ most ∧ 0 ≤ p.2 ∧ p.2 ≤ many - 1 := by
  unfold pairD at h
  split at h
  · rename_i p t
    rw [Bool.and_eq_true] at h
    obtain ⟨i, rfl⟩ := betD_int h.1
    obtain ⟨j, rfl⟩ := betD_int h.2
    obtain ⟨h1, h2⟩ := h
    unfold betD at h1 h2
    rw [Bool.and_eq_true, decide_eq_true_eq, decide_eq_true_eq] at h1 h2
    exact ⟨(i, j), rfl, h1.1, h1.2, h2.1, h2.2⟩
  · cases h
theorem chD_form {many : Int} {d : PyData} (h : chD many d = true) : ∃ ps, d = eC ps ∧ (1 ≤ ps.length ∧ ps.length ≤ 3) ∧ ∀ p ∈ ps, -20 ≤ p.1 ∧ p.1 ≤ 20 ∧ 0 ≤ p.2 ∧ p.2 ≤ many - 1 := by
  unfold chD at h
  split at h
  · rename_i ds
    rw [Bool.and_eq_true, Bool.and_eq_true, List.all_eq_true] at h
    obtain ⟨h1, h2, _⟩ := h
    obtain ⟨ps, rfl, hp⟩ := lift_map (f := eP) ds fun d hd => pairD_form (h2 d hd)
    refine ⟨ps, rfl, ?_, hp⟩
    unfold tupD at h1
    rw [Bool.and_eq_true, decide_eq_true_eq, decide_eq_true_eq, List.length_map] at h1
    omega
  · cases h
theorem frmD_form {most : Int} {d : PyData} (h : frmD most d = true) : ∃ (b : Int) (z : Str) (sss : List (List PyData)), d = .tuple [.int b, .str z, .tuple (sss.map .tuple)] ∧ 2 ≤ b ∧ b ≤ 9 ∧ lettersL z.cps.toList = true ∧ 1 ≤ sss.length ∧ (sss.length : Int) ≤ most ∧ ∀ s ∈ sss, s.length = z.length := by
  unfold frmD at h
  split at h
  · rename_i b l s
    rw [Bool.and_eq_true, Bool.and_eq_true] at h
    obtain ⟨h1, h2, h3⟩ := h
    obtain ⟨i, rfl⟩ := betD_int h1
    unfold betD at h1
    rw [Bool.and_eq_true, decide_eq_true_eq, decide_eq_true_eq] at h1
    cases l with
    | str z =>
      have h4 := tabD_tup h3
      cases s with
      | tuple ss =>
        obtain ⟨sss, rfl, hs⟩ := lift_map (f := PyData.tuple) (P := fun s => s.length = z.length) ss fun d hd => by
          have : tupD (z.length : Int) (z.length : Int) d = true := h4.2 d hd
          cases d with
          | tuple es =>
            unfold tupD at this
            rw [Bool.and_eq_true, decide_eq_true_eq, decide_eq_true_eq] at this
            exact ⟨es, rfl, by omega⟩
          | _ => exact absurd this (by simp [tupD])
        have h5 := h4.1
        unfold tupD at h5
        rw [Bool.and_eq_true, decide_eq_true_eq, decide_eq_true_eq, List.length_map] at h5
        exact ⟨i, z, sss, rfl, h1.1, h1.2, h2, by omega, h5.2, hs⟩
      | _ => exact absurd h4.1 (by simp [tupD])
    | _ => exact absurd h2 (by simp [ltrD])
  · cases h
theorem flat_all {sss : List (List PyData)} {f : PyData → Bool} (h : ((sss.map PyData.tuple).flatMap fun st => (elems st).map f).all id = true) : ∀ s ∈ sss, ∀ d ∈ s, f d = true := fun s hs d hd => by
  rw [List.all_eq_true] at h
  exact h (f d) (List.mem_flatMap.mpr ⟨.tuple s, List.mem_map_of_mem hs, List.mem_map_of_mem hd⟩)
theorem lift_map2 {α : Type} {f : α → PyData} {P : α → Prop} : ∀ sss : List (List PyData), (∀ s ∈ sss, ∀ d ∈ s, ∃ x, d = f x ∧ P x) → ∃ xss : List (List α), sss = xss.map (List.map f) ∧ ∀ xs ∈ xss, ∀ x ∈ xs, P x
  | [], _ => ⟨[], rfl, fun _ h => nomatch h⟩
  | s :: sss, h => by
    obtain ⟨xs, rfl, hx⟩ := lift_map s (h s (.head _))
    obtain ⟨xss, rfl, hxs⟩ := lift_map2 sss fun e he => h e (.tail _ he)
    refine ⟨xs :: xss, rfl, fun y hy => ?_⟩
    rcases List.mem_cons.mp hy with e | e
    · subst e; exact hx
    · exact hxs y e
theorem mch_form {d : PyData} (h : mchD d = true) : ∃ M, d = eM M ∧ Mok M ∧ M.C.length ≤ 4 ∧ ∀ cs ∈ M.C, ∀ ps ∈ cs, ∀ p ∈ ps, -20 ≤ p.1 ∧ p.1 ≤ 20 := by
  have hf : frmD 4 d = true := by
    cases e : frmD 4 d with
    | true => rfl
    | false => rw [mchD_not (by rw [e]; decide)] at h; cases h
  obtain ⟨b, z, sss, rfl, b2, b9, hl, s1, s4, hs⟩ := frmD_form hf
  unfold mchD at h
  rw [Bool.and_eq_true] at h
  have h2 := flat_all h.2
  rw [List.length_map] at h2
  obtain ⟨xss, rfl, hx⟩ := lift_map2 (f := eC) sss fun s hs d hd => chD_form (h2 s hs d hd)
  rw [List.length_map] at s1 s4
  refine ⟨⟨b, z, xss⟩, ?_, ⟨b2, b9, hl, s1, (show xss.length ≤ 300 by omega), fun cs hcs => ?_, fun cs hcs ps hps => (hx cs hcs ps hps).1, fun cs hcs ps hps p hp => ?_, .inl (show xss.length ≤ 4 by omega)⟩, (show xss.length ≤ 4 by omega), fun cs hcs ps hps p hp => ?_⟩
  · unfold eM eS
    rw [List.map_map]
    rfl
  · have := hs (cs.map eC) (List.mem_map_of_mem hcs)
    rw [List.length_map] at this
    exact this
  · obtain ⟨p1, p2, p3, p4⟩ := (hx cs hcs ps hps).2 p hp
    have w : (20 : Int) ≤ wideN := by decide +kernel
    rw [List.length_map] at p4
    exact ⟨by omega, by omega, p3, p4⟩
  · obtain ⟨p1, p2, p3, p4⟩ := (hx cs hcs ps hps).2 p hp
    exact ⟨p1, p2⟩
theorem pln_form {d : PyData} (h : plnD d = true) : ∃ M, d = fM M ∧ withD d = eM M ∧ Mok M ∧ ∀ cs ∈ M.C, ∀ ps ∈ cs, ps.length = 1 := by
  have hf : frmD 300 d = true := by
    cases e : frmD 300 d with
    | true => rfl
    | false => rw [plnD_not (by rw [e]; decide)] at h; cases h
  obtain ⟨b, z, sss, rfl, b2, b9, hl, s1, s4, hs⟩ := frmD_form hf
  unfold plnD at h
  rw [Bool.and_eq_true] at h
  have h2 := flat_all h.2
  rw [List.length_map] at h2
  obtain ⟨xss, rfl, hx⟩ := lift_map2 (f := eP) sss fun s hs d hd => pairD_form (h2 s hs d hd)
  rw [List.length_map] at s1 s4
  have one : ∀ cs ∈ xss.map (List.map fun p : Int × Int => [p]), ∀ ps ∈ cs, ∃ xs ∈ xss, ∃ p ∈ xs, ps = [p] ∧ cs = xs.map fun p => [p] := fun cs hcs ps hps => by
    obtain ⟨xs, hxs, rfl⟩ := List.mem_map.mp hcs
    obtain ⟨p, hp, rfl⟩ := List.mem_map.mp hps
    exact ⟨xs, hxs, p, hp, rfl, rfl⟩
  refine ⟨⟨b, z, xss.map (List.map fun p => [p])⟩, ?_, ?_, ⟨b2, b9, hl, ?_, ?_, fun cs hcs => ?_, fun cs hcs ps hps => ?_, fun cs hcs ps hps p hp => ?_, .inr fun cs hcs ps hps => ?_⟩, fun cs hcs ps hps => ?_⟩
  · unfold fM fS
    simp only [List.map_map]
    refine congrArg (fun l => PyData.tuple [.int b, .str z, .tuple l]) (List.map_congr_left fun xs _ => ?_)
    show PyData.tuple (xs.map eP) = .tuple ((xs.map fun p => [p]).map fC)
    rw [List.map_map]
    rfl
  · unfold withD eM eS
    simp only [List.map_map]
    refine congrArg (fun l => PyData.tuple [.int b, .str z, .tuple l]) (List.map_congr_left fun xs _ => ?_)
    show PyData.tuple ((elems (.tuple (xs.map eP))).map fun pr => .tuple [pr]) = .tuple ((xs.map fun p => [p]).map eC)
    unfold elems eC
    simp only [List.map_map]
    rfl
  · show 1 ≤ (List.map _ xss).length
    rw [List.length_map]; exact s1
  · show (List.map _ xss).length ≤ 300
    rw [List.length_map]; omega
  · obtain ⟨xs, hxs, rfl⟩ := List.mem_map.mp hcs
    have := hs (xs.map eP) (List.mem_map_of_mem hxs)
    rw [List.length_map] at this
    rw [List.length_map]
    exact this
  · obtain ⟨xs, hxs, p, hp, rfl, _⟩ := one cs hcs ps hps
    exact ⟨Nat.le_refl _, Nat.le_add_left 1 2⟩
  · obtain ⟨xs, hxs, q, hq, rfl, _⟩ := one cs hcs ps hps
    obtain rfl := List.mem_singleton.mp hp
    obtain ⟨p1, p2, p3, p4⟩ := hx xs hxs p hq
    refine ⟨p1, p2, p3, ?_⟩
    show p.2 ≤ ((List.map _ xss).length : Int) - 1
    rw [List.length_map] at p4 ⊢
    exact p4
  · obtain ⟨xs, hxs, p, hp, rfl, _⟩ := one cs hcs ps hps
    rfl
  · obtain ⟨xs, hxs, p, hp, rfl, _⟩ := one cs hcs ps hps
    rfl
/-! on the heap -/
theorem rpAll_get {K : PySem.W.Frag} {H : Hp} {α : Type} {f : α → PyData} : ∀ {l : List α} {vs : List V}, RpAll K H vs (l.map f) → ∀ {i : Nat} {x : α}, l[i]? = some x → ∃ v, vs[i]? = some v ∧ Rp K H v (f x)
  | [], _, _, i, x, e => by simp at e
  | a :: l, _, .cons h t, 0, x, e => by cases e; exact ⟨_, rfl, h⟩
  | a :: l, _, .cons h t, i + 1, x, e => rpAll_get (l := l) t (i := i) (by simpa using e)
theorem rpAll_back {K : PySem.W.Frag} {H : Hp} {α : Type} {f : α → PyData} : ∀ {l : List α} {vs : List V}, RpAll K H vs (l.map f) → ∀ {i : Nat} {v : V}, vs[i]? = some v → ∃ x, l[i]? = some x ∧ Rp K H v (f x)
  | [], _, .nil, i, v, e => by simp at e
  | a :: l, _, .cons h t, 0, v, e => by cases e; exact ⟨_, rfl, h⟩
  | a :: l, _, .cons h t, i + 1, v, e => rpAll_back (l := l) t (i := i) (by simpa using e)
theorem Rp.pair {K : PySem.W.Frag} {H : Hp} {v : V} {p : Int × Int} (h : Rp K H v (eP p)) : ∃ a, v = .ref a ∧ SqT K H a [.int p.1, .int p.2] := by
  obtain ⟨a, ys, rfl, hS, hA⟩ := Rp.isTup h
  obtain ⟨u, w, p2, t, rfl, e, h1, h2⟩ := hA.two rfl
  cases e
  cases h1.isInt
  cases h2.isInt
  exact ⟨a, rfl, hS⟩
theorem Rp.three {K : PySem.W.Frag} {H : Hp} {v : V} {b : Int} {z : Str} {d : PyData} (h : Rp K H v (.tuple [.int b, .str z, d])) : ∃ a w, v = .ref a ∧ SqT K H a [.int b, .str z, w] ∧ Rp K H w d := by
  obtain ⟨a, ys, rfl, hS, hA⟩ := Rp.isTup h
  obtain ⟨u, w, y, p, t, q, rfl, e, h1, h2, h3⟩ := hA.three rfl
  cases e
  cases h1.isInt
  obtain ⟨_, rfl, e2, _⟩ := h2.isStr rfl
  cases e2
  exact ⟨a, y, rfl, hS, h3⟩
theorem ltr_pos {z : Str} (h : lettersL z.cps.toList = true) : 1 ≤ z.length ∧ z.length ≤ 3 := by
  by_cases e : 1 ≤ z.length ∧ z.length ≤ 3
  · exact e
  · rw [lettersL_not e] at h
    cases h
theorem ixT {X : Cx} {K : PySem.W.Frag} (e : X.K = K) : IxR X (rIxT K) := by
  subst e
  exact ix_tup
theorem piT {X : Cx} {K : PySem.W.Frag} {tg l : Expr} {tl : TE} (e : X.K = K) (h : PE X l tl) : PI X tg l (iTup K tl) := pi_tupK e h
end My
/-! ### dicts of whole numbers on the heap -/
namespace My
open PySem PySem.Spec PyProof.Rows L2
def kd (d : Dk) : List (Key × V) := d.map fun kv => (Sum.inl kv.1, V.int kv.2)
theorem kd_any (d : Dk) (k : Int) : ((kd d).any fun kv => decide (kv.1 = Sum.inl k)) = d.any fun kv => decide (kv.1 = k) := by
  unfold kd
  rw [List.any_map]
  congr 1
  funext kv
  show decide ((Sum.inl kv.1 : Key) = Sum.inl k) = decide (kv.1 = k)
  simp
theorem kd_val (k : Int) : ∀ d : Dk, valV (kd d) (Sum.inl k) = (getI d k).map V.int
  | [] => rfl
  | p :: r => by
    rw [getI_cons]
    show valV ((Sum.inl p.1, V.int p.2) :: kd r) (Sum.inl k) = _
    by_cases e : p.1 = k
    · rw [if_pos e, valV_pos (by rw [e])]
      rfl
    · rw [if_neg e, valV_neg (by show ¬ (Sum.inl p.1 : Key) = Sum.inl k; simpa using e), kd_val k r]
theorem kd_put (d : Dk) (k v : Int) : putK (kd d) (Sum.inl k) (V.int v) = kd (putI d k v) := by
  unfold putK putI
  rw [kd_any]
  split
  · unfold kd
    rw [List.map_map, List.map_map]
    refine List.map_congr_left fun p _ => ?_
    show (if (Sum.inl p.1 : Key) = Sum.inl k then ((Sum.inl p.1 : Key), V.int v) else (Sum.inl p.1, V.int p.2)) = _
    by_cases e : p.1 = k
    · simp [e]
    · simp [e]
  · unfold kd
    rw [List.map_append]
    rfl
theorem kd_get {H : Hp} {a : Addr} {d : Dk} {k : Int} (h : Rd H a (.dK (kd d))) : DGet H a (.int k) ((getI d k).map V.int) := .inl ⟨kd d, Sum.inl k, h, rfl, (kd_val k d).symm⟩
theorem kd_len (d : Dk) : (kd d).length = d.length := List.length_map _
theorem put_len (d : Dk) (k v : Int) : (putI d k v).length ≤ d.length + 1 := by
  unfold putI
  split
  · rw [List.length_map]; omega
  · rw [List.length_append]; exact Nat.le_refl _
theorem kd_keys (d : Dk) : (kd d).map (·.1) = (keysI d).map Sum.inl := by
  unfold kd keysI
  rw [List.map_map, List.map_map]
  rfl
theorem kd_vals (d : Dk) : (kd d).map (·.2) = (d.map (·.2)).map V.int := by
  unfold kd
  rw [List.map_map, List.map_map]
  rfl
/-! the greatest of a dict's values -/
def tMaxVals (td : TE) : TE := fun σ H Q => td σ H fun x H1 => ∃ (a : Addr) (d : Dk), x = V.ref a ∧ H1 a = some (.dK (kd d)) ∧ d ≠ [] ∧ Q (.int (maxL (d.map (·.2)))) H1
section
variable {X : Cx} {o : Expr} {p pos apos mpos : Pos} {td : TE}
theorem pe_maxVals (hc : X.calm = true) (hg : Gl X "max") (hm : X.mg "max" = none) (hd : PE X o td) (hat : attributeBase o "values" X.env (eval o X.env) = eval o X.env := by rfl) (hrow : (apos.endLine == mpos.line) = true := by rfl)
    (hone : starEach [Expr.Call (.Attribute o "values" apos) [] [] mpos] X.env = [(false, eval (Expr.Call (.Attribute o "values" apos) [] [] mpos) X.env)] := by rfl) :
    PE X (.Call (.Name "max" p) [.Call (.Attribute o "values" apos) [] [] mpos] [] pos) (tMaxVals td) := by
  refine ⟨fun pins s σ H Q I h => ?_⟩
  refine wpAny_Call_Name_kw (ld_blt I hg hm (u := .builtin "max") (by decide +kernel) ?_ (by decide +kernel) (by decide +kernel))
  rw [hone]
  refine PySem.callWith_builtin1 (wpAny_Call_method0_late hat hrow (thn (hd.run pins s σ H _ I h) fun dv s1 hx => ?_))
  obtain ⟨x, H1, I1, r1, a, d, rfl, ha, dne, q⟩ := hx
  obtain rfl : dv = Value.ref a := r1
  obtain ⟨_, notSys, vs, rel, dof⟩ := dk_of I1.hok ha
  obtain ⟨ep, dat⟩ := dof.dictAt
  obtain ⟨ob, es, ho, ex, _⟩ := id dat
  refine ⟨"dict", "dict.values", F.plainAttrs_dict, F.slot_dict_values, F.type_dict_values, ⟨ob, ho, ex.1⟩, fun b e => ?_, Calls.callWith_builtin rfl (PySem.evalArgs_none ?_)⟩
  · cases e
    exact ⟨ob, ho, ex.2.1⟩
  refine call_meetsIn F.slot_dict_values ⟨ob, ho, ex.1⟩ F.entry_dict_values (F.args_dict_values_1 _) (meets_dict_values (mixKind X.prog X.w) a notSys) ⟨⟨vs, dof⟩, ?_⟩
  have still : ∀ b u, s1.heap.get? b = some u → (s1.heap.push { cls := .type "dict_values", data := .fields #[.ref a] }).get? b = some u := fun b u e => Heap.get?_push_of_some _ e
  have size1 : (s1.heap.push { cls := .type "dict_values", data := .fields #[.ref a] }).objs.size = s1.heap.objs.size + 1 := Heap.size_push _ _
  have aLow : a < s1.heap.objs.size := Heap.lt_size ho
  have many : vs.length = (d.map (·.2)).length := by rw [← KV.length rel, kd_len, List.length_map]
  have some_ : 0 < vs.length := by
    rw [many, List.length_map]
    exact List.length_pos_iff.mpr dne
  have whole_ : ∀ (i : Nat) (v : Value), (∃ k, vs[i]? = some (k, v)) → ∃ t, v = Value.int ((d.map (·.2)).getD i 0) t := fun i v ⟨k, hk⟩ => by
    obtain ⟨x, e1, e2⟩ := KV.at' rel hk
    have e3 : ((kd d).map (·.2))[i]? = some x := by rw [List.getElem?_map, e1]; rfl
    rw [kd_vals, List.getElem?_map] at e3
    obtain ⟨j, hj, rfl⟩ := Option.map_eq_some_iff.mp e3
    rw [List.getD_eq_getElem?_getD, hj]
    exact e2
  refine call_max_walk (wpAny_pyIter_values (v := s1.heap.objs.size) (d := a) ⟨_, Heap.get?_push_size _ rfl, rfl, rfl⟩ (dat.keep still) ?_)
  refine ⟨_, _, _, _, _, _, _, rfl, Walks.dictValues (knd := mixKind X.prog X.w) (A := X.A.in1) (I.ok.hd hc) (s1.heap.push { cls := .type "dict_values", data := .fields #[.ref a] }).objs.size a (by rw [size1]; exact Nat.ne_of_lt (Nat.lt_succ_of_lt aLow)) vs ep,
    ⟨⟨_, Heap.get?_push_size _ rfl, rfl, rfl⟩, (dat.keep still).keep fun b u e => Heap.get?_push_of_some _ e⟩, fun b hb => ?_, some_, CmpOf.ints_gt (fun i => (d.map (·.2)).getD i 0) whole_, fun v h' tk hP hk => ?_⟩
  · show b < ((s1.heap.push _).push _).objs.size
    rw [Heap.size_push, Heap.size_push]
    rw [size1] at hb
    rcases List.mem_cons.mp hb with e | e
    · rw [e]; exact Nat.lt_succ_self _
    · rw [show b = a from List.mem_singleton.mp e]
      exact Nat.lt_succ_of_lt (Nat.lt_succ_of_lt aLow)
  · obtain ⟨t, rfl⟩ := whole_ _ v hP
    obtain ⟨b1, b2⟩ := argBest_gt (fun i => (d.map (·.2)).getD i 0) (vs.length - 1)
    generalize argBest (fun i j => decide ((d.map (·.2)).getD i 0 > (d.map (·.2)).getD j 0)) (vs.length - 1) = n at b1 b2
    have e : (d.map (·.2)).getD n 0 = maxL (d.map (·.2)) := by
      refine maxL_eq ?_ fun y hy => ?_
      · have : n < (d.map (·.2)).length := by omega
        rw [List.getD_eq_getElem?_getD, List.getElem?_eq_getElem this]
        exact List.getElem_mem this
      · obtain ⟨i, hi, e⟩ := List.mem_iff_getElem.mp hy
        have := b2 i (by omega)
        rw [List.getD_eq_getElem?_getD, List.getElem?_eq_getElem hi] at this
        exact e ▸ this
    rw [e]
    refine ⟨.int _, H1, I1.kept (t' := tk) fun b u eb => hk b u (fun m => ?_) (Heap.get?_push_of_some _ (still b u eb)), ⟨t, rfl⟩, q⟩
    have e1 := List.mem_singleton.mp m
    have e2 := Heap.lt_size eb
    rw [e1, size1] at e2
    exact absurd e2 (Nat.not_lt.mpr (Nat.le_succ _))
end
end My
/-! ### the pays, the spread -/
namespace My
open PySem PySem.Spec PyProof.Rows L2
abbrev sPaysOf : Stmt := topS 26
theorem scPaysOf : FnScope ["machine", "state", "choice", "pair"] ["machine"] (defScope sPaysOf) := ⟨rfl, rfl, rfl, by decide +kernel, rfl, by decide +kernel, by decide +kernel⟩
abbrev sSpreadOf : Stmt := topS 41
theorem scSpreadOf : FnScope ["frame", "pays"] ["frame"] (defScope sSpreadOf) := ⟨rfl, rfl, rfl, by decide +kernel, rfl, by decide +kernel, by decide +kernel⟩
structure SprTxt (K : PySem.W.Frag) (mg : Str → Option Value) (p1 p2 : Addr) (q1 q2 : FuncData) : Prop where
  max : mg "max" = none
  min : mg "min" = none
  FPaysOf : Fun K "pays_of" "pays_of" sPaysOf p1 q1
  bPaysOf : Binds K q1 ["machine"] []
  gPaysOf : mg "pays_of" = some (.ref p1)
  FSpreadOf : Fun K "spread_of" "spread_of" sSpreadOf p2 q2
  bSpreadOf : Binds K q2 ["frame"] []
  gSpreadOf : mg "spread_of" = some (.ref p2)
def paysL (M : Mc) : List Int := (M.C.flatMap fun cs => cs.flatMap fun ps => ps.map (·.1))
def sprd (M : Mc) : Int := maxL (paysL M) - minL (paysL M)
theorem pays_ne {M : Mc} (h : Mok M) : paysL M ≠ [] := fun z => by
  have c1 := h.c1
  obtain ⟨cs, hcs⟩ : ∃ cs, cs ∈ M.C := by
    cases e : M.C with
    | nil => rw [e] at c1; exact absurd c1 (by decide)
    | cons x r => exact ⟨x, .head _⟩
  have l1 := h.row cs hcs
  have l2 := (ltr_pos h.ltr).1
  obtain ⟨ps, hps⟩ : ∃ ps, ps ∈ cs := by
    cases e : cs with
    | nil => rw [e] at l1; rw [← l1] at l2; exact absurd l2 (by decide)
    | cons x r => exact ⟨x, .head _⟩
  have l3 := (h.ch cs hcs ps hps).1
  obtain ⟨p, hp⟩ : ∃ p, p ∈ ps := by
    cases e : ps with
    | nil => rw [e] at l3; exact absurd l3 (by decide)
    | cons x r => exact ⟨x, .head _⟩
  have : p.1 ∈ paysL M := List.mem_flatMap.mpr ⟨cs, hcs, List.mem_flatMap.mpr ⟨ps, hps, List.mem_map_of_mem hp⟩⟩
  rw [z] at this
  cases this
def spPaysOf (K : PySem.W.Frag) : Sp := fun vs H Q _ => ∃ x M, vs = [x] ∧ Rp K H x (eM M) ∧ Mok M ∧ ∀ H' l, Same H H' → H l = none → H' l = some (.lst ((paysL M).map V.int)) → Q (.ref l) H'
def spSpread2 (K : PySem.W.Frag) : Sp := fun vs H Q _ => ∃ x M, vs = [x] ∧ Rp K H x (eM M) ∧ Mok M ∧ ∀ H', Same H H' → Q (.int (sprd M)) H'
section
variable {P : Program} {w : World} {K : PySem.W.Frag} {mg : Str → Option Value} {base : Heap} {p1 p2 : Addr} {q1 q2 : FuncData}
theorem ok_paysOf (T : SprTxt K mg p1 p2 q1 q2) {k : Nat} : FnOk P w K mg base CX0 (k + 1) p1 q1 ["machine"] (spPaysOf K) := by
  refine T.FPaysOf.ok scPaysOf (fun vs H Q E h => ?_) (fun cdv A outer s H vs Q E hr h => ?_)
  · obtain ⟨x, M, rfl, _⟩ := h
    rfl
  · obtain ⟨x, M, rfl, hx, hM, q⟩ := h
    refine ⟨_, (pss_one (ps_ret (pe_lc3 (own := [("state", 1), ("choice", 2), ("pair", 3)]) (vs1 := [2, 3]) (vs2 := [3]) (g0 := gName 1) (g1 := gName 2) (g2 := gName 3) (u0 := tYes) (u1 := tYes) (u2 := tYes) (by rfl) scPaysOf.nd (pi_tup (pe_ix ix_tup (pv 0) pe_int (fun _ _ => rfl))) (blkOk_by (N := ["machine", "state", "choice", "pair"]) (sc := defScope sPaysOf) (by decide +kernel)) (by decide) (by decide) (fun _ _ _ _ _ => pg_name (i := 1) scPaysOf.nd rfl (Or.inl rfl)) (fun _ _ _ _ _ => pts_nil) (fun _ _ _ _ _ => (pi_tupK (K := K) rfl (pv 1))) (fun _ _ _ _ _ => pg_name (i := 2) scPaysOf.nd rfl (Or.inl rfl)) (fun _ _ _ _ _ => pts_nil) (fun _ _ _ _ _ => (pi_tupK (K := K) rfl (pv 2))) (fun _ _ _ _ _ => pg_name (i := 3) scPaysOf.nd rfl (Or.inl rfl)) (fun _ _ _ _ _ => pts_nil) (fun _ _ _ _ _ => (pe_ix (ixT (K := K) rfl) (pv 3) pe_int (fun _ _ => rfl)))))), ?_⟩
    obtain ⟨a, w3, rfl, hS, hC⟩ := hx.three
    obtain ⟨c, xs, rfl, hS2, hA⟩ := hC.isTup
    have lc3 := hM.c3
    have bnd : ∀ (i j n : Nat) (cs : List (List (Int × Int))) (ps : List (Int × Int)), cs ∈ M.C → ps ∈ cs → ((M.C.take i).flatMap fun cs => cs.flatMap fun ps => ps.map (·.1)).length + ((cs.take j).flatMap fun ps => ps.map (·.1)).length + ((ps.take n).map (·.1)).length < sizeLine := fun i j n cs ps hcs hps => by
      have f1 : ∀ cs ∈ M.C, ∀ l : List (List (Int × Int)), (∀ q ∈ l, q ∈ cs) → (l.flatMap fun ps => ps.map (·.1)).length ≤ 3 * l.length := fun cs hcs l hl => flat_len l fun ps hps => by
        rw [List.length_map]
        exact (hM.ch cs hcs ps (hl ps hps)).2
      have f2 := flat_len (g := fun cs : List (List (Int × Int)) => cs.flatMap fun ps => ps.map (·.1)) (n := 9) (M.C.take i) fun cs hcs => by
        have h1 := f1 cs (List.mem_of_mem_take hcs) cs fun _ z => z
        have h2 := hM.row cs (List.mem_of_mem_take hcs)
        have h3 := (ltr_pos hM.ltr).2
        omega
      have f3 := f1 cs hcs (cs.take j) fun q hq => List.mem_of_mem_take hq
      have f4 := (hM.ch cs hcs ps hps).2
      have f5 := hM.row cs hcs
      have f6 := (ltr_pos hM.ltr).2
      have g1 := List.length_take_le' i M.C
      have g2 := List.length_take_le' j cs
      have g3 := List.length_take_le' n ps
      rw [List.length_map]
      exact Nat.lt_of_le_of_lt (show _ ≤ 3000 by omega) (by decide)
    refine ⟨_, rfl, _, _, 2, _, rfl, rfl, hS, rfl, ?_⟩
    refine ⟨c, rfl, ⟨xs, hS2⟩, fun D nD => ?_⟩
    refine lc_tupO (xs := xs) (fun i H' => Same H H' ∧ H' D = some (.lst (((M.C.take i).flatMap fun cs => cs.flatMap fun ps => ps.map (·.1)).map V.int))) ⟨same_upd nD, upd_same⟩ (fun i H' h => same_tup h.1 hS2) ?_ ?_
    · rintro i u2 H1 hu ⟨sm, hD⟩
      obtain ⟨cs, hcs, r1⟩ := rpAll_back hA hu
      obtain ⟨a1, ys, rfl, hS3, hA3⟩ := r1.isTup
      have mcs := List.mem_of_getElem? hcs
      refine ⟨rfl, ?_⟩
      refine ⟨_, rfl, a1, rfl, ⟨ys, same_tup sm hS3⟩, ?_⟩
      refine lc_tupO (xs := ys) (fun j H' => Same H H' ∧ H' D = some (.lst (((M.C.take i).flatMap fun cs => cs.flatMap fun ps => ps.map (·.1)).map V.int ++ ((cs.take j).flatMap fun ps => ps.map (·.1)).map V.int))) ⟨sm, by rw [hD]; simp⟩ (fun j H' h => same_tup h.1 hS3) ?_ ?_
      · rintro j u3 H2 hu3 ⟨sm2, hD2⟩
        obtain ⟨ps, hps, r2⟩ := rpAll_back hA3 hu3
        obtain ⟨a2, zs, rfl, hS4, hA4⟩ := r2.isTup
        have mps := List.mem_of_getElem? hps
        refine ⟨rfl, ?_⟩
        refine ⟨_, rfl, a2, rfl, ⟨zs, same_tup sm2 hS4⟩, ?_⟩
        refine lc_tupO (xs := zs) (fun n H' => Same H H' ∧ H' D = some (.lst ((((M.C.take i).flatMap fun cs => cs.flatMap fun ps => ps.map (·.1)).map V.int ++ ((cs.take j).flatMap fun ps => ps.map (·.1)).map V.int) ++ ((ps.take n).map (·.1)).map V.int))) ⟨sm2, by rw [hD2]; simp⟩ (fun n H' h => same_tup h.1 hS4) ?_ ?_
        · rintro n u4 H3 hu4 ⟨sm3, hD3⟩
          obtain ⟨p, hp, r3⟩ := rpAll_back hA4 hu4
          obtain ⟨a3, rfl, hS5⟩ := r3.pair
          refine ⟨rfl, ?_⟩
          refine ⟨_, rfl, _, _, 0, _, rfl, rfl, same_tup sm3 hS5, rfl, _, hD3, ?_, same_new sm3 nD, ?_⟩
          · have := bnd i j n cs ps mcs mps
            simp only [List.length_append, List.length_map] at this ⊢
            exact this
          · rw [upd_same, List.take_succ, hp]
            simp
        · rintro H3 ⟨sm3, hD3⟩
          refine ⟨sm3, ?_⟩
          rw [hD3, show zs.length = ps.length from by rw [hA4.len, List.length_map], List.take_length, take_flat hps]
          simp
      · rintro H2 ⟨sm2, hD2⟩
        refine ⟨sm2, ?_⟩
        rw [hD2, show ys.length = cs.length from by rw [hA3.len, List.length_map], List.take_length, take_flat hcs]
        simp
    · rintro H1 ⟨sm, hD⟩
      refine q H1 D sm nD ?_
      rw [hD, show xs.length = M.C.length from by rw [hA.len, List.length_map], List.take_length]
      rfl
theorem ok_spreadOf (T : SprTxt K mg p1 p2 q1 q2) {k : Nat} : FnOk P w K mg base CX0 (k + 2) p2 q2 ["frame"] (spSpread2 K) := by
  have GP : FnOk P w K mg base CX0 (k + 1) p1 q1 ["machine"] (spPaysOf K) := ok_paysOf T
  refine T.FSpreadOf.ok scSpreadOf (fun vs H Q E h => ?_) (fun cdv A outer s H vs Q E hr h => ?_)
  · obtain ⟨x, M, rfl, _⟩ := h
    rfl
  · obtain ⟨x, M, rfl, hx, hM, q⟩ := h
    refine ⟨_, (Evl.pss_cut (ps_set (i := 1) scSpreadOf.nd rfl (.inl rfl) (pe_call GP hr (by rfl) T.gPaysOf T.FPaysOf.kp T.bPaysOf .nil pass0 (pa_cons (pv 0) pa_nil)))
 (pss_one (ps_ret (pe_op op_sub (pe_callB (cr_max rfl) (by rfl) T.max (by decide +kernel) (pa_cons (pv 1) pa_nil)) (pe_callB (cr_min rfl) (by rfl) T.min (by decide +kernel) (pa_cons (pv 1) pa_nil)))))), ?_⟩
    refine ⟨fun σ H1 => ∃ l, σ = [some x, some (.ref l)] ∧ Same H H1 ∧ H1 l = some (.lst ((paysL M).map V.int)), ?_, ?_⟩
    · exact ⟨_, rfl, x, M, rfl, hx, hM, fun H' l s1 nl hl => ⟨l, rfl, s1, hl⟩⟩
    rintro σ H1 ⟨l, rfl, s1, hl⟩
    have pos : 0 < (paysL M).length := List.length_pos_iff.mpr (pays_ne hM)
    refine ⟨_, rfl, l, _, rfl, SqL.of hl, pos, fun m hm ge => ?_⟩
    refine ⟨_, rfl, l, _, rfl, SqL.of hl, pos, fun n hn le => ?_⟩
    refine ⟨_, _, rfl, rfl, ?_⟩
    rw [maxL_eq hm ge, minL_eq hn le]
    exact q H1 s1
end
end My
/-! ### sums along words, lacks -/
namespace My
open PySem PySem.Spec PyProof.Rows L2 PySem.Builtin.Str
abbrev sLacksOn : Stmt := topS 42
theorem scLacksOn : FnScope ["frame", "spread", "lacks", "at", "base", "gains", "state", "pay", "to", "gain", "most", "later", "lack"] ["frame", "spread", "lacks", "at"] (defScope sLacksOn) := ⟨rfl, rfl, rfl, by decide +kernel, rfl, by decide +kernel, by decide +kernel⟩
structure LkTxt (K : PySem.W.Frag) (mg : Str → Option Value) (p1 p2 p3 p4 : Addr) (q1 q2 q3 q4 : FuncData) : Prop where
  spr : SprTxt K mg p1 p2 q1 q2
  sorted : mg "sorted" = none
  FLacksOn : Fun K "lacks_on" "lacks_on" sLacksOn p4 q4
  bLacksOn : Binds K q4 ["frame", "spread", "lacks", "at"] []
  gLacksOn : mg "lacks_on" = some (.ref p4)
theorem occIx {z : Str} {c : Nat} (h : lettersL z.cps.toList = true) (hc : c ∈ z.cps.toList) : occurrences z ⟨#[c]⟩ 0 z.length 1 = [z.cps.toList.idxOf c] := by
  obtain ⟨⟨l⟩⟩ := z
  rw [PySem.StrLaws.occ_eq]
  match l, h, hc with
  | [a], h, hc =>
    obtain rfl : c = a := by simpa using hc
    simp [List.range', PySem.StrLaws.occBody, subAt, Str.length]
  | [a, b], h, hc =>
    simp [lettersL] at h
    have h1 : a ≠ b := by omega
    have b1 := beq_false_of_ne h1
    rcases (show c = a ∨ c = b by simpa using hc) with rfl | rfl
    · simp [List.range', PySem.StrLaws.occBody, subAt, Str.length]
    · simp [List.range', PySem.StrLaws.occBody, subAt, Str.length, h1, b1, List.idxOf_cons]
  | [a, b, d], h, hc =>
    simp [lettersL] at h
    have h1 : a ≠ b := by omega
    have h2 : b ≠ d := by omega
    have h3 : a ≠ d := by omega
    have b1 := beq_false_of_ne h1
    have b2 := beq_false_of_ne h2
    have b3 := beq_false_of_ne h3
    rcases (show c = a ∨ c = b ∨ c = d by simpa using hc) with rfl | rfl | rfl
    · simp [List.range', PySem.StrLaws.occBody, subAt, Str.length]
    · simp [List.range', PySem.StrLaws.occBody, subAt, Str.length, h1, b1, List.idxOf_cons]
    · simp [List.range', PySem.StrLaws.occBody, subAt, Str.length, h2, h3, b2, b3, List.idxOf_cons]
/-! tuples that stay -/
def TStay (K : PySem.W.Frag) (H H' : Hp) : Prop := ∀ b xs, SqT K H b xs → SqT K H' b xs
theorem TStay.trans {K : PySem.W.Frag} {H H1 H2 : Hp} (a : TStay K H H1) (b : TStay K H1 H2) : TStay K H H2 := fun c xs h => b c xs (a c xs h)
theorem ts_same {K : PySem.W.Frag} {H H' : Hp} (s : Same H H') : TStay K H H' := fun _ _ h => same_tup s h
theorem ts_upd {K : PySem.W.Frag} {H : Hp} {g : Addr} {o o' : HO} (h : H g = some o) (n1 : ∀ xs, o ≠ .tup xs) (n2 : ∀ u xs, o ≠ .frz u (.tup xs)) : TStay K H (upd H g o') := fun b xs e => by
  rcases e with (e | ⟨u, e⟩) | e
  · refine .inl (.inl ?_)
    rw [upd_ne (fun z => ?_)]
    · exact e
    · rw [z, h] at e
      exact n1 xs (Option.some.inj e)
  · refine .inl (.inr ⟨u, ?_⟩)
    rw [upd_ne (fun z => ?_)]
    · exact e
    · rw [z, h] at e
      exact n2 u xs (Option.some.inj e)
  · exact .inr e
mutual
def tO : PyData → Bool
  | .list _ => false
  | .dict _ => false
  | .tuple xs => tOs xs
  | _ => true
def tOs : List PyData → Bool
  | [] => true
  | x :: xs => tO x && tOs xs
end
mutual
theorem rp_ts {K : PySem.W.Frag} {H H' : Hp} (s : TStay K H H') : ∀ {v : V} {d : PyData}, Rp K H v d → tO d = true → Rp K H' v d
  | _, _, .non, _ => .non
  | _, _, .bl b, _ => .bl b
  | _, _, .int i, _ => .int i
  | _, _, .str x h, _ => .str x h
  | _, _, .lst h t, n => by simp [tO] at n
  | _, _, .tup h t, n => .tup (s _ _ h) (rpAll_ts s t (by simpa only [tO] using n))
  | _, _, .dct h, n => by simp [tO] at n
theorem rpAll_ts {K : PySem.W.Frag} {H H' : Hp} (s : TStay K H H') : ∀ {vs : List V} {ds : List PyData}, RpAll K H vs ds → tOs ds = true → RpAll K H' vs ds
  | _, _, .nil, _ => .nil
  | _, _, .cons h t, n => by
    simp only [tOs, Bool.and_eq_true] at n
    exact .cons (rp_ts s h n.1) (rpAll_ts s t n.2)
end
theorem tOs_map {α : Type} {f : α → PyData} (h : ∀ x, tO (f x) = true) : ∀ l : List α, tOs (l.map f) = true
  | [] => rfl
  | x :: l => by
    rw [List.map_cons, tOs, h x, tOs_map h l]
    rfl
theorem tO_eP (p : Int × Int) : tO (eP p) = true := by simp [eP, tO, tOs]
theorem tO_eC (ps : List (Int × Int)) : tO (eC ps) = true := by
  rw [eC, tO]
  exact tOs_map tO_eP ps
theorem tO_eS (cs : List (List (Int × Int))) : tO (eS cs) = true := by
  rw [eS, tO]
  exact tOs_map tO_eC cs
theorem tO_eM (M : Mc) : tO (eM M) = true := by
  simp only [eM, tO, tOs, Bool.true_and, Bool.and_true]
  exact tOs_map tO_eS M.C
/-! the pairs of a choice -/
def chP (M : Mc) (at_ : Nat) (s : Int) : List (Int × Int) := (M.C.getD s.toNat []).getD at_ []
theorem ch_at {K : PySem.W.Frag} {H : Hp} {xs : List V} {M : Mc} (hM : Mok M) (hA : RpAll K H xs (M.C.map eS)) {s : Int} {at_ : Nat} (s0 : 0 ≤ s) (s1 : s ≤ (M.C.length : Int) - 1) (ha : at_ < M.z.length) :
    ∃ ra ys ca zs, atI xs s = some (.ref ra) ∧ SqT K H ra ys ∧ atI ys (at_ : Int) = some (.ref ca) ∧ SqT K H ca zs ∧ RpAll K H zs ((chP M at_ s).map eP) := by
  have hs : s.toNat < M.C.length := by omega
  obtain ⟨u, hu, r1⟩ := rpAll_get hA (List.getElem?_eq_getElem hs)
  obtain ⟨ra, ys, rfl, hS3, hA3⟩ := r1.isTup
  have ha2 : at_ < M.C[s.toNat].length := by rw [hM.row _ (List.getElem_mem hs)]; exact ha
  obtain ⟨u2, hu2, r2⟩ := rpAll_get hA3 (List.getElem?_eq_getElem ha2)
  obtain ⟨ca, zs, rfl, hS4, hA4⟩ := r2.isTup
  have es : ((s.toNat : Nat) : Int) = s := by omega
  refine ⟨ra, ys, ca, zs, es ▸ atI_nat hu, hS3, atI_nat hu2, hS4, ?_⟩
  have e2 : chP M at_ s = M.C[s.toNat][at_] := by
    unfold chP
    rw [List.getD_eq_getElem?_getD (l := M.C), List.getElem?_eq_getElem hs, Option.getD_some, List.getD_eq_getElem?_getD, List.getElem?_eq_getElem ha2]
    rfl
  rw [e2]
  exact hA4
/-! dicts by the states -/
structure Kin (n : Nat) (d : Dk) : Prop where
  nd : (keysI d).Nodup
  rg : ∀ k ∈ keysI d, 0 ≤ k ∧ k ≤ (n : Int) - 1
theorem kin_nil (n : Nat) : Kin n [] := ⟨.nil, fun _ h => nomatch h⟩
theorem kin_len {n : Nat} {d : Dk} (h : Kin n d) : d.length ≤ n := by
  have := nd_le (keysI d) ((List.range n).map Int.ofNat) h.nd fun k hk => by
    obtain ⟨h1, h2⟩ := h.rg k hk
    exact List.mem_map.mpr ⟨k.toNat, List.mem_range.mpr (by omega), by show ((k.toNat : Nat) : Int) = k; omega⟩
  rw [List.length_map, List.length_range] at this
  unfold keysI at this
  rw [List.length_map] at this
  exact this
theorem kin_up {n : Nat} {d : Dk} {k v : Int} (h : Kin n d) (k0 : 0 ≤ k) (k1 : k ≤ (n : Int) - 1) : Kin n (upMax d k v) := by
  refine ⟨up_nodup h.nd, fun j hj => ?_⟩
  obtain ⟨w, hw⟩ := Option.isSome_iff_exists.mp (getI_mem.mpr hj)
  rcases up_from hw with e | ⟨e, _⟩
  · exact h.rg j (getI_mem.mp (by rw [e]; rfl))
  · rw [e]; exact ⟨k0, k1⟩
theorem kin_in {n : Nat} {f : Int → Int → Int} {v : Int} : ∀ {ps : List (Int × Int)} {d : Dk}, Kin n d → (∀ p ∈ ps, 0 ≤ p.2 ∧ p.2 ≤ (n : Int) - 1) → Kin n (bestIn f v ps d)
  | [], _, h, _ => h
  | p :: ps, d, h, hp => kin_in (ps := ps) (d := upMax d p.2 (f v p.1)) (kin_up h (hp p (.head _)).1 (hp p (.head _)).2) fun q hq => hp q (.tail _ hq)
theorem kin_on {n : Nat} {P : Int → List (Int × Int)} {f : Int → Int → Int} : ∀ {d l : Dk}, Kin n l → (∀ kv ∈ d, ∀ p ∈ P kv.1, 0 ≤ p.2 ∧ p.2 ≤ (n : Int) - 1) → Kin n (bestOn P f d l)
  | [], _, h, _ => h
  | q :: d, l, h, hp => kin_on (d := d) (l := bestIn f q.2 (P q.1) l) (kin_in h (hp q (.head _))) fun r hr => hp r (.tail _ hr)
def Bd (n : Nat) (d : Dk) : Prop := ∀ kv ∈ d, kv.2.natAbs < 2 ^ n
theorem ch_mem {M : Mc} (h : Mok M) {at_ : Nat} {s : Int} {p : Int × Int} (hp : p ∈ chP M at_ s) : ∃ cs ∈ M.C, ∃ ps ∈ cs, p ∈ ps ∧ chP M at_ s = ps := by
  unfold chP at hp ⊢
  rw [List.getD_eq_getElem?_getD (l := M.C)] at hp ⊢
  cases e : M.C[s.toNat]? with
  | none => rw [e] at hp; exact absurd hp (by simp)
  | some cs =>
    rw [e] at hp
    rw [Option.getD_some, List.getD_eq_getElem?_getD] at hp ⊢
    cases e2 : cs[at_]? with
    | none => rw [e2] at hp; exact absurd hp (by simp)
    | some ps =>
      rw [e2] at hp
      exact ⟨cs, List.mem_of_getElem? e, ps, List.mem_of_getElem? e2, hp, rfl⟩
theorem ch_rg {M : Mc} (h : Mok M) {at_ : Nat} {s : Int} {p : Int × Int} (hp : p ∈ chP M at_ s) : -wideN ≤ p.1 ∧ p.1 ≤ wideN ∧ 0 ≤ p.2 ∧ p.2 ≤ (M.C.length : Int) - 1 := by
  obtain ⟨cs, hcs, ps, hps, hp, _⟩ := ch_mem h hp
  exact h.pr cs hcs ps hps p hp
theorem wide_two : wideN < 2 ^ 100 ∧ 0 < wideN := by decide +kernel
def ixM (M : Mc) (c : Nat) : Nat := M.z.cps.toList.idxOf c
def sumStep (M : Mc) (S : Dk) (c : Nat) : Dk := sumOf (chP M (ixM M c)) M.b S
def sumsAfter (M : Mc) (cs : List Nat) (S : Dk) : Dk := cs.foldl (sumStep M) S
theorem sums_take {M : Mc} {S : Dk} {cs : List Nat} {j c : Nat} (h : cs[j]? = some c) : sumsAfter M (cs.take (j + 1)) S = sumStep M (sumsAfter M (cs.take j) S) c := by
  unfold sumsAfter
  rw [List.take_succ, h, List.foldl_append]
  rfl
theorem sum_kin {M : Mc} (h : Mok M) {at_ : Nat} {S : Dk} : Kin M.C.length (sumOf (chP M at_) M.b S) :=
  kin_on (kin_nil _) fun kv _ p hp => ⟨(ch_rg h hp).2.2.1, (ch_rg h hp).2.2.2⟩
theorem sum_bd {M : Mc} (h : Mok M) {at_ n : Nat} {S : Dk} (hb : Bd n S) (hn : 101 ≤ n) : Bd (n + 4) (sumOf (chP M at_) M.b S) := fun kv hkv => by
  have := mem_getI (sum_kin (S := S) h).nd (k := kv.1) (v := kv.2) hkv
  rcases bestOn_from S [] this with e | ⟨s, v, p, hs, hp, e⟩
  · cases e
  · have h1 := hb _ hs
    have h2 := ch_rg h hp
    have h3 := wide_two
    have h4 := h.b9
    have h5 := h.b2
    have h6 : (2 : Nat) ^ 101 ≤ 2 ^ n := Nat.pow_le_pow_right (by decide) hn
    have h7 : (2 : Nat) ^ (n + 4) = 2 ^ n * 16 := by rw [Nat.pow_add]
    have h8 : (2 : Nat) ^ 101 = 2 ^ 100 * 2 := by rw [Nat.pow_succ]
    have h9 : ((2 : Int) ^ 100).natAbs = 2 ^ 100 := by decide +kernel
    have h10 : p.natAbs < 2 ^ 100 := by omega
    have h11 : (M.b * v).natAbs ≤ 9 * v.natAbs := by
      rw [Int.natAbs_mul]
      exact Nat.mul_le_mul_right _ (by omega)
    have h12 : v.natAbs < 2 ^ n := h1
    show kv.2.natAbs < 2 ^ (n + 4)
    rw [e, h7]
    generalize M.b * v = y at *
    generalize (2 : Nat) ^ n = z at *
    have : (y + p).natAbs ≤ y.natAbs + p.natAbs := Int.natAbs_add_le _ _
    omega
theorem sums_kin {M : Mc} (h : Mok M) : ∀ (cs : List Nat) {S : Dk}, Kin M.C.length S → Kin M.C.length (sumsAfter M cs S)
  | [], _, k => k
  | c :: cs, S, _ => sums_kin h cs (S := sumStep M S c) (sum_kin h)
theorem sums_bd {M : Mc} (h : Mok M) : ∀ (cs : List Nat) {S : Dk} {n : Nat}, Bd n S → 101 ≤ n → Bd (n + 4 * cs.length) (sumsAfter M cs S)
  | [], _, _, k, _ => k
  | c :: cs, S, n, k, hn => by
    have := sums_bd h cs (S := sumStep M S c) (sum_bd h k hn) (by omega)
    rw [List.length_cons, show n + 4 * (cs.length + 1) = n + 4 + 4 * cs.length by omega]
    exact this
theorem bd_mono {n m : Nat} {d : Dk} (h : Bd n d) (l : n ≤ m) : Bd m d := fun kv hkv => Nat.lt_of_lt_of_le (h kv hkv) (Nat.pow_le_pow_right (by decide) l)
theorem upd_id {H : Hp} {g : Addr} {o : HO} (h : H g = some o) : upd H g o = H := by
  funext b
  by_cases e : b = g
  · rw [e, upd_same, h]
  · rw [upd_ne e]
theorem kin_size {n : Nat} {d : Dk} (h : Kin n d) (hn : n ≤ 300) : (kd d).length < sizeLine := by
  have := kin_len h
  rw [kd_len]
  exact Nat.lt_of_le_of_lt (show _ ≤ 300 by omega) (by decide)
/-- if k not in d or v > d[k]: d[k] = v -/
theorem up_if {iT iD iV : Nat} {D : Ends} {σ : L2.St} {H : Hp} {g : Addr} {L : Dk} {k t : Int} (e1 : σ[iT]? = some (some (.int k))) (e2 : σ[iD]? = some (some (.ref g))) (e3 : σ[iV]? = some (some (.int t))) (hg : H g = some (.dK (kd L))) (hl : (kd L).length < sizeLine)
    (h : D.nx σ (upd H g (.dK (kd (upMax L k t))))) :
    tIfS (tOr (tB (tDNotIn (tVar iT) (tVar iD))) (tTest (tOp (rI0 fun i j => V.bl (decide (j < i))) (tVar iV) (tDGet (tVar iD) (tVar iT))))) (sDPut (tVar iD) (tVar iT) (tVar iV)) tNext D σ H := by
  have put : upMax L k t = putI L k t → sDPut (tVar iD) (tVar iT) (tVar iV) D σ H := fun e => by
    refine ⟨_, e3, _, e2, _, e1, g, _, rfl, DPut.k (k := Sum.inl k) hg hl, ?_⟩
    rw [kd_put, ← e]
    exact h
  refine ⟨_, e1, _, e2, g, _, rfl, kd_get (.inl hg), _, rfl, ?_⟩
  cases e : getI L k with
  | none => exact iteT (iteT (put (by unfold upMax; rw [e])))
  | some w =>
    refine iteF ⟨_, e3, _, e2, _, e1, g, .int w, rfl, ?_, _, _, rfl, rfl, _, rfl, ?_⟩
    · have := kd_get (d := L) (k := k) (.inl hg)
      rw [e] at this
      exact this
    · by_cases l : w < t
      · rw [decide_eq_true l]
        exact iteT (put (by unfold upMax; rw [e]; exact if_pos l))
      · rw [decide_eq_false l]
        have : upMax L k t = L := by unfold upMax; rw [e]; exact if_neg l
        rw [this, upd_id hg] at h
        exact iteF h
theorem kd_at {d : Dk} {i : Nat} {k : Key} {v : V} (h : (kd d)[i]? = some (k, v)) : ∃ s x, d[i]? = some (s, x) ∧ k = Sum.inl s ∧ v = .int x := by
  unfold kd at h
  rw [List.getElem?_map] at h
  cases e : d[i]? with
  | none => rw [e] at h; cases h
  | some p =>
    rw [e] at h
    cases h
    exact ⟨p.1, p.2, rfl, rfl, rfl⟩
theorem on_take {P : Int → List (Int × Int)} {f : Int → Int → Int} {d l : Dk} {i : Nat} {s x : Int} (h : d[i]? = some (s, x)) : bestOn P f (d.take (i + 1)) l = bestIn f x (P s) (bestOn P f (d.take i) l) := by
  unfold bestOn
  rw [List.take_succ, h, List.foldl_append]
  rfl
theorem in_take {f : Int → Int → Int} {v : Int} {ps : List (Int × Int)} {l : Dk} {i : Nat} {p : Int × Int} (h : ps[i]? = some p) : bestIn f v (ps.take (i + 1)) l = upMax (bestIn f v (ps.take i) l) p.2 (f v p.1) := by
  unfold bestIn
  rw [List.take_succ, h, List.foldl_append]
  rfl
theorem same_put {Hb H : Hp} {g : Addr} {o : HO} (s : Same Hb H) (n : Hb g = none) : Same Hb (upd H g o) := same_new s n
section
variable {P : Program} {w : World} {K : PySem.W.Frag} {mg : Str → Option Value} {base : Heap} {p1 p2 p3 p4 : Addr} {q1 q2 q3 q4 : FuncData}
end
/-! one letter more for the lacks -/
def mostOn (M : Mc) (at_ : Nat) (D : Dk) : Int := maxL ((gainOf (chP M at_) D).map (·.2))
def lackOn (M : Mc) (at_ : Nat) (D : Dk) : Dk := laterOf M.b (sprd M) (gainOf (chP M at_) D)
theorem gain_kin {M : Mc} (h : Mok M) {at_ : Nat} {D : Dk} : Kin M.C.length (gainOf (chP M at_) D) :=
  kin_on (kin_nil _) fun kv _ p hp => ⟨(ch_rg h hp).2.2.1, (ch_rg h hp).2.2.2⟩
theorem up_len (d : Dk) (k v : Int) : (upMax d k v).length ≤ d.length + 1 := by
  unfold upMax
  split
  · exact put_len d k v
  · split
    · exact put_len d k v
    · exact Nat.le_succ _
theorem in_len {f : Int → Int → Int} {v : Int} : ∀ (ps : List (Int × Int)) (d : Dk), (bestIn f v ps d).length ≤ d.length + ps.length
  | [], _ => Nat.le_refl _
  | p :: ps, d => by
    have h1 := in_len (f := f) (v := v) ps (upMax d p.2 (f v p.1))
    have h2 := up_len d p.2 (f v p.1)
    show (bestIn f v ps (upMax d p.2 (f v p.1))).length ≤ _
    rw [List.length_cons]
    omega
theorem on_len {P : Int → List (Int × Int)} {f : Int → Int → Int} (h : ∀ s, (P s).length ≤ 1) : ∀ (d l : Dk), (bestOn P f d l).length ≤ l.length + d.length
  | [], _ => Nat.le_refl _
  | q :: d, l => by
    have h1 := on_len h d (bestIn f q.2 (P q.1) l) (f := f)
    have h2 := in_len (f := f) (v := q.2) (P q.1) l
    have h3 := h q.1
    show (bestOn P f d (bestIn f q.2 (P q.1) l)).length ≤ _
    rw [List.length_cons]
    omega
theorem few_on {M : Mc} (h : Mok M) {at_ : Nat} {f : Int → Int → Int} {D : Dk} (hd : D.length ≤ 4) : (bestOn (chP M at_) f D []).length ≤ 4 := by
  rcases h.few with c4 | one
  · have := kin_len (n := M.C.length) (d := bestOn (chP M at_) f D []) (kin_on (kin_nil _) fun kv _ p hp => ⟨(ch_rg h hp).2.2.1, (ch_rg h hp).2.2.2⟩)
    omega
  · have := on_len (P := chP M at_) (f := f) (fun s => by
      cases e : chP M at_ s with
      | nil => exact Nat.zero_le _
      | cons p r =>
        obtain ⟨cs, hcs, ps, hps, _, e2⟩ := ch_mem h (at_ := at_) (s := s) (p := p) (by rw [e]; exact .head _)
        rw [← e, e2, one cs hcs ps hps]
        exact Nat.le_refl _) D []
    rw [List.length_nil] at this
    omega
theorem ch_some {M : Mc} (h : Mok M) {at_ : Nat} {s : Int} (s0 : 0 ≤ s) (s1 : s ≤ (M.C.length : Int) - 1) (ha : at_ < M.z.length) : ∃ p, p ∈ chP M at_ s := by
  have hs : s.toNat < M.C.length := by omega
  have ha2 : at_ < M.C[s.toNat].length := by rw [h.row _ (List.getElem_mem hs)]; exact ha
  have e2 : chP M at_ s = M.C[s.toNat][at_] := by
    unfold chP
    rw [List.getD_eq_getElem?_getD (l := M.C), List.getElem?_eq_getElem hs, Option.getD_some, List.getD_eq_getElem?_getD, List.getElem?_eq_getElem ha2]
    rfl
  have l := (h.ch _ (List.getElem_mem hs) _ (List.getElem_mem ha2)).1
  rw [e2]
  exact ⟨_, List.getElem_mem (show 0 < M.C[s.toNat][at_].length by omega)⟩
theorem on_ne {M : Mc} (h : Mok M) {at_ : Nat} {f : Int → Int → Int} {D : Dk} (hk : Kin M.C.length D) (hd : D ≠ []) (ha : at_ < M.z.length) : bestOn (chP M at_) f D [] ≠ [] := by
  cases D with
  | nil => exact absurd rfl hd
  | cons q d =>
    obtain ⟨r1, r2⟩ := hk.rg q.1 (.head _)
    obtain ⟨p, hp⟩ := ch_some h r1 r2 ha
    obtain ⟨u, hu, _⟩ := bestOn_has (P := chP M at_) (f := f) (q :: d) [] (s := q.1) (v := q.2) (p := p.1) (k := p.2) (.head _) hp
    intro z
    rw [z] at hu
    cases hu
theorem pays_rg {M : Mc} (h : Mok M) : ∀ y ∈ paysL M, -wideN ≤ y ∧ y ≤ wideN := fun y hy => by
  unfold paysL at hy
  obtain ⟨cs, hcs, hy⟩ := List.mem_flatMap.mp hy
  obtain ⟨ps, hps, hy⟩ := List.mem_flatMap.mp hy
  obtain ⟨p, hp, rfl⟩ := List.mem_map.mp hy
  exact ⟨(h.pr cs hcs ps hps p hp).1, (h.pr cs hcs ps hps p hp).2.1⟩
theorem ch_pays {M : Mc} (h : Mok M) {at_ : Nat} {s : Int} {p : Int × Int} (hp : p ∈ chP M at_ s) : minL (paysL M) ≤ p.1 ∧ p.1 ≤ maxL (paysL M) := by
  obtain ⟨cs, hcs, ps, hps, hp, _⟩ := ch_mem h hp
  have : p.1 ∈ paysL M := List.mem_flatMap.mpr ⟨cs, hcs, List.mem_flatMap.mpr ⟨ps, hps, List.mem_map_of_mem hp⟩⟩
  exact ⟨minL_le this, le_maxL this⟩
theorem sprd_rg {M : Mc} (h : Mok M) : 0 ≤ sprd M ∧ sprd M ≤ 2 * wideN := by
  have h1 := maxL_mem (pays_ne h)
  have h2 := minL_mem (pays_ne h)
  have h3 := pays_rg h _ h1
  have h4 := pays_rg h _ h2
  have h5 := minL_le h1
  unfold sprd
  omega
theorem lack_kin {M : Mc} (h : Mok M) {at_ : Nat} {D : Dk} : Kin M.C.length (lackOn M at_ D) := by
  have g := gain_kin h (at_ := at_) (D := D)
  refine ⟨later_keys g.nd, fun k hk => ?_⟩
  obtain ⟨w, hw⟩ := Option.isSome_iff_exists.mp (getI_mem.mpr hk)
  obtain ⟨x, hx, _⟩ := (later_get g.nd).mp hw
  exact g.rg k (getI_mem.mp (by rw [hx]; rfl))
theorem lack_len {M : Mc} (h : Mok M) {at_ : Nat} {D : Dk} (hd : D.length ≤ 4) : (lackOn M at_ D).length ≤ 4 := by
  have := few_on h (at_ := at_) (f := fun v p => p - v) hd
  have l : (lackOn M at_ D).length ≤ (sortI (keysI (gainOf (chP M at_) D))).length := List.length_filterMap_le _ _
  rw [(sort_perm _).length_eq] at l
  unfold keysI at l
  rw [List.length_map] at l
  exact Nat.le_trans l this
theorem lack_ne {M : Mc} (h : Mok M) {at_ : Nat} {D : Dk} (hk : Kin M.C.length D) (hd : D ≠ []) (ha : at_ < M.z.length) : lackOn M at_ D ≠ [] := by
  have g := gain_kin h (at_ := at_) (D := D)
  have ne := on_ne h (f := fun v p => p - v) hk hd ha
  have := maxL_mem (l := (gainOf (chP M at_) D).map (·.2)) (fun z => ne (List.map_eq_nil_iff.mp z))
  obtain ⟨q, hq, e⟩ := List.mem_map.mp this
  have hg := mem_getI g.nd (k := q.1) (v := q.2) hq
  have := (later_get (b := M.b) (sp := sprd M) g.nd (to := q.1) (k := 0)).mpr ⟨q.2, hg, by rw [← e]; simp, rfl⟩
  intro z
  unfold lackOn at z
  rw [z] at this
  cases this
theorem lack_val {M : Mc} (h : Mok M) {at_ : Nat} {D : Dk} {kv : Int × Int} (hkv : kv ∈ lackOn M at_ D) : 0 ≤ kv.2 ∧ kv.2 ≤ 18 * wideN := by
  have g := gain_kin h (at_ := at_) (D := D)
  have := mem_getI (lack_kin h).nd (k := kv.1) (v := kv.2) hkv
  obtain ⟨x, hx, e, hh⟩ := (later_get g.nd).mp this
  have le : x ≤ maxL ((gainOf (chP M at_) D).map (·.2)) := le_maxL (List.mem_map_of_mem (f := (·.2)) (getI_some_mem hx))
  have b2 := h.b2
  have b9 := h.b9
  have pos : 0 ≤ kv.2 := by rw [e]; exact Int.mul_nonneg (by omega) (by omega)
  refine ⟨pos, ?_⟩
  have sr := sprd_rg h
  unfold hopes at hh
  simp only [Bool.or_eq_true, decide_eq_true_eq] at hh
  rcases hh with hh | hh
  · omega
  · have h1 : kv.2 * 1 ≤ kv.2 * (M.b - 1) := Int.mul_le_mul_of_nonneg_left (by omega) pos
    have h2 : sprd M * M.b ≤ sprd M * 9 := Int.mul_le_mul_of_nonneg_left b9 sr.1
    omega
theorem lack_bd {M : Mc} (h : Mok M) {at_ : Nat} {D : Dk} : Bd 200 (lackOn M at_ D) := fun kv hkv => by
  have := lack_val h hkv
  have w := wide_two
  have p1 : (2 : Nat) ^ 100 * 18 < 2 ^ 200 := by decide +kernel
  have p2 : ((2 : Int) ^ 100).natAbs = 2 ^ 100 := by decide +kernel
  omega
def pickOf (b sp : Int) (g : Dk) (to : Int) : Option (Int × Int) := if hopes b sp (b * (maxL (g.map (·.2)) - (getI g to).getD 0)) = true then some (to, b * (maxL (g.map (·.2)) - (getI g to).getD 0)) else none
theorem later_eq (b sp : Int) (g : Dk) : laterOf b sp g = (sortI (keysI g)).filterMap (pickOf b sp g) := rfl
theorem pick_keys {b sp : Int} {g : Dk} : ∀ {l : List Int} {to : Int}, to ∉ l → getI (l.filterMap (pickOf b sp g)) to = none := fun {l to} h => by
  cases e : getI (l.filterMap (pickOf b sp g)) to with
  | none => rfl
  | some v =>
    obtain ⟨t, ht, e2⟩ := List.mem_filterMap.mp (getI_some_mem e)
    unfold pickOf at e2
    split at e2
    · cases e2
      exact absurd ht h
    · cases e2
theorem pick_take {b sp : Int} {g : Dk} {l : List Int} {i : Nat} {to : Int} (nd : l.Nodup) (h : l[i]? = some to) (x : Int) (hx : getI g to = some x) :
    (l.take (i + 1)).filterMap (pickOf b sp g) = if hopes b sp (b * (maxL (g.map (·.2)) - x)) = true then putI ((l.take i).filterMap (pickOf b sp g)) to (b * (maxL (g.map (·.2)) - x)) else (l.take i).filterMap (pickOf b sp g) := by
  have out : to ∉ l.take i := fun m => by
    obtain ⟨n, hn, e⟩ := List.mem_iff_getElem.mp m
    rw [List.getElem_take] at e
    have hi := (List.getElem?_eq_some_iff.mp h)
    obtain ⟨hi1, hi2⟩ := hi
    have hn2 : n < i := by rw [List.length_take] at hn; omega
    exact (List.pairwise_iff_getElem.mp nd) n i (by omega) hi1 hn2 (e.trans hi2.symm)
  have fresh := pick_keys (b := b) (sp := sp) (g := g) out
  rw [List.take_succ, h, List.filterMap_append]
  have e1 : [to].filterMap (pickOf b sp g) = if hopes b sp (b * (maxL (g.map (·.2)) - x)) = true then [(to, b * (maxL (g.map (·.2)) - x))] else [] := by
    rw [List.filterMap_cons]
    unfold pickOf
    rw [hx, Option.getD_some]
    by_cases c : hopes b sp (b * (maxL (g.map (·.2)) - x)) = true
    · rw [if_pos c, if_pos c]; rfl
    · rw [if_neg c, if_neg c]; rfl
  show _ ++ [to].filterMap (pickOf b sp g) = _
  rw [e1]
  by_cases c : hopes b sp (b * (maxL (g.map (·.2)) - x)) = true
  · rw [if_pos c, if_pos c]
    unfold putI
    rw [getI_any, fresh]
    rfl
  · rw [if_neg c, if_neg c, List.append_nil]
theorem gain_bd {M : Mc} (h : Mok M) {at_ : Nat} {D : Dk} (hb : Bd 200 D) : ∀ {k x : Int}, getI (gainOf (chP M at_) D) k = some x → x.natAbs < 2 ^ 201 := fun {k x} e => by
  rcases bestOn_from D [] e with e | ⟨s, v, p, hs, hp, e⟩
  · cases e
  · have h1 := hb _ hs
    have h2 := ch_rg h hp
    have h3 := wide_two
    have p2 : ((2 : Int) ^ 100).natAbs = 2 ^ 100 := by decide +kernel
    have p3 : (2 : Nat) ^ 100 < 2 ^ 200 := by decide +kernel
    have p4 : (2 : Nat) ^ 201 = 2 ^ 200 * 2 := by decide +kernel
    have h4 : v.natAbs < 2 ^ 200 := h1
    omega
def spLacksOn (K : PySem.W.Frag) : Sp := fun vs H Q _ => ∃ (x : V) (M : Mc) (dl : Addr) (D : Dk) (at_ : Nat), vs = [x, .int (sprd M), .ref dl, .int (at_ : Nat)] ∧ Rp K H x (eM M) ∧ Mok M ∧ H dl = some (.dK (kd D)) ∧ Kin M.C.length D ∧ D ≠ [] ∧ D.length ≤ 4 ∧ Bd 200 D ∧ at_ < M.z.length ∧
  ∀ H' t r, Same H H' → H' t = some (.tup [.int (mostOn M at_ D), .ref r]) → H' r = some (.dK (kd (lackOn M at_ D))) → H r = none → H t = none → Q (.ref t) H'
section
variable {P : Program} {w : World} {K : PySem.W.Frag} {mg : Str → Option Value} {base : Heap} {p1 p2 p3 p4 : Addr} {q1 q2 q3 q4 : FuncData}
theorem ok_lacksOn (T : LkTxt K mg p1 p2 p3 p4 q1 q2 q3 q4) {k : Nat} : FnOk P w K mg base CX0 (k + 1) p4 q4 ["frame", "spread", "lacks", "at"] (spLacksOn K) := by
  refine T.FLacksOn.ok scLacksOn (fun vs H Q E h => ?_) (fun cdv A outer s H vs Q E hr h => ?_)
  · obtain ⟨x, M, dl, D, at_, rfl, _⟩ := h
    rfl
  · obtain ⟨x, M, dl, D, at_, rfl, hx, hM, hdl, hK, hne, h4, hB, hat, q⟩ := h
    refine ⟨_, (Evl.pss_cut (ps_set (i := 4) scLacksOn.nd rfl (.inl rfl) (pe_ix ix_tup (pv 0) pe_int (fun _ _ => rfl)))
 (Evl.pss_cut (ps_set (i := 5) scLacksOn.nd rfl (.inl rfl) pe_dnewK)
 (Evl.pss_cut (ps_lock (ps_for PassesOwn.never rfl (pi_keys (pv 2)) (pg_name (i := 6) scLacksOn.nd rfl (.inl rfl))
 (pss_one (ps_for PassesOwn.never rfl (pi_tup (pe_ix ix_tup (pe_ix ix_tup (pe_ix ix_tup (pv 0) pe_int (fun _ _ => rfl)) (pv 6) (fun _ _ => rfl)) (pv 3) (fun _ _ => rfl))) (pg_tup rfl (pgs_cons (pg_name (i := 7) scLacksOn.nd rfl (.inl rfl)) (pgs_cons (pg_name (i := 8) scLacksOn.nd rfl (.inl rfl)) pgs_nil)))
 (Evl.pss_cut (ps_set (i := 9) scLacksOn.nd rfl (.inl rfl) (pe_op op_sub (pv 7) (pe_dget (hu_of hr) (pv 2) (pv 6) (fun _ _ => rfl))))
 (pss_one (ps_if (PW.pt (pw_or (pt_cmp (pc_dnotin (hu_of hr) (pv 8) (pv 5))) (pw_or1 (pt_cmpR op_gt (pv 9) (pe_dget (hu_of hr) (pv 5) (pv 8) (fun _ _ => rfl)) (nomark _))))) (pss_one (ps_dput (hu_of hr) (pv 5) (pv 8) (pv 9) rfl)) pss_nil)))))))
 (Evl.pss_cut (ps_set (i := 10) scLacksOn.nd rfl (.inl rfl) (pe_maxVals rfl (by rfl) T.spr.max (pv 5)))
 (Evl.pss_cut (ps_set (i := 11) scLacksOn.nd rfl (.inl rfl) pe_dnewK)
 (Evl.pss_cut (ps_for PassesOwn.never rfl (pi_list (pe_callB (call_sortedDI rfl) (by rfl) T.sorted (by decide +kernel) (pa_cons (pv 5) pa_nil))) (pg_name (i := 8) scLacksOn.nd rfl (.inl rfl))
 (Evl.pss_cut (ps_set (i := 12) scLacksOn.nd rfl (.inl rfl) (pe_op op_mulW (pv 4) (pe_op op_sub (pv 10) (pe_dget (hu_of hr) (pv 5) (pv 8) (fun _ _ => rfl)))))
 (pss_one (ps_if (PW.pt (pw_or (pt_cmpR op_eq (pv 12) pe_int (nomark _)) (pw_or1 (pt_cmpR op_lt (pe_op op_mulW (pv 12) (pe_op op_sub (pv 4) pe_int)) (pe_op op_mulW (pv 1) (pv 4)) (nomark _))))) (pss_one (ps_dput (hu_of hr) (pv 11) (pv 8) (pv 12) rfl)) pss_nil))))
 (pss_one (ps_ret (pe_tup (pa_cons (pv 10) (pa_cons (pv 11) pa_nil))))))))))), ?_⟩
    obtain ⟨a, w3, rfl, hS, hC⟩ := hx.three
    obtain ⟨sa, xs, rfl, hS2, hA⟩ := hC.isTup
    refine ⟨fun σ H1 => σ = [some (.ref a), some (.int (sprd M)), some (.ref dl), some (.int (at_ : Nat)), some (.int M.b)] ++ List.replicate 8 none ∧ H1 = H, ?_, ?_⟩
    · exact ⟨_, rfl, a, _, 0, _, rfl, rfl, hS, rfl, rfl, rfl⟩
    rintro σ H1 ⟨rfl, rfl⟩
    refine ⟨fun σ H2 => ∃ g, σ = [some (.ref a), some (.int (sprd M)), some (.ref dl), some (.int (at_ : Nat)), some (.int M.b), some (.ref g)] ++ List.replicate 7 none ∧ H1 g = none ∧ H2 = upd H1 g (.dK []), ?_, ?_⟩
    · exact fun g ng => ⟨g, rfl, ng, rfl⟩
    rintro σ H2 ⟨g, rfl, ng, rfl⟩
    have rg : dl ≠ g := ne_of_none hdl ng
    have kg := gain_kin hM (at_ := at_) (D := D)
    refine ⟨fun σ H5 => ∃ l6 l7 l8 l9, σ = [some (.ref a), some (.int (sprd M)), some (.ref dl), some (.int (at_ : Nat)), some (.int M.b), some (.ref g), l6, l7, l8, l9, none, none, none] ∧ Same H1 H5 ∧ H5 g = some (.dK (kd (gainOf (chP M at_) D))), ?_, ?_⟩
    · refine ⟨dl, .dK (kd D), (by rw [upd_ne rg]; exact hdl), trivial, fun od => ?_⟩
      refine ⟨_, rfl, dl, od, rfl, .inl ⟨kd D, upd_same, ?_⟩⟩
      have sb : Same (upd H1 dl (.frz od (.dK (kd D)))) (upd (upd H1 g (.dK [])) dl (.frz od (.dK (kd D)))) := fun b o e => by
        by_cases z : b = dl
        · rw [z, upd_same] at e ⊢
          exact e
        · rw [upd_ne z] at e ⊢
          rw [upd_ne (fun y => by rw [y, ng] at e; cases e)]
          exact e
      generalize hHb : upd H1 dl (.frz od (.dK (kd D))) = Hb at sb
      have nb : Hb g = none := by rw [← hHb, upd_ne (Ne.symm rg)]; exact ng
      have hbr : Hb dl = some (.frz od (.dK (kd D))) := by rw [← hHb]; exact upd_same
      have tb : TStay K H1 Hb := by
        rw [← hHb]
        exact ts_upd hdl (fun _ z => nomatch z) (fun _ _ z => nomatch z)
      have back : ∀ H5, Same Hb H5 → Same H1 (upd H5 dl (.dK (kd D))) := fun H5 s5 b o e => by
        by_cases z : b = dl
        · rw [z, upd_same, ← hdl, ← z, e]
        · rw [upd_ne z]
          refine s5 b o ?_
          rw [← hHb, upd_ne z]
          exact e
      refine for_it walk_keys (fun i σ H5 => ∃ l6 l7 l8 l9, σ = [some (.ref a), some (.int (sprd M)), some (.ref dl), some (.int (at_ : Nat)), some (.int M.b), some (.ref g), l6, l7, l8, l9, none, none, none] ∧ Same Hb H5 ∧ H5 g = some (.dK (kd (bestOn (chP M at_) (fun v p => p - v) (D.take i) [])))) ⟨none, none, none, none, rfl, sb, ?_⟩ (fun i σ H5 _ ⟨_, _, _, _, _, s5, _⟩ => s5 _ _ hbr) ?_ ?_
      · rw [upd_ne (Ne.symm rg), upd_same]
        rfl
      · rintro i x σ H5 H5' hi ⟨l6, l7, l8, l9, rfl, s5, hg5⟩ ⟨rfl, kk, vv, hkv, rfl⟩
        obtain ⟨st, val, hd, rfl, rfl⟩ := kd_at hkv
        have memD : (st, val) ∈ D := List.mem_of_getElem? hd
        have rgs := hK.rg st (List.mem_map_of_mem (f := (·.1)) memD)
        obtain ⟨ra, ys, ca, zs, hx1, hS3, hy1, hS4, hA4⟩ := ch_at hM hA rgs.1 rgs.2 hat
        have tt := tb.trans (ts_same s5)
        refine ⟨_, rfl, a, _, 2, _, rfl, rfl, tt _ _ hS, rfl, _, rfl, sa, xs, st, _, rfl, rfl, tt _ _ hS2, hx1, _, rfl, ra, ys, _, _, rfl, rfl, tt _ _ hS3, hy1, ca, rfl, ⟨zs, tt _ _ hS4⟩, ?_⟩
        refine for_tup (xs := zs) (fun m σ H6 => ∃ l7 l8 l9, σ = [some (.ref a), some (.int (sprd M)), some (.ref dl), some (.int (at_ : Nat)), some (.int M.b), some (.ref g), some (.int st), l7, l8, l9, none, none, none] ∧ Same Hb H6 ∧ H6 g = some (.dK (kd (bestIn (fun v p => p - v) val ((chP M at_ st).take m) (bestOn (chP M at_) (fun v p => p - v) (D.take i) []))))) ⟨l7, l8, l9, rfl, s5, hg5⟩ (fun m σ H6 _ ⟨_, _, _, _, s6, _⟩ => (tb.trans (ts_same s6)) _ _ hS4) ?_ ?_
        · rintro m y σ H6 hy ⟨l7, l8, l9, rfl, s6, hg6⟩
          obtain ⟨p, hp, rp⟩ := rpAll_back hA4 hy
          obtain ⟨pa, rfl, hS5⟩ := rp.pair
          refine ⟨pa, _, rfl, (tb.trans (ts_same s6)) _ _ hS5, rfl, _, _, rfl, _, _, rfl, rfl, ?_⟩
          refine ⟨fun σ H7 => σ = [some (.ref a), some (.int (sprd M)), some (.ref dl), some (.int (at_ : Nat)), some (.int M.b), some (.ref g), some (.int st), some (.int p.1), some (.int p.2), some (.int (p.1 - val)), none, none, none] ∧ H7 = H6, ?_, ?_⟩
          · refine ⟨_, rfl, _, rfl, _, rfl, dl, .int val, rfl, ?_, _, _, rfl, rfl, rfl, rfl⟩
            have := kd_get (d := D) (k := st) (.inr ⟨od, s6 _ _ hbr⟩)
            rw [mem_getI hK.nd memD] at this
            exact this
          rintro σ H7 ⟨rfl, rfl⟩
          have kin : Kin M.C.length (bestIn (fun v p => p - v) val ((chP M at_ st).take m) (bestOn (chP M at_) (fun v p => p - v) (D.take i) [])) :=
            kin_in (kin_on (kin_nil _) fun kv _ q hq => ⟨(ch_rg hM hq).2.2.1, (ch_rg hM hq).2.2.2⟩) fun q hq => ⟨(ch_rg hM (List.mem_of_mem_take hq)).2.2.1, (ch_rg hM (List.mem_of_mem_take hq)).2.2.2⟩
          refine up_if (iT := 8) (iD := 5) (iV := 9) rfl rfl rfl hg6 (kin_size kin hM.c3) ?_
          refine ⟨_, _, _, rfl, same_put s6 nb, ?_⟩
          rw [upd_same, in_take hp]
        · rintro σ H6 ⟨l7, l8, l9, rfl, s6, hg6⟩
          refine ⟨_, _, _, _, rfl, s6, ?_⟩
          rw [hg6, show zs.length = (chP M at_ st).length from by rw [hA4.len, List.length_map], List.take_length, on_take hd]
      · rintro σ H5 ⟨l6, l7, l8, l9, rfl, s5, hg5⟩
        refine ⟨s5 _ _ hbr, l6, l7, l8, l9, rfl, back H5 s5, ?_⟩
        rw [upd_ne (Ne.symm rg), hg5, kd_len, List.take_length]
        rfl
    rintro σ H3 ⟨l6, l7, l8, l9, rfl, s3, hg3⟩
    have gne := on_ne hM (f := fun v p => p - v) hK hne hat
    have g4 := few_on hM (at_ := at_) (f := fun v p => p - v) h4
    have mm : ∃ km, getI (gainOf (chP M at_) D) km = some (mostOn M at_ D) := by
      have := maxL_mem (l := (gainOf (chP M at_) D).map (·.2)) (fun z => gne (List.map_eq_nil_iff.mp z))
      obtain ⟨q0, hq0, e⟩ := List.mem_map.mp this
      exact ⟨q0.1, mem_getI kg.nd (by rw [show mostOn M at_ D = q0.2 from e.symm]; exact hq0)⟩
    obtain ⟨km, hkm⟩ := mm
    have bm := gain_bd hM hB hkm
    refine ⟨fun σ H4 => σ = [some (.ref a), some (.int (sprd M)), some (.ref dl), some (.int (at_ : Nat)), some (.int M.b), some (.ref g), l6, l7, l8, l9, some (.int (mostOn M at_ D)), none, none] ∧ H4 = H3, ?_, ?_⟩
    · exact ⟨_, rfl, g, _, rfl, hg3, gne, rfl, rfl⟩
    rintro σ H4 ⟨rfl, rfl⟩
    refine ⟨fun σ H5 => ∃ r, σ = [some (.ref a), some (.int (sprd M)), some (.ref dl), some (.int (at_ : Nat)), some (.int M.b), some (.ref g), l6, l7, l8, l9, some (.int (mostOn M at_ D)), some (.ref r), none] ∧ H4 r = none ∧ H5 = upd H4 r (.dK []), ?_, ?_⟩
    · exact fun r nr => ⟨r, rfl, nr, rfl⟩
    rintro σ H5 ⟨r, rfl, nr, rfl⟩
    have gr : g ≠ r := ne_of_none hg3 nr
    have hg5 : (upd H4 r (.dK [])) g = some (.dK (kd (gainOf (chP M at_) D))) := by rw [upd_ne gr]; exact hg3
    refine ⟨fun σ H6 => ∃ l8 l12, σ = [some (.ref a), some (.int (sprd M)), some (.ref dl), some (.int (at_ : Nat)), some (.int M.b), some (.ref g), l6, l7, l8, l9, some (.int (mostOn M at_ D)), some (.ref r), l12] ∧ Same H4 H6 ∧ H6 r = some (.dK (kd (lackOn M at_ D))), ?_, ?_⟩
    · refine ⟨_, rfl, g, _, keysI (gainOf (chP M at_) D), rfl, .inl hg5, kd_keys _, ?_, fun ys p perm srt np => ?_⟩
      · unfold keysI
        rw [List.length_map]
        exact Nat.lt_of_le_of_lt g4 (by decide)
      obtain rfl := sort_eq perm srt
      have rp : r ≠ p := ne_of_none (H := upd H4 r (.dK [])) upd_same np
      have nds : (sortI (keysI (gainOf (chP M at_) D))).Nodup := (sort_perm _).nodup_iff.mpr kg.nd
      refine ⟨p, rfl, ⟨_, SqL.of upd_same⟩, ?_⟩
      have s0 : Same H4 (upd H4 r (.dK [])) := same_upd nr
      have s1 : Same (upd H4 r (.dK [])) (upd (upd H4 r (.dK [])) p (.lst ((sortI (keysI (gainOf (chP M at_) D))).map V.int))) := same_upd np
      have np0 : H4 p = none := s0.free np
      refine for_list (K := K) (a := p) (xs := (sortI (keysI (gainOf (chP M at_) D))).map V.int) (fun i σ H6 => ∃ l8 l12, σ = [some (.ref a), some (.int (sprd M)), some (.ref dl), some (.int (at_ : Nat)), some (.int M.b), some (.ref g), l6, l7, l8, l9, some (.int (mostOn M at_ D)), some (.ref r), l12] ∧ Same H4 H6 ∧ H6 p = some (.lst ((sortI (keysI (gainOf (chP M at_) D))).map V.int)) ∧ H6 r = some (.dK (kd (((sortI (keysI (gainOf (chP M at_) D))).take i).filterMap (pickOf M.b (sprd M) (gainOf (chP M at_) D)))))) ⟨l8, none, rfl, s0.trans s1, upd_same, ?_⟩ (fun i σ H6 _ ⟨_, _, _, _, hp, _⟩ => SqL.of hp) ?_ ?_
      · rw [upd_ne rp, upd_same]
        rfl
      · rintro i y σ H6 hy ⟨l8, l12, rfl, s6, hp6, hr6⟩
        obtain ⟨to, hto, rfl⟩ : ∃ to, (sortI (keysI (gainOf (chP M at_) D)))[i]? = some to ∧ y = .int to := by
          rw [List.getElem?_map] at hy
          obtain ⟨to, h1, h2⟩ := Option.map_eq_some_iff.mp hy
          exact ⟨to, h1, h2.symm⟩
        have kto : to ∈ keysI (gainOf (chP M at_) D) := (sort_perm _).mem_iff.mp (List.mem_of_getElem? hto)
        obtain ⟨v, hv⟩ := Option.isSome_iff_exists.mp (getI_mem.mpr kto)
        have bv := gain_bd hM hB hv
        have b2 := hM.b2
        have b9 := hM.b9
        have hg6 : H6 g = some (.dK (kd (gainOf (chP M at_) D))) := s6 _ _ hg3
        have step := pick_take (b := M.b) (sp := sprd M) nds hto v hv
        have p3 : (2 : Nat) ^ 201 + 2 ^ 201 = 2 ^ 202 := by decide +kernel
        have bd1 : (mostOn M at_ D - v).natAbs < 2 ^ 202 := by omega
        have bb : M.b.natAbs < 2 ^ 4 := by omega
        refine ⟨fun σ H7 => σ = [some (.ref a), some (.int (sprd M)), some (.ref dl), some (.int (at_ : Nat)), some (.int M.b), some (.ref g), l6, l7, some (.int to), l9, some (.int (mostOn M at_ D)), some (.ref r), some (.int (M.b * (mostOn M at_ D - v)))] ∧ H7 = H6, ?_, ?_⟩
        · refine ⟨_, rfl, _, rfl, _, rfl, _, rfl, g, .int v, rfl, ?_, _, _, rfl, rfl, _, _, rfl, rfl, ?_, rfl, rfl⟩
          · have := kd_get (d := gainOf (chP M at_) D) (k := to) (.inl hg6)
            rw [hv] at this
            exact this
          · exact wide_mul (a := 4) (b := 202) bb bd1 (by decide) (by decide) (by decide)
        rintro σ H7 ⟨rfl, rfl⟩
        have bl : (M.b * (mostOn M at_ D - v)).natAbs < 2 ^ 206 := wide_lt (a := 4) (b := 202) bb bd1
        have em : maxL ((gainOf (chP M at_) D).map (·.2)) = mostOn M at_ D := rfl
        rw [em] at step
        generalize hlk : M.b * (mostOn M at_ D - v) = lk at bl step
        have ren : ∀ o, Same H4 (upd H7 r o) := fun o => same_put s6 nr
        have put : hopes M.b (sprd M) lk = true → ∀ Dn : Ends, (∀ H8, Same H4 H8 → H8 p = some (.lst ((sortI (keysI (gainOf (chP M at_) D))).map V.int)) → H8 r = some (.dK (kd (((sortI (keysI (gainOf (chP M at_) D))).take (i + 1)).filterMap (pickOf M.b (sprd M) (gainOf (chP M at_) D))))) → Dn.nx [some (.ref a), some (.int (sprd M)), some (.ref dl), some (.int (at_ : Nat)), some (.int M.b), some (.ref g), l6, l7, some (.int to), l9, some (.int (mostOn M at_ D)), some (.ref r), some (.int lk)] H8) →
            sDPut (tVar 11) (tVar 8) (tVar 12) Dn [some (.ref a), some (.int (sprd M)), some (.ref dl), some (.int (at_ : Nat)), some (.int M.b), some (.ref g), l6, l7, some (.int to), l9, some (.int (mostOn M at_ D)), some (.ref r), some (.int lk)] H7 := fun hh Dn hn => by
          refine ⟨_, rfl, _, rfl, _, rfl, r, _, rfl, DPut.k (k := Sum.inl to) hr6 ?_, hn _ (ren _) ?_ ?_⟩
          · rw [kd_len]
            have l1 : (((sortI (keysI (gainOf (chP M at_) D))).take i).filterMap (pickOf M.b (sprd M) (gainOf (chP M at_) D))).length ≤ ((sortI (keysI (gainOf (chP M at_) D))).take i).length := List.length_filterMap_le _ _
            have l2 := List.length_take_le' i (sortI (keysI (gainOf (chP M at_) D)))
            have l3 := (sort_perm (keysI (gainOf (chP M at_) D))).length_eq
            have l4 : (keysI (gainOf (chP M at_) D)).length = (gainOf (chP M at_) D).length := List.length_map _
            exact Nat.lt_of_le_of_lt (show _ ≤ 4 by have : (gainOf (chP M at_) D).length ≤ 4 := g4; omega) (by decide)
          · rw [upd_ne (Ne.symm rp)]
            exact hp6
          · rw [upd_same, kd_put, step, if_pos hh]
        refine ⟨_, rfl, rfl, _, rfl, ?_⟩
        by_cases z0 : lk = 0
        · rw [decide_eq_true (congrArg V.int z0)]
          exact iteT (iteT (put (by unfold hopes; rw [decide_eq_true z0]; rfl) _ fun H8 s8 e1 e2 => ⟨_, _, rfl, s8, e1, e2⟩))
        · rw [decide_eq_false (fun y => z0 (V.int.inj y))]
          have sr := sprd_rg hM
          have w2 := wide_two
          have p5 : ((2 : Int) ^ 100).natAbs = 2 ^ 100 := by decide +kernel
          have p6 : (2 : Nat) ^ 100 * 2 < 2 ^ 102 := by decide +kernel
          refine iteF ⟨_, rfl, _, rfl, _, _, rfl, rfl, _, _, rfl, rfl, ?_, _, rfl, _, rfl, _, _, rfl, rfl, ?_, _, _, rfl, rfl, _, rfl, ?_⟩
          · exact wide_mul (a := 206) (b := 4) bl (by omega) (by decide) (by decide) (by decide)
          · exact wide_mul (a := 102) (b := 4) (by omega) bb (by decide) (by decide) (by decide)
          by_cases lt : lk * (M.b - 1) < sprd M * M.b
          · rw [decide_eq_true lt]
            exact iteT (put (by unfold hopes; rw [decide_eq_true lt, Bool.or_true]) _ fun H8 s8 e1 e2 => ⟨_, _, rfl, s8, e1, e2⟩)
          · rw [decide_eq_false lt]
            refine iteF ⟨_, _, rfl, s6, hp6, ?_⟩
            rw [hr6, step, if_neg]
            unfold hopes
            rw [decide_eq_false z0, decide_eq_false lt]
            decide
      · rintro σ H6 ⟨l8, l12, rfl, s6, hp6, hr6⟩
        refine ⟨l8, l12, rfl, s6, ?_⟩
        rw [hr6, List.length_map, List.take_length]
        rfl
    · rintro σ H6 ⟨l8, l12, rfl, s6, hr6⟩
      refine ⟨_, rfl, _, rfl, (by show 2 ≤ sizeLine; decide), fun t nt => ?_⟩
      have s7 := same_upd (o := HO.tup [V.int (mostOn M at_ D), V.ref r]) nt
      exact q _ t r (s3.trans (s6.trans s7)) upd_same (s7 _ _ hr6) (s3.free nr) ((s3.trans s6).free nt)
end
end My
/-! ### numbers: the mathematics -/
namespace My
open PySem PySem.Spec PyProof.Rows L2
def gg (n d : Int) : Int := ((Nat.gcd n.natAbs d.natAbs : Nat) : Int)
def rn (n d : Int) : Int := n / gg n d
def rd (n d : Int) : Int := d / gg n d
/-- n / d, without a common divisor -/
structure Low (n d : Int) : Prop where
  pos : 0 < d
  one : gg n d = 1
theorem gg_pos {n d : Int} (h : 0 < d) : 0 < gg n d := by
  have : 0 < Nat.gcd n.natAbs d.natAbs := Nat.gcd_pos_of_pos_right _ (by omega)
  unfold gg
  omega
theorem gg_n (n d : Int) : ∃ k, n = gg n d * k := by
  obtain ⟨c, hc⟩ := Nat.gcd_dvd_left n.natAbs d.natAbs
  rcases Int.natAbs_eq n with e | e
  · exact ⟨(c : Int), by unfold gg; rw [← Int.natCast_mul, ← hc]; exact e⟩
  · exact ⟨-(c : Int), by unfold gg; rw [Int.mul_neg, ← Int.natCast_mul, ← hc]; exact e⟩
theorem gg_d (n d : Int) : ∃ k, d = gg n d * k := by
  obtain ⟨c, hc⟩ := Nat.gcd_dvd_right n.natAbs d.natAbs
  rcases Int.natAbs_eq d with e | e
  · exact ⟨(c : Int), by unfold gg; rw [← Int.natCast_mul, ← hc]; exact e⟩
  · exact ⟨-(c : Int), by unfold gg; rw [Int.mul_neg, ← Int.natCast_mul, ← hc]; exact e⟩
theorem rn_mul {n d : Int} (h : 0 < d) : n = gg n d * rn n d := by
  obtain ⟨k, hk⟩ := gg_n n d
  have g := gg_pos (n := n) h
  have e : rn n d = k := by
    unfold rn
    rw [Int.ediv_eq_of_eq_mul_right (by omega) hk]
  rw [e]; exact hk
theorem rd_mul {n d : Int} (h : 0 < d) : d = gg n d * rd n d := by
  obtain ⟨k, hk⟩ := gg_d n d
  have g := gg_pos (n := n) h
  have e : rd n d = k := by
    unfold rd
    rw [Int.ediv_eq_of_eq_mul_right (by omega) hk]
  rw [e]; exact hk
theorem rd_pos {n d : Int} (h : 0 < d) : 0 < rd n d := by
  have g := gg_pos (n := n) h
  have e := rd_mul (n := n) h
  refine Int.lt_of_not_ge fun z => ?_
  have : gg n d * rd n d ≤ 0 := Int.mul_nonpos_of_nonneg_of_nonpos (by omega) z
  omega
theorem low_r {n d : Int} (h : 0 < d) : Low (rn n d) (rd n d) := by
  refine ⟨rd_pos h, ?_⟩
  have g := gg_pos (n := n) h
  have e1 : n.natAbs = (gg n d).natAbs * (rn n d).natAbs := by rw [← Int.natAbs_mul, ← rn_mul h]
  have e2 : d.natAbs = (gg n d).natAbs * (rd n d).natAbs := by rw [← Int.natAbs_mul, ← rd_mul h]
  have e3 : Nat.gcd n.natAbs d.natAbs = (gg n d).natAbs * Nat.gcd (rn n d).natAbs (rd n d).natAbs := by
    rw [← Nat.gcd_mul_left, ← e1, ← e2]
  have e4 : (gg n d).natAbs = Nat.gcd n.natAbs d.natAbs := by unfold gg; exact Int.natAbs_natCast _
  rw [← e4] at e3
  have e5 : Nat.gcd (rn n d).natAbs (rd n d).natAbs = 1 := by
    have e6 : (gg n d).natAbs * 1 = (gg n d).natAbs * Nat.gcd (rn n d).natAbs (rd n d).natAbs := by rw [Nat.mul_one]; exact e3
    exact (Nat.eq_of_mul_eq_mul_left (by omega) e6).symm
  show ((Nat.gcd (rn n d).natAbs (rd n d).natAbs : Nat) : Int) = 1
  rw [e5]; rfl
theorem cross {n d : Int} (h : 0 < d) : rn n d * d = n * rd n d := by
  have e1 := rn_mul (n := n) h
  have e2 := rd_mul (n := n) h
  calc rn n d * d = rn n d * (gg n d * rd n d) := by rw [← e2]
    _ = gg n d * rn n d * rd n d := by rw [Int.mul_comm (gg n d) (rn n d), Int.mul_assoc]
    _ = n * rd n d := by rw [← e1]
/-- a number has one spelling without a common divisor -/
theorem low_uniq {p q r s : Int} (h1 : Low p q) (h2 : Low r s) (e : p * s = r * q) : p = r ∧ q = s := by
  have c1 : Nat.Coprime p.natAbs q.natAbs := by
    have := h1.one
    unfold gg at this
    exact Int.ofNat_inj.mp this
  have c2 : Nat.Coprime r.natAbs s.natAbs := by
    have := h2.one
    unfold gg at this
    exact Int.ofNat_inj.mp this
  have en : p.natAbs * s.natAbs = r.natAbs * q.natAbs := by rw [← Int.natAbs_mul, ← Int.natAbs_mul, e]
  have d1 : q.natAbs ∣ s.natAbs := c1.symm.dvd_of_dvd_mul_left (by rw [en]; exact Nat.dvd_mul_left _ _)
  have d2 : s.natAbs ∣ q.natAbs := c2.symm.dvd_of_dvd_mul_left (by rw [← en]; exact Nat.dvd_mul_left _ _)
  have eq : q.natAbs = s.natAbs := Nat.dvd_antisymm d1 d2
  have hq := h1.pos
  have hs := h2.pos
  have qs : q = s := by omega
  refine ⟨?_, qs⟩
  rw [qs] at e
  exact Int.eq_of_mul_eq_mul_right (by omega) e
theorem low_eq {n d m e : Int} (hd : 0 < d) (he : 0 < e) (h : n * e = m * d) : rn n d = rn m e ∧ rd n d = rd m e := by
  refine low_uniq (low_r hd) (low_r he) ?_
  have c1 := cross (n := n) hd
  have c2 := cross (n := m) he
  refine Int.eq_of_mul_eq_mul_right (a := d * e) (by have := Int.mul_pos hd he; omega) ?_
  calc rn n d * rd m e * (d * e) = (rn n d * d) * (rd m e * e) := by rw [Int.mul_assoc, Int.mul_left_comm (rd m e) d e, ← Int.mul_assoc]
    _ = (n * e) * (rd n d * rd m e) := by rw [c1, Int.mul_assoc, Int.mul_assoc, Int.mul_comm (rd m e) e, Int.mul_left_comm (rd n d) e (rd m e)]
    _ = (m * d) * (rd n d * rd m e) := by rw [h]
    _ = m * rd m e * (rd n d * d) := by rw [Int.mul_assoc, Int.mul_assoc, Int.mul_comm (rd n d) (rd m e), Int.mul_left_comm d (rd m e) (rd n d), Int.mul_comm d (rd n d)]
    _ = rn m e * rd n d * (d * e) := by rw [← c2, Int.mul_assoc, Int.mul_assoc, Int.mul_left_comm e (rd n d) d, Int.mul_comm e d]
theorem low_id {n d : Int} (h : Low n d) : rn n d = n ∧ rd n d = d := by
  unfold rn rd
  rw [h.one]
  exact ⟨Int.ediv_one _, Int.ediv_one _⟩
theorem rn_abs {n d : Int} (h : 0 < d) : (rn n d).natAbs ≤ n.natAbs := by
  have e : n.natAbs = (gg n d).natAbs * (rn n d).natAbs := by rw [← Int.natAbs_mul, ← rn_mul h]
  have g := gg_pos (n := n) h
  have : 1 * (rn n d).natAbs ≤ (gg n d).natAbs * (rn n d).natAbs := Nat.mul_le_mul_right _ (by omega)
  omega
theorem rd_abs {n d : Int} (h : 0 < d) : (rd n d).natAbs ≤ d.natAbs := by
  have e : d.natAbs = (gg n d).natAbs * (rd n d).natAbs := by rw [← Int.natAbs_mul, ← rd_mul h]
  have g := gg_pos (n := n) h
  have : 1 * (rd n d).natAbs ≤ (gg n d).natAbs * (rd n d).natAbs := Nat.mul_le_mul_right _ (by omega)
  omega
theorem gg_le {n d : Int} (h : 0 < d) : gg n d ≤ d := by
  have : Nat.gcd n.natAbs d.natAbs ≤ d.natAbs := Nat.gcd_le_right _ (by omega)
  unfold gg
  omega
end My
/-! ### lacks along words -/
namespace My
open PySem PySem.Spec PyProof.Rows L2 PySem.Builtin.Str
/-- what the frame of a machine is -/
def Frame (d : PyData) (M : Mc) : Prop := Mok M ∧ ((mchD d = true ∧ d = eM M) ∨ (mchD d = false ∧ plnD d = true ∧ withD d = eM M))
def lacksAfter (M : Mc) (cs : List Nat) (D : Dk) : Dk := cs.foldl (fun D c => lackOn M (ixM M c) D) D
theorem lacks_take {M : Mc} {S : Dk} {cs : List Nat} {j c : Nat} (h : cs[j]? = some c) : lacksAfter M (cs.take (j + 1)) S = lackOn M (ixM M c) (lacksAfter M (cs.take j) S) := by
  unfold lacksAfter
  rw [List.take_succ, h, List.foldl_append]
  rfl
structure Lok (M : Mc) (D : Dk) : Prop where
  kin : Kin M.C.length D
  ne : D ≠ []
  few : D.length ≤ 4
  bd : Bd 200 D
theorem lok_step {M : Mc} (h : Mok M) {at_ : Nat} {D : Dk} (l : Lok M D) (ha : at_ < M.z.length) : Lok M (lackOn M at_ D) := ⟨lack_kin h, lack_ne h l.kin l.ne ha, lack_len h l.few, lack_bd h⟩
theorem lok_zero {M : Mc} (h : Mok M) : Lok M [(0, 0)] := by
  have := h.c1
  refine ⟨⟨by simp [keysI], fun k hk => ?_⟩, by simp, by decide, fun kv hkv => ?_⟩
  · have : k = 0 := by simpa [keysI] using hk
    omega
  · obtain rfl : kv = (0, 0) := by simpa using hkv
    decide +kernel
theorem ix_lt {M : Mc} {c : Nat} (hc : c ∈ M.z.cps.toList) : ixM M c < M.z.length := by
  have : M.z.cps.toList.length = M.z.length := Array.length_toList
  rw [← this]
  exact List.idxOf_lt_length_of_mem hc
theorem lok_after {M : Mc} (h : Mok M) : ∀ (cs : List Nat) {D : Dk}, Lok M D → (∀ c ∈ cs, c ∈ M.z.cps.toList) → Lok M (lacksAfter M cs D)
  | [], _, l, _ => l
  | c :: cs, D, l, hc => lok_after h cs (D := lackOn M (ixM M c) D) (lok_step h l (ix_lt (hc c (.head _)))) fun e he => hc e (.tail _ he)
theorem sums_ne {M : Mc} (h : Mok M) : ∀ (cs : List Nat) {S : Dk}, Kin M.C.length S → S ≠ [] → (∀ c ∈ cs, c ∈ M.z.cps.toList) → sumsAfter M cs S ≠ []
  | [], _, _, n, _ => n
  | c :: cs, S, k, n, hc => sums_ne h cs (S := sumStep M S c) (sum_kin h) (on_ne h k n (ix_lt (hc c (.head _)))) fun e he => hc e (.tail _ he)
theorem frame_need {K : PySem.W.Frag} {CM : Addr} {H : Hp} {x : V} {d : PyData} {M : Mc} {nm : Str} {Q : VK} {E : XK} (hF : Frame d M) (hx : Rp K H x d) (hn : nm.length ≤ 100) (q : ∀ H1 v, Same H H1 → Rp K H1 v (eM M) → Q v H1) : spNeedMachine K CM [x, .str nm] H Q E := by
  refine ⟨x, d, nm, rfl, hx, hn, ?_⟩
  rcases hF.2 with ⟨h1, h2⟩ | ⟨h1, h2, h3⟩
  · exact .inl ⟨h1, fun H' s => q H' x s (h2 ▸ hx.go s)⟩
  · exact .inr (.inl ⟨h1, h2, fun H' t s r => q H' _ s (h3 ▸ r)⟩)
end My
/-! ### what stays when the pen writes -/
namespace My
open PySem PySem.Spec PyProof.Rows L2
/-- all but what stands at p, and the tables, is as it was -/
def ButN (p : Addr) (H H' : Hp) : Prop := ∀ b o, b ≠ p → H b = some o → (∀ ps, o ≠ .tbl ps) → H' b = some o
theorem ButN.trans {p : Addr} {H H1 H2 : Hp} (a : ButN p H H1) (b : ButN p H1 H2) : ButN p H H2 := fun c o n e t => b c o n (a c o n e t) t
theorem ButN.refl (p : Addr) (H : Hp) : ButN p H H := fun _ _ _ e _ => e
theorem butN_same {p : Addr} {H H' : Hp} (s : Same H H') : ButN p H H' := fun b o _ e _ => s b o e
theorem butN_but {p : Addr} {H H' : Hp} (s : But p H H') : ButN p H H' := fun b o n e _ => s b o n e
theorem butN_ext {p : Addr} {H H' : Hp} (s : LamX.ExtN H H') : ButN p H H' := fun b o _ e t => s b o e t
theorem Pen.ext {H H' : Hp} {p : Addr} {n : Nat} (h : Pen H p n) (s : LamX.ExtN H H') : Pen H' p n := by
  obtain ⟨c, cs, a, r, h1, h2, h3⟩ := h.ex
  exact ⟨c, cs, a, r, s _ _ h1 (fun _ z => nomatch z), s _ _ h2 (fun _ z => nomatch z), h3⟩
theorem tabs_but {T : List (Addr × Str)} {H H' : Hp} {p : Addr} {ys : List V} (h : LamX.Tabs T H) (hp : H p = some (.lst ys)) (b : But p H H') : LamX.Tabs T H' := fun x hx => by
  obtain ⟨ps, h1, h2, h3⟩ := h x hx
  refine ⟨ps, b _ _ (ne_of h1 hp (by intro z; cases z)) h1, h2, fun pos cv hc => ?_⟩
  obtain ⟨c, e1, e2⟩ := h3 pos cv hc
  exact ⟨c, e1, b _ _ (ne_of e2 hp (by intro z; cases z)) e2⟩
theorem tabs_pen {T : List (Addr × Str)} {H H' : Hp} {p : Addr} {n : Nat} (h : LamX.Tabs T H) (hp : Pen H p n) (b : But p H H') : LamX.Tabs T H' := by
  obtain ⟨ys, e⟩ := hp.ls
  exact tabs_but h e b
theorem tabs_same {T : List (Addr × Str)} {H H' : Hp} (h : LamX.Tabs T H) (s : Same H H') : LamX.Tabs T H' := h.ext s
theorem new_ne {H : Hp} {p l : Addr} {n : Nat} (h : Pen H p n) (hl : H l = none) : l ≠ p := by
  obtain ⟨xs, e⟩ := h.ls
  exact (ne_of_none e hl).symm
/-- x is what d says, whatever becomes of the pen -/
def Rs (p : Addr) (K : PySem.W.Frag) (H : Hp) (x : V) (d : PyData) : Prop := ∀ H', ButN p H H' → Rp K H' x d
def RsAll (p : Addr) (K : PySem.W.Frag) (H : Hp) (xs : List V) (ds : List PyData) : Prop := ∀ H', ButN p H H' → RpAll K H' xs ds
section
variable {p : Addr} {K : PySem.W.Frag} {H H' : Hp} {x : V} {d : PyData} {xs : List V} {ds : List PyData}
theorem Rs.go (h : Rs p K H x d) (b : ButN p H H') : Rs p K H' x d := fun H2 b2 => h H2 (b.trans b2)
theorem RsAll.go (h : RsAll p K H xs ds) (b : ButN p H H') : RsAll p K H' xs ds := fun H2 b2 => h H2 (b.trans b2)
theorem Rs.rp (h : Rs p K H x d) : Rp K H x d := h H (ButN.refl p H)
theorem RsAll.rp (h : RsAll p K H xs ds) : RpAll K H xs ds := h H (ButN.refl p H)
theorem rs_non : Rs p K H .non .none := fun _ _ => .non
theorem rs_bl (b : Bool) : Rs p K H (.bl b) (.bool b) := fun _ _ => .bl b
theorem rs_int (i : Int) : Rs p K H (.int i) (.int i) := fun _ _ => .int i
theorem rs_str (z : Str) (h : z.length ≤ sizeLine) : Rs p K H (.str z) (.str z) := fun _ _ => .str z h
theorem rsNil : RsAll p K H [] [] := fun _ _ => .nil
theorem RsAll.cons (h : Rs p K H x d) (t : RsAll p K H xs ds) : RsAll p K H (x :: xs) (d :: ds) := fun H2 b => .cons (h H2 b) (t H2 b)
theorem rs_tup {t : Addr} (ht : t ≠ p) (h : H t = some (.tup xs)) (a : RsAll p K H xs ds) : Rs p K H (.ref t) (.tuple ds) := fun H2 b => .tup (SqT.of (b _ _ ht h (fun _ z => nomatch z))) (a H2 b)
theorem rs_lst {t : Addr} (ht : t ≠ p) (h : H t = some (.lst xs)) (a : RsAll p K H xs ds) : Rs p K H (.ref t) (.list ds) := fun H2 b => .lst (SqL.of (b _ _ ht h (fun _ z => nomatch z))) (a H2 b)
theorem rsAll_of {α : Type} {f : α → V} {g : α → PyData} : ∀ {l : List α}, (∀ a ∈ l, Rs p K H (f a) (g a)) → RsAll p K H (l.map f) (l.map g)
  | [], _ => rsNil
  | a :: l, h => RsAll.cons (h a (.head _)) (rsAll_of fun b hb => h b (.tail _ hb))
end
def spPickC (K : PySem.W.Frag) : Sp := fun vs H Q _ => ∃ (p c s : Addr) (xs : List V) (n : Nat), vs = [.ref p, .ref s] ∧ PenC H p c n ∧ n < 1048000 ∧ SqL K H s xs ∧ s ≠ p ∧ 0 < xs.length ∧ xs.length ≤ 1000 ∧ ∀ (H' : Hp) (k : Nat) (v : V), But p H H' → PenC H' p c (n + 1) → xs[(k : Nat)]? = some (v : V) → Q v H'
theorem log_small {z : Int} {m : Nat} (h : z.natAbs ≤ m) (hm : m < 9000) : z.natAbs.log2 < 9000 := Nat.lt_of_le_of_lt (Nat.log2_le_self _) (Nat.lt_of_le_of_lt h hm)
section
variable {P : Program} {w : World} {K : PySem.W.Frag} {mg : Str → Option Value} {base : Heap} {f1 f2 f3 f4 : Addr} {d1 d2 d3 d4 : FuncData}
theorem ok_pickC (T : PenTxt K mg f1 f2 f3 f4 d1 d2 d3 d4) {k : Nat} : FnOk P w K mg base CX0 (k + 3) f4 d4 ["pen", "some"] (spPickC K) := by
  have F := T.FPick
  have GT : FnOk P w K mg base CX0 (k + 2) f3 d3 ["pen", "many"] spTakeC := ok_takeC T
  refine F.ok scPick (fun vs H Q E h => ?_) (fun cdv A outer s H vs Q E hr h => ?_)
  · obtain ⟨c, c2, a, xs, n, rfl, _⟩ := h
    rfl
  · obtain ⟨p, c, l, xs, n, rfl, hP, hn, hS, nlp, l0, l1, q⟩ := h
    refine ⟨_, (pss_one (ps_ret (pe_ix ix_list (pv 1) (pe_call GT hr (by rfl) T.gTake T.FTake.kp T.bTake .nil pass0 (pa_cons (pv 0) (pa_cons (pe_callB call_len_seq (by rfl) T.len PySem.boot_len (pa_cons (pv 1) pa_nil)) pa_nil))) (fun _ _ => rfl)))), ?_⟩
    refine ⟨_, rfl, _, rfl, _, rfl, l, xs, rfl, .inl hS, p, c, _, n, rfl, hP, hn, by omega, ?_, fun H1 k b1 hP1 k0 k1 => ?_⟩
    · exact log_small (show ((xs.length : Int)).natAbs ≤ 1000 by omega) (by decide)
    · have hk : k.toNat < xs.length := by omega
      have e : xs[k.toNat]? = some xs[k.toNat] := List.getElem?_eq_getElem hk
      have hS1 : SqL K H1 l xs := by
        rcases hS with (h | ⟨o, h⟩) | h
        · exact .inl (.inl (b1 _ _ nlp h))
        · exact .inl (.inr ⟨o, b1 _ _ nlp h⟩)
        · exact .inr h
      exact ⟨l, xs, k, _, rfl, rfl, hS1, at_of (by omega) e, q H1 k.toNat _ b1 hP1 e⟩
end
end My
/-! ### the law's letters -/
namespace My
open PySem PySem.Spec PyProof.Rows L2
abbrev sXLetters : Stmt := topS 49
theorem scXLetters : FnScope ["pen", "i", "alphabet", "j", "k"] ["pen"] (defScope sXLetters) := ⟨rfl, rfl, rfl, by decide +kernel, rfl, by decide +kernel, by decide +kernel⟩
structure LetTxt (K : PySem.W.Frag) (mg : Str → Option Value) (x1 : Addr) (y1 : FuncData) : Prop where
  FXLetters : Fun K "_law_x_letters" "_law_x_letters" sXLetters x1 y1
  bXLetters : Binds K y1 ["pen"] []
  gXLetters : mg "_law_x_letters" = some (.ref x1)
def abc : Str := "abcdefghijklmnopqrstuvwxyz"
theorem abc_len : abc.length ≤ sizeLine := by
  show 26 ≤ sizeLine
  decide
theorem abc_at {i : Int} (h0 : 0 ≤ i) (h1 : i ≤ 25) : atI abc.cps.toList i = some (97 + i.toNat) := by
  have h : ∀ n : Nat, n < 26 → abc.cps.toList[n]? = some (97 + n) := by decide +kernel
  have e := h i.toNat (by omega)
  rw [show i = ((i.toNat : Nat) : Int) by omega]
  exact (atI_nat e)
def spXLetters : Sp := fun vs H Q _ => ∃ (p : Addr) (n : Nat), vs = [.ref p] ∧ Pen H p n ∧ n < 1047000 ∧ ∀ (H' : Hp) (z : Str), But p H H' → Pen H' p (n + 4) → lettersL z.cps.toList = true → Q (.str z) H'
theorem letters_one {a : Nat} (h1 : 97 ≤ a) (h2 : a ≤ 122) : lettersL [a] = true := by
  simp [lettersL, h1, h2]
section
variable {P : Program} {w : World} {K : PySem.W.Frag} {mg : Str → Option Value} {base : Heap} {f1 f2 f3 f4 : Addr} {d1 d2 d3 d4 : FuncData} {x1 : Addr} {y1 : FuncData}
theorem ok_xLetters (TP : PenTxt K mg f1 f2 f3 f4 d1 d2 d3 d4) (T : LetTxt K mg x1 y1) {k : Nat} : FnOk P w K mg base CX0 (k + 4) x1 y1 ["pen"] spXLetters := by
  have GT : FnOk P w K mg base CX0 (k + 3) f3 d3 ["pen", "many"] spTake := ok_take TP (k := k + 1)
  have GP : FnOk P w K mg base CX0 (k + 3) f4 d4 ["pen", "some"] (spPick K) := ok_pick TP (k := k)
  refine T.FXLetters.ok scXLetters (fun vs H Q E h => ?_) (fun cdv A outer s H vs Q E hr h => ?_)
  · obtain ⟨p, n, rfl, _⟩ := h
    rfl
  · obtain ⟨p, n, rfl, hP, hn, q⟩ := h
    refine ⟨_, (Evl.pss_cut (ps_par (i := 1) (j := 2) (by rfl) scXLetters.nd rfl rfl (by decide) rfl rfl (pa_cons (pe_call GT hr (by rfl) TP.gTake TP.FTake.kp TP.bTake .nil pass0 (pa_cons (pv 0) (pa_cons pe_int pa_nil))) (pa_cons pe_str pa_nil)) (by rfl))
 (Evl.pss_cut (ps_set (i := 3) scXLetters.nd rfl (.inl rfl) (pe_op op_add (pe_op op_add (pv 1) pe_int) (pe_call GT hr (by rfl) TP.gTake TP.FTake.kp TP.bTake .nil pass0 (pa_cons (pv 0) (pa_cons (pe_op op_sub pe_int (pv 1)) pa_nil)))))
 (Evl.pss_cut (ps_set (i := 4) scXLetters.nd rfl (.inl rfl) (pe_op op_add (pe_op op_add (pv 3) pe_int) (pe_call GT hr (by rfl) TP.gTake TP.FTake.kp TP.bTake .nil pass0 (pa_cons (pv 0) (pa_cons (pe_op op_sub pe_int (pv 3)) pa_nil)))))
 (pss_one (ps_ret (pe_op op_add_str (pe_ix ix_str (pv 2) (pv 1) (fun _ _ => rfl)) (pe_call GP hr (by rfl) TP.gPick TP.FPick.kp TP.bPick .nil pass0 (pa_cons (pv 0) (pa_cons (pe_lst (pa_cons pe_str (pa_cons (pe_ix ix_str (pv 2) (pv 3) (fun _ _ => rfl)) (pa_cons (pe_ix ix_str (pv 2) (pv 3) (fun _ _ => rfl)) (pa_cons (pe_ix ix_str (pv 2) (pv 3) (fun _ _ => rfl)) (pa_cons (pe_op op_add_str (pe_ix ix_str (pv 2) (pv 3) (fun _ _ => rfl)) (pe_ix ix_str (pv 2) (pv 4) (fun _ _ => rfl))) pa_nil)))))) pa_nil))))))))), ?_⟩
    refine ⟨fun σ H' => ∃ i : Int, σ = [some (.ref p), some (.int i), some (.str abc), none, none] ∧ 0 ≤ i ∧ i ≤ 23 ∧ But p H H' ∧ Pen H' p (n + 1), ?_, ?_⟩
    · refine ⟨_, rfl, p, 24, n, rfl, hP, by omega, by decide, by decide, fun H1 i b1 hP1 i0 i1 => ⟨_, _, rfl, i, rfl, i0, by omega, b1, hP1⟩⟩
    rintro σ H1 ⟨i, rfl, i0, i1, b1, hP1⟩
    refine ⟨fun σ H' => ∃ j : Int, σ = [some (.ref p), some (.int i), some (.str abc), some (.int j), none] ∧ i < j ∧ j ≤ 24 ∧ But p H H' ∧ Pen H' p (n + 2), ?_, ?_⟩
    · refine ⟨_, rfl, _, _, rfl, rfl, _, rfl, _, rfl, _, _, rfl, rfl, p, 24 - i, n + 1, rfl, hP1, by omega, by omega, log_small (m := 24) (by omega) (by decide), fun H2 j b2 hP2 j0 j1 => ⟨_, _, rfl, rfl, _, rfl, by omega, by omega, b1.trans b2, hP2⟩⟩
    rintro σ H2 ⟨j, rfl, j0, j1, b2, hP2⟩
    refine ⟨fun σ H' => ∃ k : Int, σ = [some (.ref p), some (.int i), some (.str abc), some (.int j), some (.int k)] ∧ j < k ∧ k ≤ 25 ∧ But p H H' ∧ Pen H' p (n + 3), ?_, ?_⟩
    · refine ⟨_, rfl, _, _, rfl, rfl, _, rfl, _, rfl, _, _, rfl, rfl, p, 25 - j, n + 2, rfl, hP2, by omega, by omega, log_small (m := 25) (by omega) (by decide), fun H3 k b3 hP3 k0 k1 => ⟨_, _, rfl, rfl, _, rfl, by omega, by omega, b2.trans b3, hP3⟩⟩
    rintro σ H3 ⟨k, rfl, k0, k1, b3, hP3⟩
    have ai := abc_at (i := i) i0 (by omega)
    have aj := abc_at (i := j) (by omega) (by omega)
    have ak := abc_at (i := k) (by omega) (by omega)
    have len1 : ∀ a b : Nat, (⟨#[a]⟩ : Str).length + (⟨#[b]⟩ : Str).length ≤ sizeLine := fun a b => by
      show 2 ≤ sizeLine
      decide
    refine ⟨_, rfl, _, rfl, abc, i, _, rfl, rfl, abc_len, ai, ?_⟩
    refine ⟨_, rfl, _, rfl, _, rfl, abc, j, _, rfl, rfl, abc_len, aj, _, rfl, _, rfl, abc, j, _, rfl, rfl, abc_len, aj, _, rfl, _, rfl, abc, j, _, rfl, rfl, abc_len, aj, ?_⟩
    refine ⟨_, rfl, _, rfl, abc, j, _, rfl, rfl, abc_len, aj, _, rfl, _, rfl, abc, k, _, rfl, rfl, abc_len, ak, _, _, rfl, rfl, len1 _ _, (by show 5 ≤ sizeLine; decide), fun l hl => ?_⟩
    have nl := new_ne hP3 hl
    refine ⟨p, l, _, n + 3, rfl, hP3.same (same_upd hl), by omega, SqL.of upd_same, nl, (by show 0 < 5; decide), (by show 5 ≤ 1000; decide), fun H4 m v b4 hP4 hm => ?_⟩
    have b34 : But p H H4 := b3.trans ((But.of (same_upd hl)).trans b4)
    have c1 : ∃ y : Str, v = .str y ∧ (y.cps.toList = [] ∨ y.cps.toList = [97 + j.toNat] ∨ y.cps.toList = [97 + j.toNat, 97 + k.toNat]) := by
      match m, hm with
      | 0, hm => exact ⟨_, (Option.some.inj hm).symm, .inl (by decide +kernel)⟩
      | 1, hm => exact ⟨_, (Option.some.inj hm).symm, .inr (.inl rfl)⟩
      | 2, hm => exact ⟨_, (Option.some.inj hm).symm, .inr (.inl rfl)⟩
      | 3, hm => exact ⟨_, (Option.some.inj hm).symm, .inr (.inl rfl)⟩
      | 4, hm => exact ⟨_, (Option.some.inj hm).symm, .inr (.inr rfl)⟩
      | m + 5, hm => exact absurd hm (by simp)
    obtain ⟨y, rfl, c1⟩ := c1
    have hy : y.length = y.cps.toList.length := rfl
    refine ⟨_, _, rfl, rfl, ?_, q H4 _ b34 hP4 ?_⟩
    · rw [hy]
      refine Nat.le_trans (show _ ≤ 3 from ?_) (by decide)
      rw [show (⟨#[97 + i.toNat]⟩ : Str).length = 1 from rfl]
      rcases c1 with e | e | e <;> rw [e] <;> simp
    · have e1 : ((⟨#[97 + i.toNat]⟩ : Str) ++ y).cps.toList = [97 + i.toNat] ++ y.cps.toList := by
        show (#[97 + i.toNat] ++ y.cps).toList = _
        simp
      rw [e1]
      rcases c1 with e | e | e <;> rw [e]
      · simp [lettersL]; omega
      · simp [lettersL]; omega
      · simp [lettersL]; omega
end
end My
/-! ### tuple * 1 -/
namespace My
open PySem PySem.Spec PyProof.Rows L2
theorem tuple_mul1 (l : Addr) (items : Array Value) (n : Nat) (dd : Option Addr) (sl : Array (Option Value)) (u : Tok) :
    Meets (Builtin.«tuple.__mul__» ⟨[.ref l, .int 1 u], []⟩) (fun _ R s => s.heap.get? l = some { cls := .type "tuple", dict := dd, data := .seq items n, slots := sl } ∧
      R (.ok (.ret (Value.ref l))) s) :=
  .of_wp fun prog w A R s h => by
    obtain ⟨hp, g, d, tk, os⟩ := s
    obtain ⟨hl, h⟩ := h
    have f1 := AutoSeq1.idx_int
    wp_walk using wpAny_loadPart' hl
    exact ⟨_, rfl, h⟩
theorem op_repT1 {X : Cx} : OpR X (binaryOp .Mult) (fun x y H Q => ∃ l k xs, x = .ref l ∧ y = .int k ∧ SqT X.K H l xs ∧ xs ≠ [] ∧ 1 ≤ k ∧ k ≤ 1000 ∧ xs.length ≤ 1000 ∧ (k = 1 → Q (.ref l) H) ∧ ∀ p, H p = none → Q (.ref p) (upd H p (.tup (List.replicate k.toNat xs).flatten))) := by
  intro pins s σ H x y v u Q I rx ry h
  obtain ⟨l, k, xs, rfl, rfl, hT, hne, h1, h2, hz, q1, q2⟩ := h
  by_cases e : k = 1
  · subst e
    cases rx
    obtain ⟨t, rfl⟩ := ry
    obtain ⟨its, r, ⟨⟨cls, dd, data, sl⟩, ho, hc, n, hd⟩, hs⟩ := I.tuple hT
    simp only at hc hd
    subst hc hd
    exact wpAny_binaryOp_repeat_ref (T := "tuple") (U := "int") (by decide) ⟨_, ho, rfl⟩ (fun s' => typeIs_int s' 1 t) noFill_tuple_mul F.fills_int_mul F.slot_int_rmul repeat_tuple F.slot_int_index.lookup
      (call_meets F.slot_int_rmul (typeIs_int s 1 t) F.entry_int_rmul (F.args_int_rmul_2 _ _) (int_rmul_tuple 1 t l its.toArray n dd sl)
        ⟨ho, rfl, ⟨_, ho, rfl⟩, call_meets F.slot_tuple_mul ⟨_, ho, rfl⟩ F.entry_tuple_mul (F.args_tuple_mul_2 _ _) (tuple_mul1 l its.toArray n dd sl t) ⟨ho, ⟨.ref l, H, I, rfl, q1 rfl⟩⟩⟩)
  · exact op_repT pins s σ H (.ref l) (.int k) v u Q I rx ry ⟨l, k, xs, rfl, rfl, hT, hne, by omega, h2, hz, q2⟩
end My
/-! ### tuple * 0 -/
namespace My
open PySem PySem.Spec PyProof.Rows L2
theorem tuple_mul0 (l : Addr) (items : Array Value) (n : Nat) (dd : Option Addr) (sl : Array (Option Value)) (u : Tok) (c1 : (items.isEmpty || (0 : Int) == 1) = false) :
    Meets (Builtin.«tuple.__mul__» ⟨[.ref l, .int 0 u], []⟩) (fun _ R s => s.heap.get? l = some { cls := .type "tuple", dict := dd, data := .seq items n, slots := sl } ∧
      R (.ok (.ret (Value.ref s.heap.objs.size))) { s with heap := s.heap.push { cls := Value.type "tuple", data := Data.seq #[] }, toks := s.toks }) :=
  .of_wp fun prog w A R s h => by
    obtain ⟨hp, g, d, tk, os⟩ := s
    obtain ⟨hl, h⟩ := h
    have f1 := AutoSeq1.idx_int
    wp_walk using wpAny_loadPart' hl
    repeat (first
      | (refine wpAny_ite_false (decide_eq_false (by rw [c1]; exact Bool.false_ne_true)) ?_; wp_walk using wpAny_loadPart' hl))
    exact ⟨_, rfl, h⟩
def rRepTa (K : PySem.W.Frag) : R2 := fun x y H Q => ∃ l k xs, x = .ref l ∧ y = .int k ∧ SqT K H l xs ∧ xs ≠ [] ∧ 0 ≤ k ∧ k ≤ 1000 ∧ xs.length ≤ 1000 ∧ (k = 1 → Q (.ref l) H) ∧ ∀ p, H p = none → Q (.ref p) (upd H p (.tup (List.replicate k.toNat xs).flatten))
theorem op_repTa {X : Cx} : OpR X (binaryOp .Mult) (rRepTa X.K) := by
  intro pins s σ H x y v u Q I rx ry h
  obtain ⟨l, k, xs, rfl, rfl, hT, hne, h1, h2, hz, q1, q2⟩ := h
  by_cases e : k = 0
  · subst e
    cases rx
    obtain ⟨t, rfl⟩ := ry
    obtain ⟨its, r, ⟨⟨cls, dd, data, sl⟩, ho, hc, n, hd⟩, hs⟩ := I.tuple hT
    simp only at hc hd
    subst hc hd
    have hi : (its.toArray.isEmpty || (0 : Int) == 1) = false := by
      cases its with
      | nil =>
        cases r
        exact absurd rfl hne
      | cons a b => rfl
    exact wpAny_binaryOp_repeat_ref (T := "tuple") (U := "int") (by decide) ⟨_, ho, rfl⟩ (fun s' => typeIs_int s' 0 t) noFill_tuple_mul F.fills_int_mul F.slot_int_rmul repeat_tuple F.slot_int_index.lookup
      (call_meets F.slot_int_rmul (typeIs_int s 0 t) F.entry_int_rmul (F.args_int_rmul_2 _ _) (int_rmul_tuple 0 t l its.toArray n dd sl)
        ⟨ho, rfl, ⟨_, ho, rfl⟩, call_meets F.slot_tuple_mul ⟨_, ho, rfl⟩ F.entry_tuple_mul (F.args_tuple_mul_2 _ _) (tuple_mul0 l its.toArray n dd sl t hi) ⟨ho, ⟨.ref s.heap.objs.size, _, I.laid (t' := s.toks) (o := .tup []) (fun b ob q => Heap.get?_push_of_some _ q) (Nat.le_refl _) ⟨Nat.zero_le _, [], .nil, IsTup.new _ _⟩, rfl, q2 _ (I.hok.fresh (Nat.le_refl _))⟩⟩⟩)
  · exact op_repT1 pins s σ H (.ref l) (.int k) v u Q I rx ry ⟨l, k, xs, rfl, rfl, hT, hne, by omega, h2, hz, q1, q2⟩
theorem rep_any {K : PySem.W.Frag} {l : Addr} {x : V} {k : Int} {H : Hp} {Q : VK} (hl : H l = some (.tup [x])) (k0 : 0 ≤ k) (k1 : k ≤ 1000) (q : ∀ r H', Same H H' → H' r = some (.tup (List.replicate k.toNat x)) → Q (.ref r) H') : rRepTa K (.ref l) (.int k) H Q := by
  have e : (List.replicate k.toNat [x]).flatten = List.replicate k.toNat x := by simp
  refine ⟨l, k, [x], rfl, rfl, SqT.of hl, by simp, k0, k1, by simp, fun h => ?_, fun p hp => ?_⟩
  · subst h
    exact q l H (Same.refl H) hl
  · rw [e]
    exact q p _ (same_upd hp) upd_same
theorem rep_anyC {K : PySem.W.Frag} {σ : L2.St} {l : Addr} {x : V} {k : Int} {H : Hp} {Q : VK} (hl : H l = some (.tup [x])) (k0 : 0 ≤ k) (k1 : k ≤ 1000) (q : ∀ r H', Same H H' → H' r = some (.tup (List.replicate k.toNat x)) → Q (.ref r) H') : tC (.int k) σ H (fun y H2 => rRepTa K (.ref l) y H2 Q) := rep_any hl k0 k1 q
end My
/-! ### an error that is caught is kept: try: .. except X as n: m = n -/
namespace My
open PySem PySem.Spec PyProof.Rows L2
/-- an error of the class at C stands at a -/
def IsErr (C a : Addr) (h : Heap) : Prop := ∃ (oe : Obj) (vs : Array Value), h.get? a = some oe ∧ Zc (.ref C) none oe ∧ oe.data = .fields vs
def ErrV (C a : Addr) : HO := .ext (IsErr C a)
theorem err_ok {P : Program} {w : World} {H : Hp} {h : Heap} {C a : Addr} (e : IsErr C a h) : ObjOk P w H h a (ErrV C a) := by
  obtain ⟨oe, vs, e1, e2, e3⟩ := id e
  exact ⟨e, ⟨oe, e1⟩, fun _ _ ⟨o, v, q, r⟩ k => ⟨o, v, k o q, r⟩⟩
section
variable {X : Cx} {pins : List (Addr × Obj)} {σ : L2.St} {H : Hp} {s : Shared}
/-- what stands there anyway, and is tracked by nothing, may be tracked -/
theorem inv_track (I : Inv X pins σ H s) {a : Addr} {o : HO} {oe : Obj} {vs : Array Value} (n0 : X.s_0.heap.get? a = none) (ha : s.heap.get? a = some oe) (hd : oe.data = .fields vs) (na : H a = none)
    (nL : a ≠ X.env.locals) (np : ∀ p ∈ X.pn ++ pins, p.1 ≠ a) (new : ObjOk X.prog X.w (upd H a o) s.heap a o) : Inv X pins σ (upd H a o) s where
  ok := I.ok
  os := I.os
  bare := I.bare
  base := by
    have ne : ∀ b u, X.s_0.heap.get? b = some u → b ≠ a := fun b u e z => by
      rw [z, n0] at e
      cases e
    exact {
      keep := I.base.keep, slot := I.base.slot, there := I.base.there,
      free := fun b u e n x => by rw [upd_ne (ne b u e)]; exact I.base.free b u e n x,
      tups := fun b xs e => (by have q := I.base.tups b xs e; rw [upd_ne (ne_of_none q na)]; exact q),
      frzs := fun b u x e => (by have q := I.base.frzs b u x e; rw [upd_ne (ne_of_none q na)]; exact q),
      tbls := fun b ps e => (by obtain ⟨m, q⟩ := I.base.tbls b ps e; exact ⟨m, by rw [upd_ne (ne_of_none q na)]; exact q⟩) }
  loc := I.loc
  cell := I.cell
  free := by rw [upd_ne nL.symm]; exact I.free
  freeC := fun x c e => by
    have ne : c ≠ a := fun z => by
      obtain ⟨v, oc, hc, hv⟩ := I.cell x c e
      rw [z, ha] at hc
      cases hc
      rw [hd] at hv
      cases hv
    rw [upd_ne ne]
    exact I.freeC x c e
  pin := fun p hp => by
    obtain ⟨p1, p2, p3, p4, p5⟩ := I.pin p hp
    exact ⟨p1, by rw [upd_ne (np p hp)]; exact p2, p3, p4, p5⟩
  hok := I.hok.laidN (fun _ _ e => e) na new
  len := I.len
end
/-- the wish: the class is the clause's, what the suite does with it, and the error is tracked behind -/
def wKeep (K : PySem.W.Frag) (c : Value) (i : Nat) (ts : TS) (D : Ends) : WX := fun cls d σ H =>
  PySem.W.exmOne K cls c = some true ∧ d = none ∧ ∃ C, cls = .ref C ∧ ∀ a, H a = none → ts { nx := fun σ' H' => H' a = none → D.nx (σ'.set i none) (upd H' a (ErrV C a)), rt := fun _ _ => False } (σ.set i (some (.ref a))) H
section
variable {X : Cx} {x n : Str} {c : Value} {i : Nat} {body suite : List Stmt} {b₀ : Stmt} {np pos pos' : Pos} {tb : WX → TS} {ts : TS}
theorem ps_try_keep (hs : X.stack = X.env :: X.outer) (hf : X.env.frame = some X.env.locals) (hex : X.ex = []) (hN : X.N.Nodup) (hi : X.N[i]? = some n) (hln : X.env.kindOf n = some .local) (hc : Names X x c)
    (hb : ∀ (W : WX) (pl : List (Addr × Obj)) (ex : Value → Shared → Prop), Takes (X.tr pl ex) W → PassesOwn (model X.prog X.w) X.A X.env ex → PSs (X.tr pl ex) body (tb W))
    (hsu : ∀ (a : Addr) (oe : Obj) (pl : List (Addr × Obj)), PSs (X.suite a ((a, oe) :: pl)) (b₀ :: suite) ts) :
    PS X (.Try body [.ExceptHandler (some (.Name x np)) (some n) (b₀ :: suite) pos'] [] [] pos) (fun D σ H => tb (wKeep X.K c i ts D) D σ H) := by
  constructor
  intro pins s σ H D I h
  have okX := I.ok
  have frames : X.A.frames = some (X.env :: X.outer) := okX.frames.trans (congrArg some hs)
  refine wpAny_Try_except ?_
  refine wpAny_mono ((hb (wKeep X.K c i ts D) (X.pn ++ pins)
    (fun e s₁ => wpAny (model X.prog X.w) X.A (noteFrame e X.env) (fun _ s₂ => wpAny (model X.prog X.w) X.A (setFlight e none) (fun _ s₃ =>
      wpAny (model X.prog X.w) X.A (handleBy e X.env [.ExceptHandler (some (.Name x np)) (some n) (b₀ :: suite) pos']) (SP X pins D) X.xe s₃) X.xe s₂) X.xe s₁)
    (fun u s2 air => ?caught) PassesOwn.looking).run [] s σ H D (I.toTry _) h) (fun f s1 ends => ?through) (fun e s1 he => he)
  case caught =>
    obtain ⟨a, B, sI, pins2, σ2, H2, cls, d, rfl, I2, under, upto, sky, freeA, osE, bareG, match1, dn, C, rfl, go⟩ := air
    subst dn
    have J := I2.ofTry okX
    rw [hs] at sky
    show wpAny (model X.prog X.w) X.A (noteFrame (.ref a) X.env) _ _ _
    refine Sky.land Zc.steady frames hf sky fun h3 fly3 upto3 => ?_
    obtain ⟨oe3, vs3, at3, cls3, data3⟩ := fly3.there
    have noFrame : ∀ {hh : Heap} {oo : Obj} {vv : Array Value}, hh.FunFrames B (X.env :: X.outer) → hh.get? a = some oo → oo.data = .fields vv → a ∉ frs (X.env :: X.outer) := by
      intro hh oo vv ff e1 e2 mem
      obtain ⟨_, o2, e3, bad⟩ := ff.mem mem
      rw [e1] at e3
      cases e3
      exact bad _ e2
    have nfr := noFrame fly3.2.2.1 at3 data3
    have nL : a ≠ X.env.locals := by
      intro z
      refine nfr (List.mem_filterMap.mpr ⟨X.env, List.mem_cons_self, ?_⟩)
      rw [hf, z]
    have nF : a ∉ X.fs := by
      intro mem
      obtain ⟨e, he, q⟩ := List.mem_filterMap.mp mem
      exact nfr (List.mem_filterMap.mpr ⟨e, List.mem_cons_of_mem _ he, q⟩)
    -- it is new: it does not stand in the state without it
    have newI : sI.heap.get? a = none := by
      cases q : sI.heap.get? a with
      | none => rfl
      | some u =>
        have z := under a u q (by rw [hs]; exact nfr)
        rw [fly3.2.1] at z
        cases z
    have new0 : X.s_0.heap.get? a = none := by
      cases q : X.s_0.heap.get? a with
      | none => rfl
      | some u =>
        obtain ⟨u2, z⟩ := J.base.there a u q (by rw [hex]; exact fun z => nomatch z)
        rw [newI] at z
        cases z
    have offPins : ∀ p ∈ X.pn ++ pins, p.1 ≠ a := by
      intro p hp z
      have q := (J.pin p hp).1
      rw [z, newI] at q
      cases q
    have J3 : Inv X pins σ2 H2 { s2 with heap := h3 } := J.landed under fly3.1 (upto.trans upto3) osE bareG
    have S3 := J3.suite at3 data3 freeA nL nF
    refine wpAny_handleBy_cons (codeAny_handlers_test ?_) (fun q => by cases q)
    have typeIs : PySem.W.Looks (model X.prog X.w) h3 (typeOf (.ref a)) (.ref C) := fun A Q E st k q => wpAny_typeOf_ref (k _ _ at3) (by rw [cls3.1]; exact q)
    have looks := PySem.W.exm_one (M := model X.prog X.w) J3.kIn typeIs match1
    have nameIs : ∀ {Q : Value → Shared → Prop} {E : Value → Shared → Prop}, Q c { s2 with heap := h3 } → wpAny (model X.prog X.w) (X.A.mark (some (.ref a))) (eval (.Name x np) X.env) Q E { s2 with heap := h3 } := by
      intro Q E q
      rcases hc with ⟨g1, g2, m1 | ⟨m1, m2, m3⟩⟩
      · exact ld_glob (X := X.suite a ((a, oe3) :: (X.pn ++ pins))) S3 g1 m1 q g2
      · exact ld_blt (X := X.suite a ((a, oe3) :: (X.pn ++ pins))) S3 g1 m1 m2 q m3 g2
    refine nameIs (looks.here ?_)
    refine codeAny_handlers_suite_as ?_
    refine HandSPX.lands_againZ fly3 fun h4 fly4 upto4 => ?_
    have J4 : Inv X pins σ2 H2 { s2 with heap := h4 } := J.landed under fly4.1 ((upto.trans upto3).trans upto4) osE bareG
    obtain ⟨oe4, vs4, at4, cls4, data4⟩ := fly4.there
    have S4 := J4.suite at4 data4 freeA nL nF
    refine store_ok (X := X.suite a ((a, oe4) :: (X.pn ++ pins))) (v := .ref a) S4 hN hi (.inl hln) rfl (fun s5 S5 => ?_) (.inr hln)
    refine wpAny_mono ((hsu a oe4 (X.pn ++ pins)).run [] s5 _ H2 _ S5 (go a freeA)) (fun f s6 ends => ?_) (fun _ _ z => z.elim)
    match f, ends with
    | .ret _, ends => exact (let ⟨_, _, _, _, _, z⟩ := ends; z.elim)
    | .brk, ends => exact (let ⟨_, _, _, z⟩ := ends; z.elim)
    | .cont, ends => exact (let ⟨_, _, _, z⟩ := ends; z.elim)
    | .next, ends =>
      obtain ⟨σ6, H6, S6, q6⟩ := ends
      obtain ⟨at6, free6, _⟩ := S6.pin (a, oe4) (List.mem_append.mpr (.inl List.mem_cons_self))
      have J6 := inv_track (o := ErrV C a) (S6.unsuite okX) new0 at6 data4 free6 nL offPins (err_ok ⟨oe4, vs4, at6, cls4, data4⟩)
      exact gone_ok J6 hN hi hln fun s7 J7 => ⟨_, _, J7, q6 free6⟩
  case through =>
    match f, ends with
    | .next, ⟨σ', H', J', q⟩ => exact wpAny_execs_nil ⟨σ', H', J'.ofTry okX, q⟩
    | .brk, ⟨σ', H', J', q⟩ => exact ⟨σ', H', J'.ofTry okX, q⟩
    | .cont, ⟨σ', H', J', q⟩ => exact ⟨σ', H', J'.ofTry okX, q⟩
    | .ret u, ⟨v, σ', H', J', r, q⟩ => exact ⟨v, σ', H', J'.ofTry okX, r, q⟩
end
end My
/-! ### isinstance of an error that is tracked; a text times an int -/
namespace My
open PySem PySem.Spec PyProof.Rows L2
/-- what the classes D of errors must say: nothing of their own stands in isinstance's way -/
def errFacts (K : PySem.W.Frag) (D : Addr) : Bool :=
  (PySem.W.findIn K (.ref D) "__getattribute__" == some (some (.builtin "BaseException.__getattribute__"))) && ((PySem.W.findIn K (.ref D) "__getattr__" == some none) && ((PySem.W.subIn K (.ref D) (.type "BaseException") == some true) &&
  (PySem.W.hasDictIn K D && ((PySem.W.findIn K (.ref D) "__class__" == some (some (.builtin "object.__class__"))) && ((PySem.W.specialIn K (.builtin "object.__class__") "__get__" == some (some (.builtin "getset_descriptor.__get__"))) &&
  ((PySem.W.takesIn K (.builtin "object.__class__") == some true) && (PySem.W.mroIn K D (.type "object") == some true)))))))
theorem errFacts_to {K : PySem.W.Frag} {D : Addr} (h : errFacts K D = true) : L2.ExcC K D := by
  unfold errFacts at h
  simp only [Bool.and_eq_true, beq_iff_eq] at h
  obtain ⟨h1, h2, h3, h4, h5, h6, h7, h8⟩ := h
  exact ⟨h1, h2, h3, h4, h5, h6, h7, h8⟩
/-- what an error of the class at D needs to be raised, made, caught and asked for -/
def mkFacts (K : PySem.W.Frag) (D : Addr) : Bool :=
  PySem.W.excIn K D [.type "ValueError", .type "Exception", .type "BaseException", .type "object"] "ValueError.__new__" && (PySem.W.keepIn K (.ref D) && ((PySem.W.subIn K (.ref D) (.type "BaseException") == some true) && ((PySem.W.typeIn K (.ref D) == some (.type "type")) && errFacts K D)))
/-- it is of the class at c, or not -/
def kitB (K : PySem.W.Frag) (D : Addr) (c : Value) (b : Bool) : Bool := PySem.W.kitOne K (.ref D) c == some b
/-- a tracked thing at a is an error of the class at D -/
def ErrAt (H : Hp) (a D : Addr) : Prop := ∃ φ, H a = some (.ext φ) ∧ ∀ h, φ h → IsErr D a h
theorem ErrAt.same {H H' : Hp} {a D : Addr} (h : ErrAt H a D) (s : Same H H') : ErrAt H' a D := by
  obtain ⟨φ, e, q⟩ := h
  exact ⟨φ, s _ _ e, q⟩
theorem errV_at {H : Hp} {a D : Addr} : ErrAt (upd H a (ErrV D a)) a D := ⟨_, upd_same, fun _ h => h⟩
theorem exO_at {H : Hp} {a D : Addr} (e : H a = some (ExO (.ref D) a)) : ErrAt H a D := ⟨_, e, fun h ⟨oe, vs, h1, h2, h3, _⟩ => ⟨oe, vs, h1, h2, h3⟩⟩
section
variable {X : Cx}
def rIsErr (K : PySem.W.Frag) : List V → Hp → VK → Prop := fun xs H Q => ∃ (a D : Addr) (c : V) (u : Value) (b : Bool), xs = [.ref a, c] ∧ ErrAt H a D ∧ errFacts K D = true ∧ ClsV c u ∧ kitB K D u b = true ∧ Q (.bl b) H
theorem call_isErr : CallR X (.builtin "isinstance") (rIsErr X.K) := by
  intro pins s σ H xs us Q I r h
  obtain ⟨a, D, c, u, b, rfl, ⟨φ, ha, hφ⟩, hF, hc, hk, q⟩ := h
  have C := errFacts_to hF
  cases r with
  | cons r1 rr =>
    cases rr with
    | cons r2 r3 =>
      cases r3
      cases r1
      cases hc.eq r2
      obtain ⟨oe, vs, e1, ⟨e2, e3⟩, e4⟩ := hφ _ (I.hok a _ ha).1
      have J : PySem.W.InstAt s.heap a oe D none := by
        obtain ⟨oc, od, dt, sl⟩ := oe
        dsimp only at e2 e3 e4
        subst e2 e3 e4
        exact ⟨e1, rfl, rfl, trivial⟩
      exact PySem.W.kia_one (PySem.W.handS_kitx_exc C.hg C.hk C.hs C.hd C.ha C.hn C.ht C.hm) I.kIn J (beq_iff_eq.mp hk) (fun z => nomatch z) fun tk => ⟨.bl b, H, I.tok tk, rfl, q⟩
/-- s * n, of small ones: some text -/
theorem op_mulS : OpR X (binaryOp .Mult) (fun x y H Q => ∃ (z : Str) (n : Int), x = .str z ∧ y = .int n ∧ z.length ≤ 1000 ∧ -1000 ≤ n ∧ n ≤ 1000 ∧ ∀ t : Str, Q (.str t) H) := by
  intro pins s σ H x y v u Q I rx ry h
  obtain ⟨z, n, rfl, rfl, hz, h0, h1, q⟩ := h
  obtain ⟨t, rfl⟩ := rx
  obtain ⟨t', rfl⟩ := ry
  refine SB.mul ⟨?_, fun h2 _ => ?_, fun h2 _ => ?_⟩ fun t2 k => ⟨.str _, H, I.tok k, ⟨_, rfl⟩, q _⟩
  · rw [Bool.or_eq_false_iff]
    exact ⟨decide_eq_false (by omega), decide_eq_false (by omega)⟩
  · have h3 : (1000 : Int) ≤ (2 ^ 63 - 1) / n := (Int.le_ediv_iff_mul_le (by omega)).mpr (by omega)
    omega
  · have h4 : z.length * n.toNat ≤ 1000 * 1000 := Nat.mul_le_mul hz (by omega)
    exact decide_eq_false (by rw [sizeLine_eq]; omega)
end
end My
/-! ### the law's word for what an act raises -/
namespace My
open PySem PySem.Spec PyProof.Rows L2
theorem count_of {y : V} : ∀ {ys : List V} {us : List Value}, Vals ys us → ys.all flatV = true → us.countP (eqU y) = ys.countP (fun z => eqV z y)
  | _, _, .nil, _ => rfl
  | _, _, .cons r t, h => by
    rw [List.all_cons, Bool.and_eq_true] at h
    rw [List.countP_cons, List.countP_cons, count_of t h.2, eqU_of r h.1]
section
variable {X : Cx}
/-- xs.count(y), all flat -/
def rCountF (K : PySem.W.Frag) : V → List V → Hp → VK → Prop := fun x xs H Q => ∃ (a : Addr) (ys : List V) (y : V), x = V.ref a ∧ xs = [y] ∧ SqL K H a ys ∧ flatV y = true ∧ ys.all flatV = true ∧ Q (.int ((ys.countP fun z => eqV z y : Nat) : Int)) H
theorem mt_countF : MtR X "list.count" (rCountF X.K) := by
  intro pins s σ H x xs v us Q I rx rxs h
  obtain ⟨a, ys, y, rfl, rfl, hs, fy, fys, q⟩ := h
  cases rx
  cases rxs with
  | cons ry rt =>
    rename_i uy ut
    cases rt
    obtain ⟨its, rv, ⟨⟨cls, dd, data, sl⟩, n, ho, hc, hdn, hd⟩, hlen⟩ := I.list hs
    simp only at hc hd
    subst hc hd
    refine call_meets PySem.F.slot_list_count ⟨_, ho, rfl⟩ PySem.F.entry_list_count (PySem.F.args_list_count_2 _ _) (SeqAt.list_countAt a its.toArray n dd sl uy (eqU y)) ⟨ho, fun u hu => mem_eqAt ry fy rv fys u (by simpa using hu), ?_⟩
    refine ⟨.int ((ys.countP fun z => eqV z y : Nat) : Int), H, I.tok _, ⟨s.toks, ?_⟩, q⟩
    have ec : its.toArray.toList.countP (eqU y) = ys.countP (fun z => eqV z y) := count_of rv fys
    show Value.int ((its.toArray.toList.countP (eqU y) : Nat) : Int) s.toks = Value.int ((ys.countP (fun z => eqV z y) : Nat) : Int) s.toks
    rw [ec]
end
abbrev sWord : Stmt := topS 57
theorem scWord : FnScope ["act", "caught", "e", "some", "words"] ["act"] (defScope sWord) := ⟨rfl, rfl, rfl, by decide +kernel, rfl, by decide +kernel, by decide +kernel⟩
def kitW (K : PySem.W.Frag) (cs : List Addr) : Bool := (List.range 12).all fun i => (List.range 12).all fun j => kitB K (cs.getD i 0) (.ref (cs.getD j 0)) (decide (i = j))
def upW (K : PySem.W.Frag) (cs : List Addr) (CL : Addr) : Bool := (List.range 12).all fun i => mkFacts K (cs.getD i 0) && (kitB K (cs.getD i 0) (.type "ValueError") true && (PySem.W.exmOne K (.ref (cs.getD i 0)) (.ref CL) == some true))
structure WordTxt (K : PySem.W.Frag) (mg : Str → Option Value) (C0 C1 C2 C3 C4 C5 C6 C7 C8 C9 C10 C11 CL : Addr) : Prop where
  isi : mg "isinstance" = none
  ve : mg "ValueError" = none
  later : mg "LaterError" = some (.ref CL)
  c0 : mg "NoMachine" = some (.ref C0)
  c1 : mg "NoPlain" = some (.ref C1)
  c2 : mg "NoLetters" = some (.ref C2)
  c3 : mg "NoRule" = some (.ref C3)
  c4 : mg "NoRow" = some (.ref C4)
  c5 : mg "NoWord" = some (.ref C5)
  c6 : mg "NoNumber" = some (.ref C6)
  c7 : mg "NoDivisor" = some (.ref C7)
  c8 : mg "NoMatch" = some (.ref C8)
  c9 : mg "TooGreat" = some (.ref C9)
  c10 : mg "NoLimit" = some (.ref C10)
  c11 : mg "HasRow" = some (.ref C11)
  all : kitW K [C0, C1, C2, C3, C4, C5, C6, C7, C8, C9, C10, C11] = true
  up : upW K [C0, C1, C2, C3, C4, C5, C6, C7, C8, C9, C10, C11] CL = true
theorem kitW_of {K : PySem.W.Frag} {cs : List Addr} (h : kitW K cs = true) {i : Nat} (hi : i < 12) (j : Nat) (hj : j < 12) : kitB K (cs.getD i 0) (.ref (cs.getD j 0)) (decide (i = j)) = true := by
  unfold kitW at h
  simp only [List.all_eq_true, List.mem_range] at h
  exact h i hi j hj
theorem upW_of {K : PySem.W.Frag} {cs : List Addr} {CL : Addr} (h : upW K cs CL = true) {i : Nat} (hi : i < 12) : mkFacts K (cs.getD i 0) = true ∧ kitB K (cs.getD i 0) (.type "ValueError") true = true ∧ PySem.W.exmOne K (.ref (cs.getD i 0)) (.ref CL) = some true := by
  unfold upW at h
  simp only [List.all_eq_true, List.mem_range, Bool.and_eq_true, beq_iff_eq] at h
  exact h i hi
theorem err_of {K : PySem.W.Frag} {D : Addr} (h : mkFacts K D = true) : errFacts K D = true := by
  unfold mkFacts at h
  simp only [Bool.and_eq_true] at h
  exact h.2.2.2.2
/-- which of the classes it is -/
def mark (i n : Nat) : List Bool := (List.range n).map fun j => decide (i = j)
def theWords : List Str := ["machine", "plain", "letters", "rule", "row", "word", "number", "divisor", "match", "great", "limit", "has"]
/-- the word for the i-th class -/
def wordOf (i : Nat) : Str := theWords.getD i "odd"
theorem word_at {i : Nat} (h : i < 12) : (theWords.map V.str)[i]? = some (.str (wordOf i)) := by
  have h2 : i < theWords.length := h
  rw [List.getElem?_map, List.getElem?_eq_getElem h2]
  unfold wordOf
  rw [List.getD_eq_getElem?_getD, List.getElem?_eq_getElem h2]
  rfl
theorem mark_count : ∀ i, i < 12 → ((mark i 12).map V.bl).countP (fun z => eqV z (.bl true)) = 1 := by decide
theorem mark_flat : ∀ i, i < 12 → ((mark i 12).map V.bl).all flatV = true := by decide
theorem mark_at {i : Nat} (h : i < 12) : ((mark i 12).map V.bl)[i]? = some (.bl true) := by
  unfold mark
  rw [List.getElem?_map, List.getElem?_map, List.getElem?_range h]
  simp
theorem mark_not {i m : Nat} (h : i < 12) (hm : m < i) (z : V) (hz : ((mark i 12).map V.bl)[m]? = some z) : eqV z (.bl true) = false := by
  unfold mark at hz
  rw [List.getElem?_map, List.getElem?_map, List.getElem?_range (by omega)] at hz
  obtain rfl := Option.some.inj hz
  show eqV (V.bl (decide (i = m))) (.bl true) = false
  rw [decide_eq_false (show ¬ i = m by omega)]
  rfl
/-- what the law's word makes of an act's reading -/
def TTword (cs : List Addr) : (XK → Hp → VK → Prop) → Hp → VK → Prop := fun tl H Q =>
  tl (fun cls d H' => ∃ i, i < 12 ∧ cls = .ref (cs.getD i 0) ∧ d = none ∧ ∀ H'' : Hp, Same H' H'' → Q (.str (wordOf i)) H'') H (fun _ H' => ∀ H'' : Hp, Same H' H'' → Q (.str "fine") H'')
theorem takes_len {X : Cx} {W : WX} (tk : Takes X W) : Takes X (fun c d σ H => σ.length = X.N.length → W c d σ H) := by
  rintro u s' ⟨a, B, sI, pins, σ, H, cls, d, e, I, nb, up, sky, na, os, ag, w⟩
  exact tk u s' ⟨a, B, sI, pins, σ, H, cls, d, e, I, nb, up, sky, na, os, ag, w I.len⟩
/-- behind the act: an error is caught, or nothing is raised -/
def wordMid (cs : List Addr) (Q : VK) (σ : L2.St) (H' : Hp) : Prop :=
  (∃ (x0 x3 x4 : Option V) (a : Addr) (i : Nat), σ = [x0, some (.ref a), none, x3, x4] ∧ i < 12 ∧ ErrAt H' a (cs.getD i 0) ∧ ∀ H'' : Hp, Same H' H'' → Q (.str (wordOf i)) H'') ∨
  ((∃ (x0 x2 x3 x4 : Option V), σ = [x0, some .non, x2, x3, x4]) ∧ ∀ H'' : Hp, Same H' H'' → Q (.str "fine") H'')
section
variable {X : Cx} {C0 C1 C2 C3 C4 C5 C6 C7 C8 C9 C10 C11 CL : Addr}
theorem word_gives {q : Str} {g : Addr} {cdg : Value} (T : WordTxt X.K X.mg C0 C1 C2 C3 C4 C5 C6 C7 C8 C9 C10 C11 CL) : LamX.GivesTo X ["act", "caught", "e", "some", "words"] "_law_x_word" (defScope sWord) g cdg (defBody sWord) "act" q (TTword [C0, C1, C2, C3, C4, C5, C6, C7, C8, C9, C10, C11]) := by
  intro f c' s H Q tl act hc h
  refine ⟨_, (pss_cons (ps_set (i := 1) scWord.nd rfl (.inl rfl) pe_non)
 (Evl.pss_cut (ps_try_keep (i := 2) (tb := fun W D σ H => ∃ Ech : XK, (∀ cls d σ' H', Ech cls d H' → σ'.length = 5 → W cls d σ' H') ∧ σ[0]? = some (some (.ref f)) ∧ H c' = some (LamX.CodeO c' q) ∧ tl Ech H (fun _ H1 => D.nx σ H1)) rfl rfl rfl scWord.nd rfl rfl ⟨rfl, by decide, .inl T.later⟩
      (fun W pl ex tk _ => ⟨fun pins s1 σ1 H1 D1 I1 h1 => (let ⟨Ech, hW, z1, z2, z3⟩ := h1; (pss_one (ps_expr (act _ pl ex Ech _ _ (takes_len tk) hW))).run pins s1 σ1 H1 D1 I1 ⟨z1, z2, z3⟩)⟩)
      (fun a oe pl => (pss_one (ps_set (i := 1) scWord.nd rfl (.inl rfl) (pv 2)))))
 (Evl.pss_cut (ps_if (pt_cmpR op_isN (pv 1) pe_non (nomark _)) (pss_one (ps_ret pe_str)) pss_nil)
 (Evl.pss_cut (ps_set (i := 3) scWord.nd rfl (.inl rfl) (pe_lst (pa_cons (pe_callB call_isErr (by rfl) T.isi (by decide +kernel) (pa_cons (pv 1) (pa_cons (pe_glob (v := .ref C0) (by rfl) T.c0 rfl) pa_nil))) (pa_cons (pe_callB call_isErr (by rfl) T.isi (by decide +kernel) (pa_cons (pv 1) (pa_cons (pe_glob (v := .ref C1) (by rfl) T.c1 rfl) pa_nil))) (pa_cons (pe_callB call_isErr (by rfl) T.isi (by decide +kernel) (pa_cons (pv 1) (pa_cons (pe_glob (v := .ref C2) (by rfl) T.c2 rfl) pa_nil))) pa_nil)))))
 (Evl.pss_cut (ps_set (i := 3) scWord.nd rfl (.inl rfl) (pe_op op_cat (pv 3) (pe_lst (pa_cons (pe_callB call_isErr (by rfl) T.isi (by decide +kernel) (pa_cons (pv 1) (pa_cons (pe_glob (v := .ref C3) (by rfl) T.c3 rfl) pa_nil))) (pa_cons (pe_callB call_isErr (by rfl) T.isi (by decide +kernel) (pa_cons (pv 1) (pa_cons (pe_glob (v := .ref C4) (by rfl) T.c4 rfl) pa_nil))) (pa_cons (pe_callB call_isErr (by rfl) T.isi (by decide +kernel) (pa_cons (pv 1) (pa_cons (pe_glob (v := .ref C5) (by rfl) T.c5 rfl) pa_nil))) pa_nil))))))
 (Evl.pss_cut (ps_set (i := 3) scWord.nd rfl (.inl rfl) (pe_op op_cat (pv 3) (pe_lst (pa_cons (pe_callB call_isErr (by rfl) T.isi (by decide +kernel) (pa_cons (pv 1) (pa_cons (pe_glob (v := .ref C6) (by rfl) T.c6 rfl) pa_nil))) (pa_cons (pe_callB call_isErr (by rfl) T.isi (by decide +kernel) (pa_cons (pv 1) (pa_cons (pe_glob (v := .ref C7) (by rfl) T.c7 rfl) pa_nil))) (pa_cons (pe_callB call_isErr (by rfl) T.isi (by decide +kernel) (pa_cons (pv 1) (pa_cons (pe_glob (v := .ref C8) (by rfl) T.c8 rfl) pa_nil))) pa_nil))))))
 (Evl.pss_cut (ps_set (i := 3) scWord.nd rfl (.inl rfl) (pe_op op_cat (pv 3) (pe_lst (pa_cons (pe_callB call_isErr (by rfl) T.isi (by decide +kernel) (pa_cons (pv 1) (pa_cons (pe_glob (v := .ref C9) (by rfl) T.c9 rfl) pa_nil))) (pa_cons (pe_callB call_isErr (by rfl) T.isi (by decide +kernel) (pa_cons (pv 1) (pa_cons (pe_glob (v := .ref C10) (by rfl) T.c10 rfl) pa_nil))) (pa_cons (pe_callB call_isErr (by rfl) T.isi (by decide +kernel) (pa_cons (pv 1) (pa_cons (pe_glob (v := .ref C11) (by rfl) T.c11 rfl) pa_nil))) pa_nil))))))
 (Evl.pss_cut (ps_set (i := 4) scWord.nd rfl (.inl rfl) (pe_lst (pa_cons pe_str (pa_cons pe_str (pa_cons pe_str (pa_cons pe_str (pa_cons pe_str (pa_cons pe_str (pa_cons pe_str (pa_cons pe_str (pa_cons pe_str (pa_cons pe_str (pa_cons pe_str pa_nil)))))))))))))
 (pss_cons (ps_expr (pe_bm PySem.F.plainAttrs_list PySem.F.slot_list_append PySem.F.type_list_append mt_append (pv 4) (pa_cons pe_str pa_nil)))
 (pss_one (ps_ret (pe_ifExp (PW.pt (pw_and (pt_cmpR op_eq (pe_bm PySem.F.plainAttrs_list PySem.F.slot_list_count PySem.F.type_list_count mt_countF (pv 3) (pa_cons pe_bl pa_nil)) pe_int (nomark _)) (pw_and1 (pt_val (pe_callB call_isErr (by rfl) T.isi (by decide +kernel) (pa_cons (pv 1) (pa_cons (pe_bltn (v := .ty "ValueError") (by rfl) T.ve (by decide +kernel) rfl) pa_nil))))))) (pe_ix ix_list (pv 4) (pe_bm PySem.F.plainAttrs_list PySem.F.slot_list_index PySem.F.type_list_index mt_index (pv 3) (pa_cons pe_bl pa_nil)) (fun _ _ => rfl)) pe_str)))))))))))), ?_⟩
  have nonIs : V.bl (decide (V.non = V.non)) = V.bl true := congrArg V.bl (decide_eq_true rfl)
  refine ⟨wordMid [C0, C1, C2, C3, C4, C5, C6, C7, C8, C9, C10, C11] Q, ?_, ?_⟩
  · refine ⟨fun cls d H' => ∃ i, i < 12 ∧ cls = .ref ([C0, C1, C2, C3, C4, C5, C6, C7, C8, C9, C10, C11].getD i 0) ∧ d = none ∧ ∀ H'' : Hp, Same H' H'' → Q (.str (wordOf i)) H'', ?_, rfl, hc, ?_⟩
    · rintro cls d σ' H' ⟨i, hi, rfl, rfl, k⟩ hlen
      obtain ⟨x0, x1, x2, x3, x4, rfl⟩ : ∃ x0 x1 x2 x3 x4, σ' = [x0, x1, x2, x3, x4] := by
        match σ', hlen with
        | [x0, x1, x2, x3, x4], _ => exact ⟨x0, x1, x2, x3, x4, rfl⟩
      refine ⟨(upW_of T.up hi).2.2, rfl, _, rfl, fun a ha => ⟨_, rfl, fun ha2 => ?_⟩⟩
      exact .inl ⟨x0, x3, x4, a, i, rfl, hi, errV_at, fun H'' s2 => k H'' ((same_upd ha).trans s2)⟩
    · have e : (fun (_ : V) (H1 : Hp) => wordMid [C0, C1, C2, C3, C4, C5, C6, C7, C8, C9, C10, C11] Q [some (.ref f), some .non, none, none, none] H1) = fun _ H1 => ∀ H'' : Hp, Same H1 H'' → Q (.str "fine") H'' := by
        funext _ H1
        refine propext ⟨fun z => ?_, fun z => .inr ⟨⟨_, _, _, _, rfl⟩, z⟩⟩
        rcases z with ⟨_, _, _, _, _, e, _⟩ | ⟨_, z⟩
        · simp at e
        · exact z
      show tl _ H (fun (_ : V) (H1 : Hp) => wordMid [C0, C1, C2, C3, C4, C5, C6, C7, C8, C9, C10, C11] Q [some (.ref f), some .non, none, none, none] H1)
      rw [e]
      exact h
  rintro σ H1 (⟨x0, x3, x4, a, i, rfl, hi, hE, k⟩ | ⟨⟨x0, x2, x3, x4, rfl⟩, k⟩)
  · have hF := err_of (upW_of T.up hi).1
    have hV := (upW_of T.up hi).2.1
    have hk := kitW_of T.all hi
    refine ⟨fun σ H' => σ = [x0, some (.ref a), none, x3, x4] ∧ H' = H1, ?_, ?_⟩
    · exact ⟨_, rfl, rfl, false, congrArg V.bl (decide_eq_false (by intro z; cases z)), iteF ⟨rfl, rfl⟩⟩
    rintro σ H1 ⟨rfl, rfl⟩
    refine ⟨fun σ H' => ∃ p, σ = [x0, some (.ref a), none, some (.ref p), x4] ∧ Same H1 H' ∧ H1 p = none ∧ H' p = some (.lst ((mark i 3).map V.bl)), ?_, ?_⟩
    · have hE' := hE
      exact ⟨_, rfl, a, _, _, _, _, rfl, hE', hF, .own _, hk 0 (by decide), _, rfl, a, _, _, _, _, rfl, hE', hF, .own _, hk 1 (by decide), _, rfl, a, _, _, _, _, rfl, hE', hF, .own _, hk 2 (by decide), (by show 3 ≤ sizeLine; decide), fun p hp => ⟨p, rfl, same_upd hp, hp, upd_same⟩⟩
    rintro σ H2 ⟨p, rfl, s0, hp0, hp⟩
    refine ⟨fun σ H' => ∃ p, σ = [x0, some (.ref a), none, some (.ref p), x4] ∧ Same H1 H' ∧ H1 p = none ∧ H' p = some (.lst ((mark i 6).map V.bl)), ?_, ?_⟩
    · have hE' := hE.same s0
      refine ⟨_, rfl, _, rfl, a, _, _, _, _, rfl, hE', hF, .own _, hk 3 (by decide), _, rfl, a, _, _, _, _, rfl, hE', hF, .own _, hk 4 (by decide), _, rfl, a, _, _, _, _, rfl, hE', hF, .own _, hk 5 (by decide), (by show 3 ≤ sizeLine; decide), fun q2 hq2 => ?_⟩
      refine ⟨p, q2, _, _, rfl, rfl, same_upd hq2 _ _ hp, upd_same, (by show 6 ≤ sizeLine; decide), fun r hr2 => ⟨r, rfl, (s0.trans (same_upd hq2)).trans (same_upd hr2), (s0.trans (same_upd hq2)).free hr2, upd_same⟩⟩
    rintro σ H2 ⟨p, rfl, s0, hp0, hp⟩
    refine ⟨fun σ H' => ∃ p, σ = [x0, some (.ref a), none, some (.ref p), x4] ∧ Same H1 H' ∧ H1 p = none ∧ H' p = some (.lst ((mark i 9).map V.bl)), ?_, ?_⟩
    · have hE' := hE.same s0
      refine ⟨_, rfl, _, rfl, a, _, _, _, _, rfl, hE', hF, .own _, hk 6 (by decide), _, rfl, a, _, _, _, _, rfl, hE', hF, .own _, hk 7 (by decide), _, rfl, a, _, _, _, _, rfl, hE', hF, .own _, hk 8 (by decide), (by show 3 ≤ sizeLine; decide), fun q2 hq2 => ?_⟩
      refine ⟨p, q2, _, _, rfl, rfl, same_upd hq2 _ _ hp, upd_same, (by show 9 ≤ sizeLine; decide), fun r hr2 => ⟨r, rfl, (s0.trans (same_upd hq2)).trans (same_upd hr2), (s0.trans (same_upd hq2)).free hr2, upd_same⟩⟩
    rintro σ H2 ⟨p, rfl, s0, hp0, hp⟩
    refine ⟨fun σ H' => ∃ p, σ = [x0, some (.ref a), none, some (.ref p), x4] ∧ Same H1 H' ∧ H1 p = none ∧ H' p = some (.lst ((mark i 12).map V.bl)), ?_, ?_⟩
    · have hE' := hE.same s0
      refine ⟨_, rfl, _, rfl, a, _, _, _, _, rfl, hE', hF, .own _, hk 9 (by decide), _, rfl, a, _, _, _, _, rfl, hE', hF, .own _, hk 10 (by decide), _, rfl, a, _, _, _, _, rfl, hE', hF, .own _, hk 11 (by decide), (by show 3 ≤ sizeLine; decide), fun q2 hq2 => ?_⟩
      refine ⟨p, q2, _, _, rfl, rfl, same_upd hq2 _ _ hp, upd_same, (by show 12 ≤ sizeLine; decide), fun r hr2 => ⟨r, rfl, (s0.trans (same_upd hq2)).trans (same_upd hr2), (s0.trans (same_upd hq2)).free hr2, upd_same⟩⟩
    rintro σ H2 ⟨p, rfl, s0, hp0, hp⟩
    -- the words
    refine ⟨fun σ H' => ∃ l, σ = [x0, some (.ref a), none, some (.ref p), some (.ref l)] ∧ Same H2 H' ∧ H2 l = none ∧ H' l = some (.lst ((theWords.take 11).map V.str)), ?_, ?_⟩
    · exact ⟨(by show 11 ≤ sizeLine; decide), fun l hl => ⟨l, rfl, same_upd hl, hl, upd_same⟩⟩
    rintro σ H3 ⟨l, rfl, s3, hl0, hl⟩
    have npl : p ≠ l := ne_of_none hp hl0
    have hp3 := s3 _ _ hp
    refine ⟨_, rfl, .inl ⟨rfl, _, SqL.of hl⟩, l, _, _, rfl, rfl, hl, (by show 11 < sizeLine; decide), ?_⟩
    have s4 : Same H1 (upd H3 l (.lst ((theWords.take 11).map V.str ++ [.str "has"]))) := fun b o e => by
      have nb : b ≠ l := ne_of_none (s0 _ _ e) hl0
      rw [upd_ne nb]
      exact s3 _ _ (s0 _ _ e)
    have hp4 : (upd H3 l (.lst ((theWords.take 11).map V.str ++ [.str "has"]))) p = some (.lst ((mark i 12).map V.bl)) := by
      rw [upd_ne npl]
      exact hp3
    have hE' := hE.same s4
    refine ⟨_, rfl, .inl ⟨rfl, _, SqL.of hp4⟩, p, _, .bl true, rfl, rfl, SqL.of hp4, rfl, mark_flat i hi, rfl, true, congrArg V.bl (decide_eq_true (by rw [mark_count i hi]; rfl)), iteT ?_⟩
    refine ⟨_, rfl, a, _, _, _, _, rfl, hE', hF, .ty _, hV, _, rfl, iteT ?_⟩
    refine ⟨_, rfl, _, rfl, .inl ⟨rfl, _, SqL.of hp4⟩, p, _, .bl true, i, .bl true, rfl, rfl, SqL.of hp4, rfl, mark_flat i hi, mark_at hi, rfl, fun m z hm hz => mark_not hi hm z hz, ?_⟩
    exact ⟨l, theWords.map V.str, (i : Int), .str (wordOf i), rfl, rfl, SqL.of upd_same, atI_nat (word_at hi), k _ s4⟩
  · refine ⟨fun _ _ => False, ?_, fun _ _ z => z.elim⟩
    exact ⟨_, rfl, rfl, true, nonIs, iteT (k H1 (Same.refl H1))⟩
end
end My
/-! ### repr of data, {} among it -/
namespace My
open PySem PySem.Spec PyProof.Rows L2
mutual
/-- no list at any depth -/
def noList : PyData → Bool
  | .list _ => false
  | .tuple xs => noLists xs
  | _ => true
def noLists : List PyData → Bool
  | [] => true
  | x :: xs => noList x && noLists xs
end
section
variable {X : Cx} {pins : List (Addr × Obj)} {σ : L2.St} {H : Hp} {s : Shared}
mutual
theorem Rp.reads (I : Inv X pins σ H s) : ∀ (d : PyData) (v : V) (u : Value), Rp X.K H v d → RelV v u → ∃ as, Reads s.heap u d as ∧ (noList d = true → sysModules ∉ as)
  | .none, _, _, h, r => by
    cases h
    cases r
    exact ⟨_, Reads.none, fun _ z => nomatch z⟩
  | .bool b, _, _, h, r => by
    cases h
    cases r
    exact ⟨_, Reads.bool b, fun _ z => nomatch z⟩
  | .int i, _, _, h, r => by
    cases h
    obtain ⟨t, rfl⟩ := r
    exact ⟨_, Reads.int i t, fun _ z => nomatch z⟩
  | .str x, _, _, h, r => by
    cases h
    obtain ⟨t, rfl⟩ := r
    exact ⟨_, Reads.str x t, fun _ z => nomatch z⟩
  | .list ds, _, _, h, r => by
    cases h with
    | lst hs ha =>
      cases r
      obtain ⟨its, rv, ⟨o, n, ho, hc, _, hd⟩, _⟩ := I.list hs
      obtain ⟨as, hr, _⟩ := RpAll.reads I ds _ its ha rv
      exact ⟨_, Reads.list ho hc hd hr, fun z => by simp [noList] at z⟩
  | .tuple ds, _, _, h, r => by
    cases h with
    | tup hs ha =>
      cases r
      obtain ⟨its, rv, ⟨o, ho, hc, n, hd⟩, _⟩ := I.tuple hs
      obtain ⟨as, hr, no⟩ := RpAll.reads I ds _ its ha rv
      exact ⟨_, Reads.tuple ho hc hd hr, fun z => no (by simpa [noList] using z)⟩
  | .dict kvs, _, _, h, r => by
    cases h with
    | @dct a ha =>
      cases r
      obtain ⟨_, ns, vs, kv, o, es, ep, ho, ex, hd, _, hp, _⟩ := I.hok a _ ha
      cases kv
      have he : es.toList = [] := by
        cases q : es.toList with
        | nil => rfl
        | cons e l =>
          rw [q] at hp
          cases hp
      refine ⟨a :: [] ++ [], Reads.dict ho ex.1 hd (by rw [he]; exact ReadsAll.nil) (by rw [he]; exact ReadsAll.nil), fun _ z => ?_⟩
      simp at z
      rw [z] at ns
      simp at ns
theorem RpAll.reads (I : Inv X pins σ H s) : ∀ (ds : List PyData) (vs : List V) (us : List Value), RpAll X.K H vs ds → Vals vs us → ∃ as, ReadsAll s.heap us ds as ∧ (noLists ds = true → sysModules ∉ as)
  | [], _, _, h, r => by
    cases h
    cases r
    exact ⟨_, ReadsAll.nil, fun _ z => nomatch z⟩
  | d :: ds, _, _, h, r => by
    cases h with
    | cons h1 h2 =>
      cases r with
      | cons r1 r2 =>
        obtain ⟨as, q1, n1⟩ := Rp.reads I d _ _ h1 r1
        obtain ⟨bs, q2, n2⟩ := RpAll.reads I ds _ _ h2 r2
        refine ⟨_, ReadsAll.cons q1 q2, fun z hm => ?_⟩
        rw [noLists, Bool.and_eq_true] at z
        exact (List.mem_append.mp hm).elim (n1 z.1) (n2 z.2)
end
end
def rReprR (K : PySem.W.Frag) : List V → Hp → VK → Prop := fun xs H Q => ∃ x d, xs = [x] ∧ Rp K H x d ∧ (noList d = true ∨ d.hasDict = false) ∧ d.showable = true ∧ d.depth ≤ 60 ∧ d.shown.length ≤ sizeLine ∧ Q (.str d.shown) H
theorem call_reprR {X : Cx} (hgd : X.A.guards = some []) (hu : X.A.units + 64 < cLine) : CallR X (.builtin "repr") (rReprR X.K) := by
  intro pins s σ H xs us Q I r h
  obtain ⟨x, d, rfl, hd, hn, hs, hdep, hz, q⟩ := h
  cases r with
  | @cons _ u _ _ ru rn =>
    cases rn
    obtain ⟨as, hr, no⟩ := Rp.reads I d x u hd ru
    have off : d.hasDict = true → sysModules ∉ as := fun e => by
      rcases hn with h | h
      · exact no h
      · rw [h] at e
        cases e
    cases hd with
    | non =>
      obtain rfl : u = Value.none := ru
      exact PySem.P.repr_of_none ⟨.str _, H, I.tok _, ⟨_, rfl⟩, by simpa only [PyData.shown] using q⟩
    | bl b =>
      obtain rfl : u = Value.bool b := ru
      exact PySem.P.repr_of_bool ⟨.str _, H, I.tok _, ⟨_, rfl⟩, by simpa only [PyData.shown] using q⟩
    | int i =>
      obtain ⟨t, rfl⟩ := ru
      exact PySem.P.repr_of_int (by simpa [PyData.showable] using hs) ⟨.str _, H, I.tok _, ⟨_, rfl⟩, by simpa only [PyData.shown] using q⟩
    | str z _ =>
      obtain ⟨t, rfl⟩ := ru
      exact PySem.P.repr_of_str ⟨.str _, H, I.tok _, ⟨_, rfl⟩, by simpa only [PyData.shown] using q⟩ (by simpa only [PyData.shown] using hz)
    | @lst a _ ds h1 h2 =>
      obtain rfl : u = Value.ref a := ru
      exact PySem.repr_of_reads' hr hs off hgd (by omega) (fun _ _ e => e) (fun h' u tk hk => ⟨.str _, H, I.kept hk, ⟨_, rfl⟩, q⟩) hz
    | @tup a _ ds h1 h2 =>
      obtain rfl : u = Value.ref a := ru
      exact PySem.repr_of_reads' hr hs off hgd (by omega) (fun _ _ e => e) (fun h' u tk hk => ⟨.str _, H, I.kept hk, ⟨_, rfl⟩, q⟩) hz
    | @dct a h1 =>
      obtain rfl : u = Value.ref a := ru
      exact PySem.repr_of_reads' hr hs off hgd (by omega) (fun _ _ e => e) (fun h' u tk hk => ⟨.str _, H, I.kept hk, ⟨_, rfl⟩, q⟩) hz
/-- data of at most that depth and weight, ints of at most 10 ** 39 -/
structure Sd (D W : Nat) (d : PyData) : Prop where
  sh : d.showable = true
  dp : d.depth ≤ D
  lv : d.leavesShort 40 = true
  wt : d.weight ≤ W
theorem Sd.mono {D W D' W' : Nat} {d : PyData} (h : Sd D W d) (a : D ≤ D') (b : W ≤ W') : Sd D' W' d := ⟨h.sh, Nat.le_trans h.dp a, h.lv, Nat.le_trans h.wt b⟩
theorem sd_non : Sd 0 0 .none := ⟨rfl, Nat.le_refl _, rfl, by simp [PyData.weight]⟩
theorem sd_bl (b : Bool) : Sd 0 0 (.bool b) := ⟨rfl, Nat.le_refl _, rfl, by simp [PyData.weight]⟩
theorem sd_dct : Sd 1 0 (.dict []) := ⟨rfl, by simp [PyData.depth, PyData.depthKv], rfl, by simp [PyData.weight, PyData.weightKv]⟩
theorem log_le {n k : Nat} (h : n < 2 ^ k) (hk : 0 < k) : n.log2 + 1 ≤ k := by
  by_cases z : n = 0
  · subst z
    simp
    omega
  · exact (Nat.log2_lt z).mpr h
theorem sd_int {i : Int} (h : i.natAbs < 10 ^ 39) : Sd 0 130 (.int i) := by
  have l : i.natAbs.log2 + 1 ≤ 130 := log_le (Nat.lt_of_lt_of_le h (by decide)) (by decide)
  refine ⟨?_, Nat.le_refl _, ?_, ?_⟩
  · rw [PyData.showable]
    exact decide_eq_true (by omega)
  · rw [PyData.leavesShort]
    refine decide_eq_true ?_
    have e := int_text_length_le10 (k := 39) (by decide) h
    show (Str.ofString (toString i)).length ≤ 40
    rw [PySem.ofString_length]
    exact e
  · rw [PyData.weight]
    split
    · omega
    · exact l
theorem sd_str {z : Str} {n : Nat} (h : ∀ c ∈ z.cps.toList, c ≤ 1000) (l : z.length ≤ n) : Sd 0 n (.str z) := by
  refine ⟨rfl, Nat.le_refl _, ?_, ?_⟩
  · rw [PyData.leavesShort, List.all_eq_true]
    exact fun c hc => decide_eq_true (Nat.lt_of_le_of_lt (h c hc) (by decide))
  · rw [PyData.weight]
    exact l
theorem sd_all {D W : Nat} : ∀ {ds : List PyData}, (∀ d ∈ ds, Sd D W d) → PyData.showableAll ds = true ∧ PyData.depthAll ds ≤ D ∧ PyData.leavesShortAll 40 ds = true ∧ PyData.weightAll ds ≤ ds.length * (W + 1)
  | [], _ => by simp [PyData.showableAll, PyData.depthAll, PyData.leavesShortAll, PyData.weightAll]
  | d :: ds, h => by
    obtain ⟨a1, a2, a4, a5⟩ := h d (.head _)
    obtain ⟨b1, b2, b4, b5⟩ := @sd_all D W ds fun e he => h e (.tail _ he)
    refine ⟨?_, ?_, ?_, ?_⟩
    · rw [PyData.showableAll, a1, b1]
      rfl
    · rw [PyData.depthAll]
      exact Nat.max_le.mpr ⟨a2, b2⟩
    · rw [PyData.leavesShortAll, a4, b4]
      rfl
    · rw [PyData.weightAll, List.length_cons, Nat.succ_mul]
      omega
theorem sd_tup {D W n : Nat} {ds : List PyData} (h : ∀ d ∈ ds, Sd D W d) (l : ds.length ≤ n) : Sd (D + 1) (n * (W + 1)) (.tuple ds) := by
  obtain ⟨b1, b2, b4, b5⟩ := sd_all h
  have m := Nat.mul_le_mul_right (W + 1) l
  exact ⟨by rw [PyData.showable]; exact b1, by rw [PyData.depth]; omega, by rw [PyData.leavesShort]; exact b4, by rw [PyData.weight]; omega⟩
theorem sd_lst {D W n : Nat} {ds : List PyData} (h : ∀ d ∈ ds, Sd D W d) (l : ds.length ≤ n) : Sd (D + 1) (n * (W + 1)) (.list ds) := by
  obtain ⟨b1, b2, b4, b5⟩ := sd_all h
  have m := Nat.mul_le_mul_right (W + 1) l
  exact ⟨by rw [PyData.showable]; exact b1, by rw [PyData.depth]; omega, by rw [PyData.leavesShort]; exact b4, by rw [PyData.weight]; omega⟩
theorem Sd.fits {D W : Nat} {d : PyData} (h : Sd D W d) (w : W ≤ 300000) : d.shown.length ≤ sizeLine := by
  have a := PyData.shown_le 40 (by decide) d h.lv
  have b : (40 + 2) * d.weight ≤ 42 * 300000 := Nat.mul_le_mul_left _ (Nat.le_trans h.wt w)
  rw [sizeLine_eq]
  omega
end My
/-! ### small data, to be shown -/
namespace My
open PySem PySem.Spec PyProof.Rows L2
mutual
theorem Rp.dp {K : PySem.W.Frag} {H : Hp} : ∀ {v : V} {d : PyData}, Rp K H v d → d.hasDict = false → Dp K H v d
  | _, _, .non, _ => .non
  | _, _, .bl b, _ => .bl b
  | _, _, .int i, _ => .int i
  | _, _, .str x _, _ => .str x
  | _, _, .lst h t, n => .lst h (RpAll.dp t (by simpa only [PyData.hasDict] using n))
  | _, _, .tup h t, n => .tup h (RpAll.dp t (by simpa only [PyData.hasDict] using n))
  | _, _, .dct _, n => by simp [PyData.hasDict] at n
theorem RpAll.dp {K : PySem.W.Frag} {H : Hp} : ∀ {vs : List V} {ds : List PyData}, RpAll K H vs ds → PyData.hasDictAll ds = false → DpAll K H vs ds
  | _, _, .nil, _ => .nil
  | _, _, .cons h t, n => by
    rw [PyData.hasDictAll, Bool.or_eq_false_iff] at n
    exact .cons (Rp.dp h n.1) (RpAll.dp t n.2)
end
/-- data of at most that depth and weight, without dicts -/
structure Sm (D W : Nat) (d : PyData) : Prop where
  sh : d.showable = true
  dp : d.depth ≤ D
  nd : d.hasDict = false
  lv : d.leavesShort 13 = true
  wt : d.weight ≤ W
theorem Sm.mono {D W D' W' : Nat} {d : PyData} (h : Sm D W d) (a : D ≤ D') (b : W ≤ W') : Sm D' W' d := ⟨h.sh, Nat.le_trans h.dp a, h.nd, h.lv, Nat.le_trans h.wt b⟩
theorem sm_non : Sm 0 0 .none := ⟨rfl, Nat.le_refl _, by simp [PyData.hasDict], rfl, by simp [PyData.weight]⟩
theorem sm_bl (b : Bool) : Sm 0 0 (.bool b) := ⟨rfl, Nat.le_refl _, by simp [PyData.hasDict], rfl, by simp [PyData.weight]⟩
theorem sm_int {i : Int} (h : i.natAbs ≤ 1000) : Sm 0 1001 (.int i) := by
  have l := Nat.log2_le_self i.natAbs
  refine ⟨?_, Nat.le_refl _, by simp [PyData.hasDict], ?_, ?_⟩
  · rw [PyData.showable]
    exact decide_eq_true (by omega)
  · rw [PyData.leavesShort]
    exact decide_eq_true (PyData.shown_int_le (by omega))
  · rw [PyData.weight]
    split <;> omega
theorem sm_str {z : Str} {n : Nat} (h : ∀ c ∈ z.cps.toList, c ≤ 1000) (l : z.length ≤ n) : Sm 0 n (.str z) := by
  refine ⟨rfl, Nat.le_refl _, by simp [PyData.hasDict], ?_, ?_⟩
  · rw [PyData.leavesShort, List.all_eq_true]
    exact fun c hc => decide_eq_true (Nat.lt_of_le_of_lt (h c hc) (by decide))
  · rw [PyData.weight]
    exact l
theorem sm_all {D W : Nat} : ∀ {ds : List PyData}, (∀ d ∈ ds, Sm D W d) → PyData.showableAll ds = true ∧ PyData.depthAll ds ≤ D ∧ PyData.hasDictAll ds = false ∧ PyData.leavesShortAll 13 ds = true ∧ PyData.weightAll ds ≤ ds.length * (W + 1)
  | [], _ => by simp [PyData.showableAll, PyData.depthAll, PyData.hasDictAll, PyData.leavesShortAll, PyData.weightAll]
  | d :: ds, h => by
    obtain ⟨a1, a2, a3, a4, a5⟩ := h d (.head _)
    obtain ⟨b1, b2, b3, b4, b5⟩ := @sm_all D W ds fun e he => h e (.tail _ he)
    refine ⟨?_, ?_, ?_, ?_, ?_⟩
    · rw [PyData.showableAll, a1, b1]
      rfl
    · rw [PyData.depthAll]
      exact Nat.max_le.mpr ⟨a2, b2⟩
    · rw [PyData.hasDictAll, a3, b3]
      rfl
    · rw [PyData.leavesShortAll, a4, b4]
      rfl
    · rw [PyData.weightAll, List.length_cons, Nat.succ_mul]
      omega
theorem sm_tup {D W n : Nat} {ds : List PyData} (h : ∀ d ∈ ds, Sm D W d) (l : ds.length ≤ n) : Sm (D + 1) (n * (W + 1)) (.tuple ds) := by
  obtain ⟨b1, b2, b3, b4, b5⟩ := sm_all h
  have m := Nat.mul_le_mul_right (W + 1) l
  exact ⟨by rw [PyData.showable]; exact b1, by rw [PyData.depth]; omega, by rw [PyData.hasDict]; exact b3, by rw [PyData.leavesShort]; exact b4, by rw [PyData.weight]; omega⟩
theorem sm_lst {D W n : Nat} {ds : List PyData} (h : ∀ d ∈ ds, Sm D W d) (l : ds.length ≤ n) : Sm (D + 1) (n * (W + 1)) (.list ds) := by
  obtain ⟨b1, b2, b3, b4, b5⟩ := sm_all h
  have m := Nat.mul_le_mul_right (W + 1) l
  exact ⟨by rw [PyData.showable]; exact b1, by rw [PyData.depth]; omega, by rw [PyData.hasDict]; exact b3, by rw [PyData.leavesShort]; exact b4, by rw [PyData.weight]; omega⟩
theorem Sm.fits {D W : Nat} {d : PyData} (h : Sm D W d) (w : W ≤ 1000000) : d.shown.length ≤ sizeLine := PyData.shown_fits (B := 13) (by decide) (by decide) h.lv (Nat.le_trans h.wt (Nat.le_trans w (by decide)))
/-- repr of small data -/
theorem repr_sm {K : PySem.W.Frag} {H : Hp} {x : V} {d : PyData} {D W : Nat} {Q : VK} (h : Rp K H x d) (s : Sm D W d) (hD : D ≤ 60) (hW : W ≤ 1000000) (q : Q (.str d.shown) H) : rRepr K [x] H Q := ⟨x, d, rfl, h.dp s.nd, s.sh, Nat.le_trans s.dp hD, s.fits hW, q⟩
theorem letters_small {l : List Nat} (h : lettersL l = true) : ∀ c ∈ l, c ≤ 1000 := by
  unfold lettersL at h
  split at h
  · intro c hc
    simp at h hc
    omega
  · intro c hc
    simp at h hc
    omega
  · intro c hc
    simp at h hc
    omega
  · cases h
end My
/-! ### dicts whose keys are tuples of tuples -/
namespace My
open PySem PySem.Spec PyProof.Rows L2
mutual
def keyN : PyData → NestedKey
  | .none => .none
  | .bool b => .num (if b = true then 1 else 0)
  | .int i => .num i
  | .str x => .text x
  | .tuple xs => .tup (keyNs xs)
  | .list _ => .none
  | .dict _ => .none
def keyNs : List PyData → List NestedKey
  | [] => []
  | x :: xs => keyN x :: keyNs xs
end
mutual
theorem reads_nest {h : Heap} : ∀ {d : PyData} {v : Value} {as : List Addr}, Reads h v d as → tO d = true → NestedIs h (keyN d) v
  | .none, _, _, r, _ => by
    cases r
    rw [keyN]
    exact .none
  | .bool b, _, _, r, _ => by
    cases r
    rw [keyN]
    exact .bool rfl
  | .int i, _, _, r, _ => by
    cases r
    rw [keyN]
    exact .int _ _
  | .str x, _, _, r, _ => by
    cases r
    rw [keyN]
    exact .text _ _
  | .tuple xs, _, _, r, t => by
    cases r with
    | tuple h1 h2 h3 h4 =>
      rw [keyN]
      exact .tup h1 h2 h3 (readsAll_nest h4 (by simpa only [tO] using t))
  | .list _, _, _, _, t => by simp [tO] at t
  | .dict _, _, _, _, t => by simp [tO] at t
theorem readsAll_nest {h : Heap} : ∀ {ds : List PyData} {vs : List Value} {as : List Addr}, ReadsAll h vs ds as → tOs ds = true → NestedAll h (keyNs ds) vs
  | [], _, _, r, _ => by
    cases r
    rw [keyNs]
    exact .nil
  | d :: ds, _, _, r, t => by
    cases r with
    | cons h1 h2 =>
      rw [tOs, Bool.and_eq_true] at t
      rw [keyNs]
      exact .cons (reads_nest h1 t.1) (readsAll_nest h2 t.2)
end
abbrev Nx := List (NestedKey × Addr × V)
def NR (xs : Nx) (ys : List (NestedKey × Addr × Value)) : Prop := Paired (fun p q => p.1 = q.1 ∧ p.2.1 = q.2.1 ∧ RelV p.2.2 q.2.2) xs ys
def valN (xs : Nx) (k : NestedKey) : Option V := (xs.find? fun e => decide (e.1 = k)).map (·.2.2)
def putN (xs : Nx) (k : NestedKey) (b : Addr) (v : V) : Nx := if (valN xs k).isSome = true then xs.map fun e => if e.1 = k then (e.1, e.2.1, v) else e else xs ++ [(k, b, v)]
theorem valN_pos {k : NestedKey} {e : NestedKey × Addr × V} {xs : Nx} (h : e.1 = k) : valN (e :: xs) k = some e.2.2 := by simp [valN, h]
theorem valN_neg {k : NestedKey} {e : NestedKey × Addr × V} {xs : Nx} (h : ¬ e.1 = k) : valN (e :: xs) k = valN xs k := by simp [valN, h]
theorem NR.val {xs : Nx} {ys : List (NestedKey × Addr × Value)} (r : NR xs ys) (k : NestedKey) : RelO (valN xs k) ((atKey ys k).map (·.2)) := by
  unfold NR at r
  induction r with
  | nil => exact True.intro
  | @cons p q ps qs h t ih =>
    obtain ⟨h1, _, h2⟩ := h
    by_cases e : p.1 = k
    · have e' : q.1 = k := h1.symm.trans e
      have b : atKey (q :: qs) k = some q.2 := by simp [atKey, List.find?_cons, e']
      rw [valN_pos e, b]
      exact h2
    · have e' : ¬ q.1 = k := fun z => e (h1.trans z)
      have b : atKey (q :: qs) k = atKey qs k := by simp [atKey, List.find?_cons, e']
      rw [valN_neg e, b]
      exact ih
theorem NR.repl {xs : Nx} {ys : List (NestedKey × Addr × Value)} (r : NR xs ys) (k : NestedKey) {y : V} {u : Value} (ry : RelV y u) : NR (xs.map fun e => if e.1 = k then (e.1, e.2.1, y) else e) (ys.map (putAt k u)) := by
  unfold NR at r ⊢
  induction r with
  | nil => exact .nil
  | @cons p q ps qs h t ih =>
    rw [List.map_cons, List.map_cons]
    refine .cons ?_ ih
    obtain ⟨h1, h2, h3⟩ := h
    unfold putAt
    by_cases e : p.1 = k
    · rw [if_pos e, if_pos (h1.symm.trans e)]
      exact ⟨h1, h2, ry⟩
    · rw [if_neg e, if_neg (fun z => e (h1.trans z))]
      exact ⟨h1, h2, h3⟩
theorem NR.put {xs : Nx} {ys : List (NestedKey × Addr × Value)} (r : NR xs ys) (k : NestedKey) {b : Addr} {y : V} {u : Value} (ry : RelV y u) : NR (putN xs k b y) (storedH ys k b u) := by
  have e : (valN xs k).isSome = (atKey ys k).isSome := by rw [(r.val k).isSome_eq, Option.isSome_map]
  unfold putN storedH
  rw [e]
  by_cases q : (atKey ys k).isSome = true
  · rw [if_pos q, if_pos q]
    exact r.repl k ry
  · rw [if_neg q, if_neg q]
    exact Paired.snoc r ⟨rfl, rfl, ry⟩
theorem NR.mem {xs : Nx} {ys : List (NestedKey × Addr × Value)} (r : NR xs ys) : ∀ y ∈ ys, ∃ x ∈ xs, x.1 = y.1 ∧ x.2.1 = y.2.1 := by
  unfold NR at r
  induction r with
  | nil => exact fun _ h => nomatch h
  | @cons p q ps qs h t ih =>
    intro y hy
    rcases List.mem_cons.mp hy with rfl | hy
    · exact ⟨p, .head _, h.1, h.2.1⟩
    · obtain ⟨x, hx, e⟩ := ih y hy
      exact ⟨x, .tail _ hx, e⟩
/-- at a stands such a dict -/
def NdP (P : Program) (w : World) (a : Addr) (xs : Nx) (h : Heap) : Prop := (a == sysModules) = false ∧ ∃ ys, NR xs ys ∧ (ys.map (·.1)).Nodup ∧ ∃ o es ep, h.get? a = some o ∧ o.ExactDict ∧ o.data = .dict es ep ∧ es.toList = ys.map (entryOfKey (nestedKind P w))
def NdO (P : Program) (w : World) (a : Addr) (xs : Nx) : HO := .ext (NdP P w a xs)
theorem ndO_ok {P : Program} {w : World} {H : Hp} {h : Heap} {a : Addr} {xs : Nx} (x : NdP P w a xs h) : ObjOk P w H h a (NdO P w a xs) :=
  ⟨x, by
    obtain ⟨_, _, _, _, o, _, _, e, _⟩ := x
    exact ⟨o, e⟩, fun h1 h2 p k => by
    obtain ⟨z, ys, r, n, o, es, ep, e, q⟩ := p
    exact ⟨z, ys, r, n, o, es, ep, k o e, q⟩⟩
structure ND (P : Program) (w : World) (K : PySem.W.Frag) (H : Hp) (a : Addr) (xs : Nx) : Prop where
  here : H a = some (NdO P w a xs)
  ks : ∀ e ∈ xs, ∃ d, keyN d = e.1 ∧ Rp K H (.ref e.2.1) d ∧ tO d = true ∧ e.1.depth ≤ 8
theorem ND.ts {P : Program} {w : World} {K : PySem.W.Frag} {H H' : Hp} {a : Addr} {xs : Nx} (n : ND P w K H a xs) (s : TStay K H H') (e : H' a = some (NdO P w a xs)) : ND P w K H' a xs :=
  ⟨e, fun x hx => by
    obtain ⟨d, h1, h2, h3, h4⟩ := n.ks x hx
    exact ⟨d, h1, rp_ts s h2 h3, h3, h4⟩⟩
theorem ND.same {P : Program} {w : World} {K : PySem.W.Frag} {H H' : Hp} {a : Addr} {xs : Nx} (n : ND P w K H a xs) (s : Same H H') : ND P w K H' a xs := n.ts (ts_same s) (s _ _ n.here)
theorem ND.put {P : Program} {w : World} {K : PySem.W.Frag} {H : Hp} {a b : Addr} {xs : Nx} {d : PyData} (n : ND P w K H a xs) (hb : Rp K H (.ref b) d) (t : tO d = true) (l : (keyN d).depth ≤ 8) (v : V) :
    ND P w K (upd H a (NdO P w a (putN xs (keyN d) b v))) a (putN xs (keyN d) b v) := by
  have ts : TStay K H (upd H a (NdO P w a (putN xs (keyN d) b v))) := ts_upd n.here (fun _ z => nomatch z) (fun _ _ z => nomatch z)
  refine ⟨upd_same, fun x hx => ?_⟩
  unfold putN at hx
  split at hx
  · obtain ⟨e, he, rfl⟩ := List.mem_map.mp hx
    obtain ⟨d', h1, h2, h3, h4⟩ := n.ks e he
    by_cases q : e.1 = keyN d
    · rw [if_pos q]
      exact ⟨d', h1, rp_ts ts h2 h3, h3, h4⟩
    · rw [if_neg q]
      exact ⟨d', h1, rp_ts ts h2 h3, h3, h4⟩
  · rcases List.mem_append.mp hx with m | m
    · obtain ⟨d', h1, h2, h3, h4⟩ := n.ks x m
      exact ⟨d', h1, rp_ts ts h2 h3, h3, h4⟩
    · rw [List.mem_singleton.mp m]
      exact ⟨d, rfl, rp_ts ts hb t, t, l⟩
theorem putN_new {xs : Nx} {k : NestedKey} {b : Addr} {v : V} (h : valN xs k = none) : putN xs k b v = xs ++ [(k, b, v)] := by
  unfold putN
  rw [h]
  exact if_neg (by decide)
theorem putN_len (xs : Nx) (k : NestedKey) (b : Addr) (v : V) : (putN xs k b v).length ≤ xs.length + 1 := by
  unfold putN
  split
  · rw [List.length_map]
    omega
  · rw [List.length_append]
    exact Nat.le_refl _
section
variable {X : Cx} {pins : List (Addr × Obj)} {σ : L2.St} {H : Hp} {s : Shared} {a b : Addr} {xs : Nx} {d : PyData} {A : Around} {E : Value → Shared → Prop}
theorem nd_of (I : Inv X pins σ H s) (n : ND X.prog X.w X.K H a xs) : (a == sysModules) = false ∧ ∃ ys, NR xs ys ∧ s.heap.DictOfH (nestedKind X.prog X.w) a ys := by
  obtain ⟨⟨z, ys, r, nd, o, es, ep, h1, h2, h3, h4⟩, _, _⟩ := (show ObjOk X.prog X.w H s.heap a (NdO X.prog X.w a xs) from I.hok a _ n.here)
  refine ⟨z, ys, r, o, es, ep, h1, h2, h3, h4, fun y hy => ?_, nd⟩
  obtain ⟨x, hx, e1, e2⟩ := r.mem y hy
  obtain ⟨d', k1, k2, k3, k4⟩ := n.ks x hx
  obtain ⟨as, rd, _⟩ := Rp.reads I d' _ _ k2 (show RelV (.ref x.2.1) (Value.ref x.2.1) from rfl)
  rw [← e1, ← e2]
  exact ⟨k1 ▸ reads_nest rd k3, k4⟩
theorem nk_of (I : Inv X pins σ H s) (h : Rp X.K H (.ref b) d) (t : tO d = true) (l : (keyN d).depth ≤ 8) : (nestedKind X.prog X.w).is s.heap (keyN d) b := by
  obtain ⟨as, rd, _⟩ := Rp.reads I d _ _ h (show RelV (.ref b) (Value.ref b) from rfl)
  exact ⟨reads_nest rd t, l⟩
theorem nroom (hu : A.units + 9 < cLine) : A.in1.units + 8 < cLine := by
  have : A.in1.units = A.units + 1 := rfl
  omega
theorem nd_typeIs (I : Inv X pins σ H s) (n : ND X.prog X.w X.K H a xs) : s.TypeIs (.ref a) "dict" := by
  obtain ⟨_, ys, _, dd⟩ := nd_of I n
  exact dd.typeIs
theorem nd_getItem {v : V} {Q : Value → Shared → Prop} (hu : A.units + 9 < cLine) (I : Inv X pins σ H s) (n : ND X.prog X.w X.K H a xs) (hb : Rp X.K H (.ref b) d) (t : tO d = true) (l : (keyN d).depth ≤ 8) (hv : valN xs (keyN d) = some v)
    (h : ∀ w' s', Inv X pins σ H s' → RelV v w' → Q w' s') : wpAny (model X.prog X.w) A (getItem (.ref a) (.ref b)) Q E s := by
  obtain ⟨_, ys, r, dd⟩ := nd_of I n
  obtain ⟨w', hw, rw'⟩ := RelO.some_of (v := v) (o := (atKey ys (keyN d)).map (·.2)) (by rw [← hv]; exact r.val _)
  obtain ⟨p, hp, hp2⟩ := Option.map_eq_some_iff.mp hw
  refine wpAny_getItem_heap (nroom hu) (nk_of I hb t l) dd hp ?_
  rw [hp2]
  exact h w' _ (I.tok _) rw'
theorem nd_notIn {Q : Value → Shared → Prop} (hu : A.units + 9 < cLine) (I : Inv X pins σ H s) (n : ND X.prog X.w X.K H a xs) (hb : Rp X.K H (.ref b) d) (t : tO d = true) (l : (keyN d).depth ≤ 8)
    (h : ∀ s', Inv X pins σ H s' → Q (.bool (!(valN xs (keyN d)).isSome)) s') : wpAny (model X.prog X.w) A (compareOp .NotIn (.ref b) (.ref a)) Q E s := by
  obtain ⟨z, ys, r, dd⟩ := nd_of I n
  refine wpAny_notIn_heap (nroom hu) (nk_of I hb t l) z dd ?_
  have q := (r.val (keyN d)).isSome_eq
  rw [Option.isSome_map] at q
  rw [← q]
  exact h _ (I.tok _)
theorem nd_in {Q : Value → Shared → Prop} (hu : A.units + 9 < cLine) (I : Inv X pins σ H s) (n : ND X.prog X.w X.K H a xs) (hb : Rp X.K H (.ref b) d) (t : tO d = true) (l : (keyN d).depth ≤ 8)
    (h : ∀ s', Inv X pins σ H s' → Q (.bool (valN xs (keyN d)).isSome) s') : wpAny (model X.prog X.w) A (compareOp .In (.ref b) (.ref a)) Q E s := by
  obtain ⟨z, ys, r, dd⟩ := nd_of I n
  refine wpAny_in_heap (nroom hu) (nk_of I hb t l) z dd ?_
  have q := (r.val (keyN d)).isSome_eq
  rw [Option.isSome_map] at q
  rw [← q]
  exact h _ (I.tok _)
theorem nd_setItem {v : V} {r : Value} {Q : Unit → Shared → Prop} (hu : A.units + 9 < cLine) (I : Inv X pins σ H s) (n : ND X.prog X.w X.K H a xs) (hb : Rp X.K H (.ref b) d) (t : tO d = true) (l : (keyN d).depth ≤ 8) (hz : xs.length < sizeLine) (rv : RelV v r)
    (h : ∀ s', Inv X pins σ (upd H a (NdO X.prog X.w a (putN xs (keyN d) b v))) s' → Q () s') : wpAny (model X.prog X.w) A (setItem (.ref a) (.ref b) r) Q E s := by
  obtain ⟨z, ys, rr, dd⟩ := nd_of I n
  have hz2 : ys.length ≤ sizeLine := by rw [← Paired.length rr]; omega
  refine wpAny_setItem_heap (hsz := hz2) (nroom hu) (nk_of I hb t l) dd fun h' dd' hs => h _ ?_
  obtain ⟨q, es, ep, hq, h2, h3, h4, _, h5⟩ := dd'
  exact d_write I (by rw [n.here]; exact True.intro) hs ⟨q, hq⟩ (ndO_ok ⟨z, _, rr.put _ rv, h5, q, es, ep, hq, h2, h3, h4⟩)
end
/-! as rules -/
def NAt (P : Program) (w : World) (K : PySem.W.Frag) (H : Hp) (x y : V) (a b : Addr) (xs : Nx) (d : PyData) : Prop := x = .ref a ∧ y = .ref b ∧ ND P w K H a xs ∧ Rp K H (.ref b) d ∧ tO d = true ∧ (keyN d).depth ≤ 8
def tNGet (P : Program) (w : World) (K : PySem.W.Frag) (td ty : TE) : TE := fun σ H Q => td σ H fun x H1 => ty σ H1 fun y H2 => ∃ a b xs d v, NAt P w K H2 x y a b xs d ∧ valN xs (keyN d) = some v ∧ Q v H2
def tNNotIn (P : Program) (w : World) (K : PySem.W.Frag) (ty td : TE) : TE := fun σ H Q => ty σ H fun y H1 => td σ H1 fun x H2 => ∃ a b xs d, NAt P w K H2 x y a b xs d ∧ Q (.bl (!(valN xs (keyN d)).isSome)) H2
def tNIn (P : Program) (w : World) (K : PySem.W.Frag) (ty td : TE) : TE := fun σ H Q => ty σ H fun y H1 => td σ H1 fun x H2 => ∃ a b xs d, NAt P w K H2 x y a b xs d ∧ Q (.bl (valN xs (keyN d)).isSome) H2
def sNPut (P : Program) (w : World) (K : PySem.W.Frag) (td ty tv : TE) : TS := fun D σ H => tv σ H fun v H1 => td σ H1 fun x H2 => ty σ H2 fun y H3 => ∃ a b xs d, NAt P w K H3 x y a b xs d ∧ xs.length < sizeLine ∧ D.nx σ (upd H3 a (NdO P w a (putN xs (keyN d) b v)))
def tNDisp (P : Program) (w : World) (K : PySem.W.Frag) (tk tv : TE) : TE := fun σ H Q => ∀ p, H p = none → tk σ (upd H p (NdO P w p [])) fun x H1 => tv σ H1 fun y H2 => ∃ b d, x = .ref b ∧ Rp K H2 (.ref b) d ∧ tO d = true ∧ (keyN d).depth ≤ 8 ∧ H2 p = some (NdO P w p []) ∧ Q (.ref p) (upd H2 p (NdO P w p [(keyN d, b, y)]))
section
variable {X : Cx} {o i e value : Expr} {pos pos' : Pos} {td ty tv : TE}
theorem pe_nget (hu : X.A.units + 9 < cLine) (ho : PE X o td) (hi : PE X i ty) (hs : NoSl i) : PE X (.Subscript o i pos) (tNGet X.prog X.w X.K td ty) := by
  refine ⟨fun pins s σ H Q I h => ?_⟩
  refine subD_of PySem.F.slot_dict_getitem.lookup hs (thn (ho.run pins s σ H _ I h) fun u s1 ⟨x, H1, I1, rx, q1⟩ => thn (hi.run pins s1 σ H1 _ I1 q1) fun iv s2 ⟨y, H2, I2, ry, a, b, xs, d, v, ⟨ex, ey, n, hb, t, l⟩, hv, q2⟩ => ?_)
  subst ex ey
  obtain rfl : u = Value.ref a := rx
  obtain rfl : iv = Value.ref b := ry
  exact ⟨nd_typeIs I2 n, nd_getItem hu I2 n hb t l hv fun w' s3 I3 rw' => ⟨v, H2, I3, rw', q2⟩⟩
theorem pc_nnotin (hu : X.A.units + 9 < cLine) (hi : PE X i ty) (ho : PE X o td) : PC X .NotIn i o (tNNotIn X.prog X.w X.K ty td) := by
  refine ⟨fun pins s σ H Q I h => ?_⟩
  refine thn (hi.run pins s σ H _ I h) fun iv s1 ⟨y, H1, I1, ry, q1⟩ => thn (ho.run pins s1 σ H1 _ I1 q1) fun u s2 ⟨x, H2, I2, rx, a, b, xs, d, ⟨ex, ey, n, hb, t, l⟩, q2⟩ => ?_
  subst ex ey
  obtain rfl : u = Value.ref a := rx
  obtain rfl : iv = Value.ref b := ry
  exact nd_notIn hu I2 n hb t l fun s3 I3 => ⟨.bl _, H2, I3, rfl, q2⟩
theorem pc_nin (hu : X.A.units + 9 < cLine) (hi : PE X i ty) (ho : PE X o td) : PC X .In i o (tNIn X.prog X.w X.K ty td) := by
  refine ⟨fun pins s σ H Q I h => ?_⟩
  refine thn (hi.run pins s σ H _ I h) fun iv s1 ⟨y, H1, I1, ry, q1⟩ => thn (ho.run pins s1 σ H1 _ I1 q1) fun u s2 ⟨x, H2, I2, rx, a, b, xs, d, ⟨ex, ey, n, hb, t, l⟩, q2⟩ => ?_
  subst ex ey
  obtain rfl : u = Value.ref a := rx
  obtain rfl : iv = Value.ref b := ry
  exact nd_in hu I2 n hb t l fun s3 I3 => ⟨.bl _, H2, I3, rfl, q2⟩
theorem ps_nput (hu : X.A.units + 9 < cLine) (ho : PE X o td) (hi : PE X i ty) (hv : PE X value tv) (hs : swapsWith value (some (.Subscript o i pos')) pos.line X.env = pure false) :
    PS X (.Assign [.Subscript o i pos'] value pos) (sNPut X.prog X.w X.K td ty tv) := by
  refine ⟨fun pins s σ H D I h => ?_⟩
  refine wpAny_Assign_Subscript (thn (hv.run pins s σ H _ I h) fun r s1 ⟨v, H1, I1, rv, q1⟩ => thn (ho.run pins s1 σ H1 _ I1 q1) fun u s2 ⟨x, H2, I2, rx, q2⟩ => thn (hi.run pins s2 σ H2 _ I2 q2) fun iv s3 ⟨y, H3, I3, ry, a, b, xs, d, ⟨ex, ey, n, hb, t, l⟩, hz, q3⟩ => ?_) hs
  subst ex ey
  obtain rfl : u = Value.ref a := rx
  obtain rfl : iv = Value.ref b := ry
  exact nd_setItem hu I3 n hb t l hz rv fun s4 I4 => ⟨σ, _, I4, q3⟩
theorem pe_ndisp {kx vx : Expr} {tk : TE} (hu : X.A.units + 9 < cLine) (hk : PE X kx tk) (hv : PE X vx tv) : PE X (.Dict [some kx] [vx] pos) (tNDisp X.prog X.w X.K tk tv) := by
  refine ⟨fun pins s σ H Q I q => ?_⟩
  have hn := I.hok.fresh (Nat.le_refl s.heap.objs.size)
  have zs : (s.heap.objs.size == sysModules) = false := beq_eq_false_iff_ne.mpr (Ne.symm (Nat.ne_of_lt I.big))
  have I1 := I.laid (a := s.heap.objs.size) (o := NdO X.prog X.w s.heap.objs.size []) (h' := s.heap.push { cls := .type "dict", data := .dict #[] }) (t' := s.toks) (fun _ _ q => Heap.get?_push_of_some _ q) (Nat.le_refl _)
    (ndO_ok ⟨zs, [], .nil, List.nodup_nil, _, #[], 0, Heap.get?_push_size _ rfl, ⟨rfl, rfl, rfl⟩, rfl, rfl⟩)
  have hroom : (nestedKind X.prog X.w).room X.A := show X.A.units + 8 < cLine by omega
  have hshape : (evalEachOpt [some kx] X.env).zip ((evalEach [vx] X.env).map fun v => do let x ← v; standAt pos; pure x) = (pairTrees [some kx] [vx] X.env pos).map fun p => (some p.1, p.2) := by rfl
  rw [arm_eval_Dict, hshape, dictDisplay_pairs (pairTrees [some kx] [vx] X.env pos) (by simp [pairTrees]) (by simp [pairTrees])]
  refine wpAny_bind (wpAny_standAt (wpAny_bind (wpAny_subDictH (knd := nestedKind X.prog X.w) (Q := fun d s' => wpAny (model X.prog X.w) X.A (pure (Value.ref d)) (EP X pins σ Q) X.xe s') hroom (by simp [pairTrees]) ?_)))
  refine thn ((pps_cons hk hv pps_nil).run pins _ σ _ (fun ps H2 => match ps with
    | [(x, y)] => ∃ b d, x = .ref b ∧ Rp X.K H2 (.ref b) d ∧ tO d = true ∧ (keyN d).depth ≤ 8 ∧ H2 s.heap.objs.size = some (NdO X.prog X.w s.heap.objs.size []) ∧ Q (.ref s.heap.objs.size) (upd H2 s.heap.objs.size (NdO X.prog X.w s.heap.objs.size [(keyN d, b, y)]))
    | _ => False) I1 (q _ hn)) fun ws s2 ⟨ps, H2, I2, rel, hq⟩ => ?_
  match ps, rel, hq with
  | [], _, hq => exact hq.elim
  | _ :: _ :: _, _, hq => exact hq.elim
  | [(x, y)], rel, hq =>
    obtain ⟨b, d, rfl, hb, t, l, e, q2⟩ := hq
    cases rel with
    | @cons _ q0 _ _ h1 h2 =>
      cases h2
      obtain ⟨u1, u2⟩ := q0
      obtain ⟨r1, r2⟩ := h1
      obtain rfl : u1 = Value.ref b := r1
      have n0 : ND X.prog X.w X.K H2 s.heap.objs.size [] := ⟨e, fun _ h => nomatch h⟩
      obtain ⟨z, ys, rr, dd⟩ := nd_of I2 n0
      cases rr
      refine ⟨[(keyN d, b, u2)], ⟨rfl, rfl, nk_of I2 hb t l, trivial⟩, dd, fun h' tk dd' hs => wpAny_pure ⟨.ref s.heap.objs.size, _, ?_, rfl, q2⟩⟩
      obtain ⟨o, es, ep, hq, h2, h3, h4, _, h5⟩ := dd'
      exact d_write I2 (by rw [e]; exact True.intro) hs ⟨o, hq⟩ (ndO_ok ⟨z, _, .cons ⟨rfl, rfl, r2⟩ .nil, h5, o, es, ep, hq, h2, h3, h4⟩)
end
end My
/-! ### the pen stays -/
namespace My
open PySem PySem.Spec PyProof.Rows L2
theorem PenC.same {H H' : Hp} {p c : Addr} {n : Nat} (h : PenC H p c n) (s : Same H H') : PenC H' p c n := h.keep (fun _ e => s _ _ e) (fun _ e => s _ _ e)
end My
/-! ### the law's machines -/
namespace My
open PySem PySem.Spec PyProof.Rows L2
abbrev sXMachineB : Stmt := topS 50
abbrev sXPlainB : Stmt := topS 51
theorem scXMachineB : FnScope ["pen", "base", "letters", "most", "wide", "many", "states", "state", "row", "letter", "choice", "again", "pair"] ["pen", "base", "letters", "most", "wide"] (defScope sXMachineB) := ⟨rfl, rfl, rfl, by decide +kernel, rfl, by decide +kernel, by decide +kernel⟩
theorem scXPlainB : FnScope ["pen", "base", "letters", "most", "wide", "many", "states", "state", "letter"] ["pen", "base", "letters", "most", "wide"] (defScope sXPlainB) := ⟨rfl, rfl, rfl, by decide +kernel, rfl, by decide +kernel, by decide +kernel⟩
abbrev sXSide : Stmt := topS 52
theorem scXSide : FnScope ["pen", "base", "letters", "most", "wide"] ["pen", "base", "letters"] (defScope sXSide) := ⟨rfl, rfl, rfl, by decide +kernel, rfl, by decide +kernel, by decide +kernel⟩
structure BlTxt (K : PySem.W.Frag) (mg : Str → Option Value) (xm xp xf xs : Addr) (ym yp yf ys : FuncData) : Prop where
  range : mg "range" = none
  len : mg "len" = none
  tuple : mg "tuple" = none
  int : mg "int" = none
  FXMachineB : Fun K "_law_x_machine" "_law_x_machine" sXMachineB xm ym
  bXMachineB : Binds K ym ["pen", "base", "letters", "most", "wide"] []
  gXMachineB : mg "_law_x_machine" = some (.ref xm)
  FXPlainB : Fun K "_law_x_plain" "_law_x_plain" sXPlainB xp yp
  bXPlainB : Binds K yp ["pen", "base", "letters", "most", "wide"] []
  gXPlainB : mg "_law_x_plain" = some (.ref xp)
  FXSide : Fun K "_law_x_side" "_law_x_side" sXSide xs ys
  bXSide : Binds K ys ["pen", "base", "letters"] []
  gXSide : mg "_law_x_side" = some (.ref xs)
theorem ts_but {K : PySem.W.Frag} {p : Addr} {n : Nat} {H H' : Hp} (h : Pen H p n) (b : But p H H') : TStay K H H' := fun a xs e => by
  obtain ⟨ys, hp⟩ := h.ls
  have ne : ∀ o, H a = some o → (∃ ks, o = .tup ks) ∨ (∃ u ks, o = .frz u (.tup ks)) → a ≠ p := fun o e ho z => by
    rw [z, hp] at e
    cases e
    rcases ho with ⟨_, ho⟩ | ⟨_, _, ho⟩ <;> cases ho
  rcases e with (e | ⟨u, e⟩) | e
  · exact .inl (.inl (b _ _ (ne _ e (.inl ⟨_, rfl⟩)) e))
  · exact .inl (.inr ⟨u, b _ _ (ne _ e (.inr ⟨_, _, rfl⟩)) e⟩)
  · exact .inr e
theorem goS {K : PySem.W.Frag} {H H' : Hp} {us : List V} {es : List (List (List (Int × Int)))} (s : TStay K H H') (h : RpAll K H us (es.map eS)) : RpAll K H' us (es.map eS) := rpAll_ts s h (tOs_map tO_eS _)
theorem goC {K : PySem.W.Frag} {H H' : Hp} {us : List V} {es : List (List (Int × Int))} (s : TStay K H H') (h : RpAll K H us (es.map eC)) : RpAll K H' us (es.map eC) := rpAll_ts s h (tOs_map tO_eC _)
theorem goP {K : PySem.W.Frag} {H H' : Hp} {us : List V} {es : List (Int × Int)} (s : TStay K H H') (h : RpAll K H us (es.map eP)) : RpAll K H' us (es.map eP) := rpAll_ts s h (tOs_map tO_eP _)
theorem rp_snoc {K : PySem.W.Frag} {H : Hp} {v : V} {d : PyData} : ∀ {vs : List V} {ds : List PyData}, RpAll K H vs ds → Rp K H v d → RpAll K H (vs ++ [v]) (ds ++ [d])
  | _, _, .nil, h => .cons h .nil
  | _, _, .cons a t, h => .cons a (rp_snoc t h)
theorem map_snoc {α : Type} {f : α → PyData} {l : List α} {x : α} : (l ++ [x]).map f = l.map f ++ [f x] := by rw [List.map_append]; rfl
theorem all_snoc {α : Type} {P : α → Prop} {l : List α} {x : α} (h : ∀ y ∈ l, P y) (hx : P x) : ∀ y ∈ l ++ [x], P y := fun y hy => by
  rcases List.mem_append.mp hy with m | m
  · exact h y m
  · rw [List.mem_singleton.mp m]
    exact hx
theorem ts_lst {K : PySem.W.Frag} {H : Hp} {S : Addr} {ys : List V} {o : HO} (h : H S = some (.lst ys)) : TStay K H (upd H S o) := ts_upd h (fun _ z => nomatch z) (fun _ _ z => nomatch z)
theorem butNone {p a : Addr} {H H' : Hp} (b : But p H H') (n : a ≠ p) (e : H' a = none) : H a = none := by
  cases h : H a with
  | none => rfl
  | some o =>
    rw [b a o n h] at e
    cases e
theorem rp_nil {K : PySem.W.Frag} {H : Hp} {vs : List V} {ds : List PyData} (h : RpAll K H vs ds) : RpAll K H (vs ++ []) ds := by
  rw [List.append_nil]
  exact h
theorem eqv_eP (a b : Int × Int) : PyData.eqv (eP a) (eP b) = decide (a = b) := by
  obtain ⟨a1, a2⟩ := a
  obtain ⟨b1, b2⟩ := b
  simp only [eP, PyData.eqv, PyData.eqvAll, Bool.and_true, Prod.mk.injEq]
  by_cases h1 : a1 = b1 <;> by_cases h2 : a2 = b2 <;> simp [h1, h2]
theorem any_eP (ps : List (Int × Int)) (p : Int × Int) : ((ps.map eP).any fun z => PyData.eqv z (eP p)) = decide (p ∈ ps) := by
  rw [List.any_map]
  induction ps with
  | nil => rfl
  | cons q ps ih =>
    rw [List.any_cons, ih]
    show (PyData.eqv (eP q) (eP p) || decide (p ∈ ps)) = decide (p ∈ q :: ps)
    rw [eqv_eP]
    by_cases h : q = p
    · simp [h]
    · have : ¬ p = q := fun z => h z.symm
      simp [h, this]
theorem lay_eP : ∀ l : List (Int × Int), PyData.canLayAll0 (l.map eP) = true ∧ PyData.depthAll (l.map eP) ≤ 1 ∧ PyData.hasDictAll (l.map eP) = false
  | [] => by simp [PyData.canLayAll0, PyData.depthAll, PyData.hasDictAll]
  | x :: a => by
    have ih := lay_eP a
    rw [List.map_cons]
    simp [eP, PyData.canLayAll0, PyData.depthAll, PyData.canLay0, PyData.depth, PyData.hasDictAll, PyData.hasDict, ih]
theorem shaped_eP (p : Int × Int) : SeqAt.shaped (eP p) = true := by
  simp [SeqAt.shaped, eP, PyData.canLay0, PyData.canLayAll0, PyData.depth, PyData.depthAll]
/-- a choice as the law makes it -/
structure Ck (m : Int) (ps : List (Int × Int)) : Prop where
  nd : ps.Nodup
  le : ps.length ≤ 3
  rg : ∀ p ∈ ps, -20 ≤ p.1 ∧ p.1 ≤ 20 ∧ 0 ≤ p.2 ∧ p.2 ≤ m - 1
/-- a machine as the law makes it: choices of different pairs, or pairs alone -/
structure Made (M : Mc) : Prop where
  ok : Mok M
  few : M.C.length ≤ 130
def Side (d : PyData) (M : Mc) : Prop := Made M ∧ ((d = eM M ∧ mchD d = true) ∨ (d = fM M ∧ mchD d = false ∧ plnD d = true ∧ withD d = eM M ∧ ∀ cs ∈ M.C, ∀ ps ∈ cs, ps.length = 1))
def spMach3 (K : PySem.W.Frag) : Sp := fun vs H Q _ => ∃ (p : Addr) (n : Nat) (b : Int) (z : Str) (most wide : Int), vs = [.ref p, .int b, .str z, .int most, .int wide] ∧ Pen H p n ∧ n < 1046000 ∧ lettersL z.cps.toList = true ∧ 2 ≤ b ∧ b ≤ 9 ∧ 1 ≤ most ∧ most ≤ 4 ∧ 1 ≤ wide ∧ wide ≤ 20 ∧
  ∀ (H' : Hp) (t : Addr) (M : Mc), But p H H' → Pen H' p (n + 100) → t ≠ p → Rp K H' (.ref t) (eM M) → Side (eM M) M → M.b = b → M.z = z → Q (.ref t) H'
theorem key_of {ps : List (Int × Int)} : (ps.map eP).map keyD = ps.map fun p => [p.1, p.2] := by
  rw [List.map_map]
  rfl
theorem tupD_ok {lo hi : Int} {ds : List PyData} (h1 : lo ≤ (ds.length : Int)) (h2 : (ds.length : Int) ≤ hi) : tupD lo hi (.tuple ds) = true := by
  show (decide (lo ≤ (ds.length : Int)) && decide ((ds.length : Int) ≤ hi)) = true
  rw [decide_eq_true h1, decide_eq_true h2]
  rfl
theorem betD_ok {lo hi i : Int} (h1 : lo ≤ i) (h2 : i ≤ hi) : betD lo hi (.int i) = true := by
  show (decide (lo ≤ i) && decide (i ≤ hi)) = true
  rw [decide_eq_true h1, decide_eq_true h2]
  rfl
theorem mch_made {b : Int} {z : Str} {C : List (List (List (Int × Int)))} (b2 : 2 ≤ b) (b9 : b ≤ 9) (hl : lettersL z.cps.toList = true) (c1 : 1 ≤ C.length) (c4 : C.length ≤ 4) (row : ∀ cs ∈ C, cs.length = z.length)
    (ch : ∀ cs ∈ C, ∀ ps ∈ cs, 1 ≤ ps.length ∧ Ck (C.length : Int) ps) : Side (eM ⟨b, z, C⟩) ⟨b, z, C⟩ := by
  have w : (20 : Int) ≤ wideN := by decide +kernel
  have l1 : ∀ cs ∈ C, tupD (z.length : Int) (z.length : Int) (eS cs) = true := fun cs hcs => by
    have := row cs hcs
    exact tupD_ok (by rw [List.length_map]; omega) (by rw [List.length_map]; omega)
  have l2 : ∀ cs ∈ C, ∀ ps ∈ cs, chD (C.length : Int) (eC ps) = true := fun cs hcs ps hps => by
    obtain ⟨h1, h2⟩ := ch cs hcs ps hps
    have a1 : tupD 1 3 (.tuple (ps.map eP)) = true := by
      have := h2.le
      exact tupD_ok (by rw [List.length_map]; omega) (by rw [List.length_map]; omega)
    have a2 : (ps.map eP).all (pairD 20 (C.length : Int)) = true := by
      rw [List.all_map, List.all_eq_true]
      intro p hp
      obtain ⟨r1, r2, r3, r4⟩ := h2.rg p hp
      show (betD (-20) 20 (.int p.1) && betD 0 ((C.length : Int) - 1) (.int p.2)) = true
      rw [betD_ok r1 r2, betD_ok r3 r4]
      rfl
    have a3 : ((ps.map eP).map keyD).Nodup := by
      rw [key_of]
      refine List.Pairwise.map _ (fun x y hxy e => hxy ?_) h2.nd
      injection e with e1 e2
      injection e2 with e2 _
      exact Prod.ext e1 e2
    show (tupD 1 3 (.tuple (ps.map eP)) && ((ps.map eP).all (pairD 20 (C.length : Int)) && decide ((List.map keyD (ps.map eP)).Nodup))) = true
    rw [a1, a2, decide_eq_true a3]
    rfl
  have fr : frmD 4 (eM ⟨b, z, C⟩) = true := by
    show (betD 2 9 (.int b) && (ltrD (.str z) && tabD (lenD (.str z)) 4 (.tuple (C.map eS)))) = true
    have a1 : betD 2 9 (.int b) = true := betD_ok b2 b9
    have a2 : tabD (lenD (.str z)) 4 (.tuple (C.map eS)) = true := by
      show (tupD 1 4 (.tuple (C.map eS)) && (C.map eS).all (tupD (z.length : Int) (z.length : Int))) = true
      have a3 : tupD 1 4 (.tuple (C.map eS)) = true := tupD_ok (by rw [List.length_map]; omega) (by rw [List.length_map]; omega)
      have a4 : (C.map eS).all (tupD (z.length : Int) (z.length : Int)) = true := by
        rw [List.all_map, List.all_eq_true]
        exact fun cs hcs => l1 cs hcs
      rw [a3, a4]
      rfl
    rw [a1, a2, show ltrD (.str z) = true from hl]
    rfl
  refine ⟨⟨⟨b2, b9, hl, c1, (show C.length ≤ 300 by omega), row, fun cs hcs ps hps => ⟨(ch cs hcs ps hps).1, (ch cs hcs ps hps).2.le⟩, fun cs hcs ps hps p hp => ?_, .inl c4⟩, (show C.length ≤ 130 by omega)⟩, .inl ⟨rfl, ?_⟩⟩
  · obtain ⟨r1, r2, r3, r4⟩ := (ch cs hcs ps hps).2.rg p hp
    exact ⟨by omega, by omega, r3, r4⟩
  · show (frmD 4 (eM ⟨b, z, C⟩) && ((C.map eS).flatMap fun st => (elems st).map (chD ((C.map eS).length : Int))).all id) = true
    rw [fr, Bool.true_and, List.all_eq_true]
    intro x hx
    obtain ⟨st, hst, hx⟩ := List.mem_flatMap.mp hx
    obtain ⟨cs, hcs, rfl⟩ := List.mem_map.mp hst
    obtain ⟨d, hd, rfl⟩ := List.mem_map.mp hx
    obtain ⟨ps, hps, rfl⟩ := List.mem_map.mp (show d ∈ cs.map eC from hd)
    rw [List.length_map]
    exact l2 cs hcs ps hps
section
variable {P : Program} {w : World} {K : PySem.W.Frag} {mg : Str → Option Value} {base : Heap} {f1 f2 f3 f4 : Addr} {d1 d2 d3 d4 : FuncData} {xm xp xf xs : Addr} {ym yp yf ys : FuncData}
theorem ok_mach3 (TP : PenTxt K mg f1 f2 f3 f4 d1 d2 d3 d4) (T : BlTxt K mg xm xp xf xs ym yp yf ys) {k : Nat} : FnOk P w K mg base CX0 (k + 4) xm ym ["pen", "base", "letters", "most", "wide"] (spMach3 K) := by
  have GTC : FnOk P w K mg base CX0 (k + 3) f3 d3 ["pen", "many"] spTakeC := ok_takeC TP (k := k + 1)
  have GP : FnOk P w K mg base CX0 (k + 3) f4 d4 ["pen", "some"] (spPickC K) := ok_pickC TP (k := k)
  refine T.FXMachineB.ok scXMachineB (fun vs H Q E h => ?_) (fun cdv A outer s H vs Q E hr h => ?_)
  · obtain ⟨p, n, b, z, most, wide, rfl, _⟩ := h
    rfl
  · obtain ⟨p, n, b, z, most, wide, rfl, hP, hn, hl, b2', b9', m1, m4, w1, w20, q⟩ := h
    have hu : (A.deeper (envOfC "_law_x_machine" (defScope sXMachineB) s.heap.objs.size xm cdv)).units + 65 < cLine := by have := hr.un; omega
    refine ⟨_, (Evl.pss_cut (ps_par (i := 5) (j := 6) (by rfl) scXMachineB.nd rfl rfl (by decide) rfl rfl (pa_cons (pe_op op_add pe_int (pe_call GTC hr (by rfl) TP.gTake TP.FTake.kp TP.bTake .nil pass0 (pa_cons (pv 0) (pa_cons (pv 3) pa_nil)))) (pa_cons (pe_lst pa_nil) pa_nil)) (by rfl))
 (pss_cons (ps_for PassesOwn.never rfl (pi_range1 (by rfl) T.range (pa_cons (pv 5) pa_nil)) (pg_name (i := 7) scXMachineB.nd rfl (.inl rfl))
 (pss_cons (ps_set (i := 8) scXMachineB.nd rfl (.inl rfl) (pe_lst pa_nil))
 (pss_cons (ps_for PassesOwn.never rfl (pi_str (pv 2)) (pg_name (i := 9) scXMachineB.nd rfl (.inl rfl))
 (pss_cons (ps_set (i := 10) scXMachineB.nd rfl (.inl rfl) (pe_lst pa_nil))
 (pss_cons (ps_for PassesOwn.never rfl (pi_range1 (by rfl) T.range (pa_cons (pe_call GP hr (by rfl) TP.gPick TP.FPick.kp TP.bPick .nil pass0 (pa_cons (pv 0) (pa_cons (pe_lst (pa_cons pe_int (pa_cons pe_int (pa_cons pe_int (pa_cons pe_int (pa_cons pe_int pa_nil)))))) pa_nil))) pa_nil)) (pg_name (i := 11) scXMachineB.nd rfl (.inl rfl))
 (pss_cons (ps_set (i := 12) scXMachineB.nd rfl (.inl rfl) (pe_tup (pa_cons (pe_op op_sub (pe_call GTC hr (by rfl) TP.gTake TP.FTake.kp TP.bTake .nil pass0 (pa_cons (pv 0) (pa_cons (pe_op op_add (pe_op op_mul pe_int (pv 4)) pe_int) pa_nil))) (pv 4)) (pa_cons (pe_call GTC hr (by rfl) TP.gTake TP.FTake.kp TP.bTake .nil pass0 (pa_cons (pv 0) (pa_cons (pv 5) pa_nil))) pa_nil))))
 (pss_one (ps_set (i := 10) scXMachineB.nd rfl (.inl rfl) (pe_op op_cat (pv 10) (pe_op op_rep (pe_lst (pa_cons (pv 12) pa_nil)) (pe_callTy call_int1 (by rfl) T.int (by decide +kernel) (pa_cons (pe_cmpR (op_notInD hu) (pv 12) (pv 10) (by rfl)) pa_nil))))))))
 (pss_one (ps_expr (pe_bm PySem.F.plainAttrs_list PySem.F.slot_list_append PySem.F.type_list_append mt_append (pv 8) (pa_cons (pe_callTy call_tuple_of (by rfl) T.tuple (by decide +kernel) (pa_cons (pv 10) pa_nil)) pa_nil)))))))
 (pss_one (ps_expr (pe_bm PySem.F.plainAttrs_list PySem.F.slot_list_append PySem.F.type_list_append mt_append (pv 6) (pa_cons (pe_callTy call_tuple_of (by rfl) T.tuple (by decide +kernel) (pa_cons (pv 8) pa_nil)) pa_nil)))))))
 (pss_one (ps_ret (pe_tup (pa_cons (pv 1) (pa_cons (pv 2) (pa_cons (pe_callTy call_tuple_of (by rfl) T.tuple (by decide +kernel) (pa_cons (pv 6) pa_nil)) pa_nil)))))))), ?_⟩
    obtain ⟨c, hP⟩ := hP.at
    have z3 : z.cps.size ≤ 3 := ltrD_len (d := .str z) hl
    have sl3 : ∀ {m : Nat}, m ≤ 100 → m < sizeLine := fun h => Nat.lt_of_le_of_lt h (by decide)
    refine ⟨fun σ H' => ∃ (mi : Int) (S : Addr), σ = [some (.ref p), some (.int b), some (.str z), some (.int most), some (.int wide), some (.int mi), some (.ref S), none, none, none, none, none, none] ∧ 1 ≤ mi ∧ mi ≤ 4 ∧ But p H H' ∧ PenC H' p c (n + 1) ∧ H' S = some (.lst []) ∧ S ≠ p ∧ S ≠ c ∧ H S = none, ?_, ?_⟩
    · refine ⟨_, rfl, _, rfl, p, c, most, n, rfl, hP, by omega, by omega, log_small (m := 4) (by omega) (by decide), fun H1 k1 b1 hP1 k10 k11 => ⟨_, _, rfl, rfl, (by show 0 ≤ sizeLine; decide), fun S hS => ?_⟩⟩
      have x1 := same_upd (o := HO.lst []) hS
      obtain ⟨c1, _, _, hp1, hc1, _⟩ := hP1.ex
      refine ⟨_, _, rfl, 1 + k1, S, rfl, by omega, by omega, b1.trans (But.of x1), hP1.same x1, upd_same, (ne_of_none hp1 hS).symm, (ne_of_none hc1 hS).symm, butNone b1 (ne_of_none hp1 hS).symm hS⟩
    rintro σ H1 ⟨mi, S, rfl, i1, i4, b1, hP1, hS, nSp, nSc, S0⟩
    refine ⟨_, rfl, _, rfl, by omega, by omega, ?_⟩
    refine for_range (lo := 0) (n := mi.toNat) (fun i σ H' => ∃ v7 v8 v9 v10 v11 v12 vs css, σ = [some (.ref p), some (.int b), some (.str z), some (.int most), some (.int wide), some (.int mi), some (.ref S), v7, v8, v9, v10, v11, v12] ∧ But p H H' ∧ PenC H' p c (n + 1 + 22 * i) ∧ H' S = some (.lst vs) ∧ RpAll K H' vs (List.map eS css) ∧ vs.length = i ∧ ∀ cs ∈ css, cs.length = z.length ∧ ∀ ps ∈ cs, 1 ≤ ps.length ∧ Ck mi ps)
      ⟨none, none, none, none, none, none, [], [], rfl, b1, hP1, hS, .nil, rfl, fun _ h => nomatch h⟩ ?_ ?_
    · rintro i σ H2 hi ⟨v7, v8, v9, v10, v11, v12, vs, css, rfl, b2, hP2, hS2, hV, lv, ok⟩
      refine ⟨(by show 0 ≤ sizeLine; decide), fun R hR => ?_⟩
      have xR := same_upd (o := HO.lst []) hR
      obtain ⟨_, _, _, hp2, hc2, _⟩ := hP2.ex
      have nRp := (ne_of_none hp2 hR).symm
      have nRc := (ne_of_none hc2 hR).symm
      have nRS := (ne_of_none hS2 hR).symm
      have R0 := butNone b2 nRp hR
      refine ⟨_, rfl, z, rfl, ?_⟩
      refine for_it walk_str (fun j σ H' => ∃ v9 v10 v11 v12 us pss, σ = [some (.ref p), some (.int b), some (.str z), some (.int most), some (.int wide), some (.int mi), some (.ref S), some (.int (0 + (i : Int))), some (.ref R), v9, v10, v11, v12] ∧ But p H H' ∧ PenC H' p c (n + 1 + 22 * i + 7 * j) ∧ H' S = some (.lst vs) ∧ RpAll K H' vs (List.map eS css) ∧ H' R = some (.lst us) ∧ RpAll K H' us (List.map eC pss) ∧ us.length = j ∧ ∀ ps ∈ pss, 1 ≤ ps.length ∧ Ck mi ps)
        ⟨v9, v10, v11, v12, [], [], rfl, b2.trans (But.of xR), hP2.same xR, xR _ _ hS2, goS (ts_same xR) hV, upd_same, .nil, rfl, fun _ h => nomatch h⟩ (fun _ _ _ _ _ => trivial) ?_ ?_
      · rintro j u σ H' H3 hj ⟨v9, v10, v11, v12, us, pss, rfl, b3, hP3, hS3, hV3, hR3, hU3, lu, oku⟩ ⟨rfl, cc, hcc, rfl⟩
        refine ⟨(by show 0 ≤ sizeLine; decide), fun C hC => ?_⟩
        have xC := same_upd (o := HO.lst []) hC
        have hPC := hP3.same xC
        refine ⟨_, rfl, (by show 5 ≤ sizeLine; decide), fun L hL => ?_⟩
        have xL := same_upd (o := HO.lst [.int 1, .int 1, .int 2, .int 2, .int 3]) hL
        have hPL := hPC.same xL
        obtain ⟨_, _, _, hp3, _⟩ := hPC.ex
        refine ⟨p, c, L, _, _, rfl, hPL, by omega, SqL.of upd_same, (ne_of_none hp3 hL).symm, (by show 0 < 5; decide), (by show 5 ≤ 1000; decide), fun H4 m v b4 hP4 hm => ?_⟩
        have hv : ∃ g : Int, v = .int g ∧ 1 ≤ g ∧ g ≤ 3 := by
          match m, hm with
          | 0, hm => exact ⟨1, (Option.some.inj hm).symm, by omega, by omega⟩
          | 1, hm => exact ⟨1, (Option.some.inj hm).symm, by omega, by omega⟩
          | 2, hm => exact ⟨2, (Option.some.inj hm).symm, by omega, by omega⟩
          | 3, hm => exact ⟨2, (Option.some.inj hm).symm, by omega, by omega⟩
          | 4, hm => exact ⟨3, (Option.some.inj hm).symm, by omega, by omega⟩
          | m + 5, hm => exact absurd hm (by simp)
        obtain ⟨g, rfl, g1, g3⟩ := hv
        have nCp := (ne_of_none (hP3.ex.choose_spec.choose_spec.choose_spec.1) hC).symm
        have bCL : But p H3 H4 := (But.of (xC.trans xL)).trans b4
        have bT4 : TStay K H3 H4 := ts_but hP3.pen bCL
        refine ⟨_, rfl, by omega, by omega, ?_⟩
        refine for_range (lo := 0) (n := g.toNat) (fun e σ H' => ∃ v11 v12 C ws ps, σ = [some (.ref p), some (.int b), some (.str z), some (.int most), some (.int wide), some (.int mi), some (.ref S), some (.int (0 + (i : Int))), some (.ref R), some (.str ⟨#[cc]⟩), some (.ref C), v11, v12] ∧ But p H3 H' ∧ PenC H' p c (n + 1 + 22 * i + 7 * j + 1 + 2 * e) ∧ H' C = some (.lst ws) ∧ RpAll K H' ws (List.map eP ps) ∧ (ps.length ≤ e ∧ (0 < e → 1 ≤ ps.length)) ∧ (ps.Nodup ∧ ∀ q ∈ ps, -20 ≤ q.1 ∧ q.1 ≤ 20 ∧ 0 ≤ q.2 ∧ q.2 ≤ mi - 1) ∧ C ≠ p)
          ⟨v11, v12, C, [], [], rfl, bCL, hP4, b4 _ _ nCp (xL _ _ upd_same), .nil, ⟨Nat.le_refl _, fun h => absurd h (Nat.lt_irrefl _)⟩, ⟨.nil, fun _ h => nomatch h⟩, nCp⟩ ?_ ?_
        · rintro e σ H5 he ⟨v11, v12, C, ws, ps, rfl, b5, hP5, hC5, hW5, lw, okw, nCp5⟩
          refine ⟨_, rfl, _, rfl, _, _, rfl, rfl, .inl ⟨by decide, by decide⟩, _, _, rfl, rfl, p, c, 2 * wide + 1, _, rfl, hP5, by omega, by omega, log_small (m := 41) (by omega) (by decide), fun H6 k6 b6 hP6 k60 k61 => ?_⟩
          refine ⟨_, rfl, _, _, rfl, rfl, _, rfl, _, rfl, p, c, mi, _, rfl, hP6, by omega, by omega, log_small (m := 4) (by omega) (by decide), fun H7 k7 b7 hP7 k70 k71 => ⟨(by show 2 ≤ sizeLine; decide), fun T hT => ?_⟩⟩
          have b67 := b6.trans b7
          have bT7 : TStay K H5 H7 := ts_but hP5.pen b67
          have hC7 := b67 _ _ nCp5 hC5
          have xT := same_upd (o := HO.tup [.int (k6 - wide), .int k7]) hT
          refine ⟨_, rfl, _, rfl, (by show 1 ≤ sizeLine; decide), fun M hM => ?_⟩
          have xM := same_upd (o := HO.lst [.ref T]) hM
          have xTM := xT.trans xM
          have rg : -20 ≤ k6 - wide ∧ k6 - wide ≤ 20 ∧ 0 ≤ k7 ∧ k7 ≤ mi - 1 := by omega
          obtain ⟨pr, hpr⟩ : ∃ pr : Int × Int, pr = (k6 - wide, k7) := ⟨_, rfl⟩
          have rT : Rp K (upd (upd H7 T (HO.tup [.int (k6 - wide), .int k7])) M (HO.lst [.ref T])) (.ref T) (eP pr) := by
            rw [hpr]
            exact .tup (SqT.of (xM _ _ upd_same)) (.cons (.int _) (.cons (.int _) .nil))
          have hCM := xTM _ _ hC7
          have hWM := goP (bT7.trans (ts_same xTM)) hW5
          have lay := lay_eP ps
          have lps : ws.length = ps.length := by rw [hW5.len, List.length_map]
          have sht : SeqAt.shaped (.list (List.map eP ps)) = true := by
            have l2 := lay.2.1
            simp [SeqAt.shaped, PyData.canLay0, PyData.depth, lay.1]
            omega
          refine ⟨_, rfl, _, rfl, eP pr, List.map eP ps, rT.dp (by simp [eP, PyData.hasDict, PyData.hasDictAll]), .lst (SqL.of hCM) (RpAll.dp hWM lay.2.2), shaped_eP pr, sht, ?_⟩
          rw [any_eP]
          by_cases mem : pr ∈ ps
          · rw [decide_eq_true mem]
            refine .inr ⟨false, rfl, M, 0, [V.ref T], rfl, rfl, upd_same, by decide, by decide, (by show 0 ≤ sizeLine; decide), fun N hN => ?_⟩
            have xN := same_upd (o := HO.lst []) hN
            refine ⟨C, N, ws, [], rfl, rfl, xN _ _ hCM, upd_same, (by show ws.length + 0 ≤ sizeLine; exact Nat.le_of_lt (sl3 (by omega))), fun O hO => ?_⟩
            have xO := same_upd (o := HO.lst (ws ++ [])) hO
            have x4 := (xTM.trans xN).trans xO
            obtain ⟨_, _, _, hp7, _, _⟩ := hP7.ex
            have nO : O ≠ p := (ne_of_none ((xTM.trans xN) _ _ hp7) hO).symm
            refine ⟨_, _, O, ws ++ [], ps, rfl, b5.trans (b67.trans (But.of x4)), (hP7.same x4).mono (by omega), upd_same, ?_, ⟨by omega, fun _ => List.length_pos_of_mem mem⟩, okw, nO⟩
            exact rp_nil (goP (ts_same (xN.trans xO)) hWM)
          · rw [decide_eq_false mem]
            refine .inr ⟨true, rfl, M, 1, [V.ref T], rfl, rfl, upd_same, by decide, by decide, (by show 1 ≤ sizeLine; decide), fun N hN => ?_⟩
            have xN := same_upd (o := HO.lst [V.ref T]) hN
            refine ⟨C, N, ws, [V.ref T], rfl, rfl, xN _ _ hCM, upd_same, (by show ws.length + 1 ≤ sizeLine; exact Nat.le_of_lt (sl3 (by omega))), fun O hO => ?_⟩
            have xO := same_upd (o := HO.lst (ws ++ [V.ref T])) hO
            have x4 := (xTM.trans xN).trans xO
            obtain ⟨_, _, _, hp7, _, _⟩ := hP7.ex
            have nO : O ≠ p := (ne_of_none ((xTM.trans xN) _ _ hp7) hO).symm
            refine ⟨_, _, O, ws ++ [V.ref T], ps ++ [pr], rfl, b5.trans (b67.trans (But.of x4)), (hP7.same x4).mono (by omega), upd_same, ?_, ?_, ⟨?_, ?_⟩, nO⟩
            · rw [map_snoc]
              exact rp_snoc (goP (ts_same (xN.trans xO)) hWM) (rp_ts (ts_same (xN.trans xO)) rT (tO_eP _))
            · rw [List.length_append, List.length_singleton]
              omega
            · rw [List.nodup_append]
              refine ⟨okw.1, by simp, fun a ha b hb => ?_⟩
              rw [List.mem_singleton.mp hb]
              exact fun z => mem (z ▸ ha)
            · exact all_snoc okw.2 (by rw [hpr]; exact rg)
        · rintro σ H5 ⟨v11, v12, C, ws, ps, rfl, b5, hP5, hC5, hW5, lw, okw, nCp5⟩
          have bT5 : TStay K H3 H5 := ts_but hP3.pen b5
          have hR5 := b5 _ _ nRp hR3
          have hS5 := b5 _ _ nSp hS3
          refine ⟨_, rfl, .inl ⟨rfl, _, SqL.of hR5⟩, _, rfl, C, _, rfl, .inl ⟨SqL.of hC5, fun t ht => ?_⟩⟩
          have xt := same_upd (o := HO.tup ws) ht
          have bt : TStay K (upd H5 t (HO.tup ws)) (upd (upd H5 t (HO.tup ws)) R (HO.lst (us ++ [V.ref t]))) := ts_lst (xt _ _ hR5)
          have z9 : z.cps.size ≤ 3 := z3
          have ckp : 1 ≤ ps.length ∧ Ck mi ps := ⟨lw.2 (by omega), okw.1, by omega, okw.2⟩
          refine ⟨R, _, _, rfl, rfl, xt _ _ hR5, sl3 (by omega), ?_⟩
          refine ⟨_, _, _, _, us ++ [V.ref t], pss ++ [ps], rfl, ?_, ?_, ?_, ?_, upd_same, ?_, by rw [List.length_append, lu]; rfl, all_snoc oku ckp⟩
          · intro b o nb e
            rw [upd_ne (ne_of_none e R0)]
            exact xt _ _ (b5 _ _ nb (b3 _ _ nb e))
          · exact (hP5.keep (fun o e => by rw [upd_ne nRp.symm]; exact xt _ _ e) (fun o e => by rw [upd_ne nRc.symm]; exact xt _ _ e)).mono (by omega)
          · rw [upd_ne nRS.symm]
            exact xt _ _ hS5
          · exact goS ((bT5.trans (ts_same xt)).trans bt) hV3
          · rw [map_snoc]
            refine rp_snoc (goC ((bT5.trans (ts_same xt)).trans bt) hU3) (.tup (bt _ _ (SqT.of upd_same)) (goP ((ts_same xt).trans bt) hW5))
      · rintro σ H4 ⟨v9, v10, v11, v12, us, pss, rfl, b4, hP4, hS4, hV4, hR4, hU4, lu, oku⟩
        have lu3 : us.length ≤ 3 := by rw [lu]; exact z3
        refine ⟨_, rfl, .inl ⟨rfl, _, SqL.of hS4⟩, _, rfl, R, _, rfl, .inl ⟨SqL.of hR4, fun t ht => ?_⟩⟩
        have xt := same_upd (o := HO.tup us) ht
        refine ⟨S, _, _, rfl, rfl, xt _ _ hS4, sl3 (by omega), ?_⟩
        have bt : TStay K (upd H4 t (HO.tup us)) (upd (upd H4 t (HO.tup us)) S (HO.lst (vs ++ [V.ref t]))) := ts_lst (xt _ _ hS4)
        have lup : us.length = pss.length := by rw [hU4.len, List.length_map]
        refine ⟨_, _, _, _, _, _, vs ++ [V.ref t], css ++ [pss], rfl, ?_, ?_, upd_same, ?_, by rw [List.length_append, lv]; rfl, all_snoc ok ⟨lup.symm.trans lu, oku⟩⟩
        · intro b o nb e
          rw [upd_ne (ne_of_none e S0)]
          exact xt _ _ (b4 _ _ nb e)
        · exact (hP4.keep (fun o e => by rw [upd_ne nSp.symm]; exact xt _ _ e) (fun o e => by rw [upd_ne nSc.symm]; exact xt _ _ e)).mono (by have : z.cps.size ≤ 3 := z3; omega)
        · rw [map_snoc]
          exact rp_snoc (goS ((ts_same xt).trans bt) hV4) (.tup (bt _ _ (SqT.of upd_same)) (goC ((ts_same xt).trans bt) hU4))
    · rintro σ H2 ⟨v7, v8, v9, v10, v11, v12, vs, css, rfl, b2, hP2, hS2, hV, lv, ok⟩
      refine ⟨_, rfl, _, rfl, _, rfl, S, _, rfl, .inl ⟨SqL.of hS2, fun t ht => ⟨(by show 3 ≤ sizeLine; decide), fun u hu => ?_⟩⟩⟩
      have xt := same_upd (o := HO.tup vs) ht
      have xu := same_upd (o := HO.tup [V.int b, V.str z, V.ref t]) hu
      have x2 := xt.trans xu
      have hz : z.length ≤ sizeLine := Nat.le_trans (show z.length ≤ 3 from z3) (by decide)
      have lvc : vs.length = css.length := by rw [hV.len, List.length_map]
      have emi : mi = (css.length : Int) := by omega
      have hPt := hP2.same xt
      obtain ⟨_, _, _, hpt, _, _⟩ := hPt.ex
      refine q _ u ⟨b, z, css⟩ (b2.trans (But.of x2)) ((hP2.same x2).mono (by omega)).pen (ne_of_none hpt hu).symm (.tup (SqT.of upd_same) (.cons (.int b) (.cons (.str z hz) (.cons (.tup (SqT.of (xu _ _ upd_same)) (goS (ts_same x2) hV)) .nil)))) ?_ rfl rfl
      exact mch_made b2' b9' hl (by omega) (by omega) (fun cs hcs => (ok cs hcs).1) fun cs hcs ps hps => emi ▸ (ok cs hcs).2 ps hps
def spPln3 (K : PySem.W.Frag) : Sp := fun vs H Q _ => ∃ (p : Addr) (n : Nat) (b : Int) (z : Str) (most wide : Int), vs = [.ref p, .int b, .str z, .int most, .int wide] ∧ Pen H p n ∧ n < 1046000 ∧ lettersL z.cps.toList = true ∧ 2 ≤ b ∧ b ≤ 9 ∧ 1 ≤ most ∧ most ≤ 5 ∧ 1 ≤ wide ∧ wide ≤ wideN ∧
  ∀ (H' : Hp) (t : Addr) (M : Mc), But p H H' → Pen H' p (n + 50) → t ≠ p → Rp K H' (.ref t) (fM M) → Side (fM M) M → M.b = b → M.z = z → Q (.ref t) H'
def rowD (qs : List (Int × Int)) : PyData := .tuple (qs.map eP)
structure Pk (wide m : Int) (q : Int × Int) : Prop where
  lo : -wide ≤ q.1
  hi : q.1 ≤ wide
  t0 : 0 ≤ q.2
  t1 : q.2 ≤ m - 1
theorem tO_rowD (qs : List (Int × Int)) : tO (rowD qs) = true := by
  rw [rowD, tO]
  exact tOs_map tO_eP qs
theorem goR {K : PySem.W.Frag} {H H' : Hp} {us : List V} {es : List (List (Int × Int))} (s : TStay K H H') (h : RpAll K H us (es.map rowD)) : RpAll K H' us (es.map rowD) := rpAll_ts s h (tOs_map tO_rowD _)
theorem pln_made {K : PySem.W.Frag} {b : Int} {z : Str} {rows : List (List (Int × Int))} (b2 : 2 ≤ b) (b9 : b ≤ 9) (hl : lettersL z.cps.toList = true) (c1 : 1 ≤ rows.length) (c5 : rows.length ≤ 130) (row : ∀ qs ∈ rows, qs.length = z.length)
    (pr : ∀ qs ∈ rows, ∀ q ∈ qs, -wideN ≤ q.1 ∧ q.1 ≤ wideN ∧ 0 ≤ q.2 ∧ q.2 ≤ (rows.length : Int) - 1) :
    Side (fM ⟨b, z, rows.map (List.map fun p => [p])⟩) ⟨b, z, rows.map (List.map fun p => [p])⟩ ∧ fM ⟨b, z, rows.map (List.map fun p => [p])⟩ = .tuple [.int b, .str z, .tuple (rows.map rowD)] := by
  have e1 : fM ⟨b, z, rows.map (List.map fun p => [p])⟩ = .tuple [.int b, .str z, .tuple (rows.map rowD)] := by
    unfold fM
    simp only [List.map_map]
    refine congrArg (fun l => PyData.tuple [.int b, .str z, .tuple l]) (List.map_congr_left fun xs _ => ?_)
    show PyData.tuple ((xs.map fun p => [p]).map fC) = .tuple (xs.map eP)
    rw [List.map_map]
    rfl
  refine ⟨?_, e1⟩
  have z1 := ltr_pos hl
  have fr : ∀ most : Int, (rows.length : Int) ≤ most → frmD most (.tuple [.int b, .str z, .tuple (rows.map rowD)]) = true := fun most hm => by
    show (betD 2 9 (.int b) && (ltrD (.str z) && tabD (lenD (.str z)) most (.tuple (rows.map rowD)))) = true
    have a2 : tabD (lenD (.str z)) most (.tuple (rows.map rowD)) = true := by
      show (tupD 1 most (.tuple (rows.map rowD)) && (rows.map rowD).all (tupD (z.length : Int) (z.length : Int))) = true
      have a4 : (rows.map rowD).all (tupD (z.length : Int) (z.length : Int)) = true := by
        rw [List.all_map, List.all_eq_true]
        intro qs hqs
        have := row qs hqs
        exact tupD_ok (by rw [List.length_map]; omega) (by rw [List.length_map]; omega)
      rw [tupD_ok (by rw [List.length_map]; omega) (by rw [List.length_map]; exact hm), a4]
      rfl
    rw [betD_ok b2 b9, a2, show ltrD (.str z) = true from hl]
    rfl
  have pl : plnD (fM ⟨b, z, rows.map (List.map fun p => [p])⟩) = true := by
    rw [e1]
    show (frmD 300 (.tuple [.int b, .str z, .tuple (rows.map rowD)]) && ((rows.map rowD).flatMap fun st => (elems st).map (pairD ((10 : Int) ^ (30 : Int).toNat) ((rows.map rowD).length : Int))).all id) = true
    rw [fr 300 (by omega), Bool.true_and, List.all_eq_true]
    intro x hx
    obtain ⟨st, hst, hx⟩ := List.mem_flatMap.mp hx
    obtain ⟨qs, hqs, rfl⟩ := List.mem_map.mp hst
    obtain ⟨d, hd, rfl⟩ := List.mem_map.mp hx
    obtain ⟨p, hp, rfl⟩ := List.mem_map.mp (show d ∈ qs.map eP from hd)
    obtain ⟨r1, r2, r3, r4⟩ := pr qs hqs p hp
    rw [List.length_map]
    show (betD (-wideN) wideN (.int p.1) && betD 0 ((rows.length : Int) - 1) (.int p.2)) = true
    rw [betD_ok r1 r2, betD_ok r3 r4]
    rfl
  have mk : mchD (fM ⟨b, z, rows.map (List.map fun p => [p])⟩) = false := by
    rw [e1]
    cases rows with
    | nil => exact absurd c1 (by decide)
    | cons qs rest =>
      have lq := row qs (.head _)
      cases qs with
      | nil => rw [List.length_nil] at lq; omega
      | cons p r =>
        have : ((((p :: r) :: rest).map rowD).flatMap fun st => (elems st).map (chD ((((p :: r) :: rest).map rowD).length : Int))).all id = false := by
          have hc : ∀ m : Int, chD m (eP p) = false := fun m => by
            show (tupD 1 3 (eP p) && ((([.int p.1, .int p.2] : List PyData).all (pairD 20 m)) && decide ((List.map keyD [.int p.1, .int p.2]).Nodup))) = false
            rw [show (([.int p.1, .int p.2] : List PyData).all (pairD 20 m)) = false from rfl]
            simp
          rw [List.map_cons, List.flatMap_cons]
          show (((eP p :: r.map eP).map (chD _)) ++ _).all id = false
          rw [List.map_cons, List.cons_append, List.all_cons, hc]
          rfl
        show (frmD 4 _ && _) = false
        rw [this, Bool.and_false]
  have wd : withD (fM ⟨b, z, rows.map (List.map fun p => [p])⟩) = eM ⟨b, z, rows.map (List.map fun p => [p])⟩ := by
    rw [e1]
    unfold withD eM eS
    simp only [List.map_map]
    refine congrArg (fun l => PyData.tuple [.int b, .str z, .tuple l]) (List.map_congr_left fun xs _ => ?_)
    show PyData.tuple ((elems (.tuple (xs.map eP))).map fun pr => .tuple [pr]) = .tuple ((xs.map fun p => [p]).map eC)
    unfold elems eC
    simp only [List.map_map]
    rfl
  have one : ∀ cs ∈ rows.map (List.map fun p : Int × Int => [p]), ∀ ps ∈ cs, ∃ qs ∈ rows, ∃ p ∈ qs, ps = [p] := fun cs hcs ps hps => by
    obtain ⟨qs, hqs, rfl⟩ := List.mem_map.mp hcs
    obtain ⟨p, hp, rfl⟩ := List.mem_map.mp hps
    exact ⟨qs, hqs, p, hp, rfl⟩
  have l1 : ∀ cs ∈ rows.map (List.map fun p : Int × Int => [p]), ∀ ps ∈ cs, ps.length = 1 := fun cs hcs ps hps => by
    obtain ⟨qs, hqs, p, hp, rfl⟩ := one cs hcs ps hps
    rfl
  have lr : (rows.map (List.map fun p : Int × Int => [p])).length = rows.length := List.length_map _
  refine ⟨⟨⟨b2, b9, hl, (by show 1 ≤ (List.map _ rows).length; omega), (by show (List.map _ rows).length ≤ 300; omega), fun cs hcs => ?_, fun cs hcs ps hps => ?_, fun cs hcs ps hps p hp => ?_, .inr l1⟩, (by show (List.map _ rows).length ≤ 130; omega)⟩, .inr ⟨rfl, mk, pl, wd, l1⟩⟩
  · obtain ⟨qs, hqs, rfl⟩ := List.mem_map.mp hcs
    rw [List.length_map]
    exact row qs hqs
  · rw [l1 cs hcs ps hps]
    exact ⟨Nat.le_refl _, Nat.le_add_left 1 2⟩
  · obtain ⟨qs, hqs, q, hq, rfl⟩ := one cs hcs ps hps
    obtain rfl := List.mem_singleton.mp hp
    obtain ⟨r1, r2, r3, r4⟩ := pr qs hqs p hq
    exact ⟨r1, r2, r3, by show p.2 ≤ ((List.map _ rows).length : Int) - 1; omega⟩
theorem ok_pln3 (TP : PenTxt K mg f1 f2 f3 f4 d1 d2 d3 d4) (T : BlTxt K mg xm xp xf xs ym yp yf ys) {k : Nat} : FnOk P w K mg base CX0 (k + 4) xp yp ["pen", "base", "letters", "most", "wide"] (spPln3 K) := by
  have GTC : FnOk P w K mg base CX0 (k + 3) f3 d3 ["pen", "many"] spTakeC := ok_takeC TP (k := k + 1)
  refine T.FXPlainB.ok scXPlainB (fun vs H Q E h => ?_) (fun cdv A outer s H vs Q E hr h => ?_)
  · obtain ⟨p, n, b, z, most, wide, rfl, _⟩ := h
    rfl
  · obtain ⟨p, n, b, z, most, wide, rfl, hP, hn, hl, b2', b9', m1, m4, wi0, wiN, q⟩ := h
    refine ⟨_, (Evl.pss_cut (ps_asg (pe_tup (pa_cons (pe_op op_add pe_int (pe_call GTC hr (by rfl) TP.gTake TP.FTake.kp TP.bTake .nil pass0 (pa_cons (pv 0) (pa_cons (pv 3) pa_nil)))) (pa_cons (pe_lst pa_nil) pa_nil))) (pg_tup rfl (pgs_cons (pg_name (i := 5) scXPlainB.nd rfl (.inr rfl)) (pgs_cons (pg_name (i := 6) scXPlainB.nd rfl (.inl rfl)) pgs_nil))))
 (pss_cons (ps_for PassesOwn.never rfl (pi_range1 (by rfl) T.range (pa_cons (pv 5) pa_nil)) (pg_name (i := 7) scXPlainB.nd rfl (.inl rfl))
 (pss_one (ps_expr (pe_bm PySem.F.plainAttrs_list PySem.F.slot_list_append PySem.F.type_list_append mt_append (pv 6) (pa_cons (pe_callTy call_tuple_of (by rfl) T.tuple (by decide +kernel) (pa_cons (pe_lc (own := [("letter", 8)]) (g := gName 8) (tt := tYes) (by rfl) scXPlainB.nd (pi_str (pv 2)) (blkOk_by (N := ["pen", "base", "letters", "most", "wide", "many", "states", "state", "letter"]) (sc := defScope sXPlainB) (by decide +kernel)) (fun _ _ _ _ _ => pg_name (i := 8) scXPlainB.nd rfl (Or.inl rfl)) (fun _ _ _ _ _ => pts_nil) (fun _ _ _ _ _ => (pe_tup (pa_cons (pe_op op_sub (pe_call GTC hr (by rfl) TP.gTake TP.FTake.kp TP.bTake .nil pass0 (pa_cons (pv 0) (pa_cons (pe_op op_add (pe_op op_mul pe_int (pv 4)) pe_int) pa_nil))) (pv 4)) (pa_cons (pe_call GTC hr (by rfl) TP.gTake TP.FTake.kp TP.bTake .nil pass0 (pa_cons (pv 0) (pa_cons (pv 5) pa_nil))) pa_nil))))) pa_nil)) pa_nil)))))
 (pss_one (ps_ret (pe_tup (pa_cons (pv 1) (pa_cons (pv 2) (pa_cons (pe_callTy call_tuple_of (by rfl) T.tuple (by decide +kernel) (pa_cons (pv 6) pa_nil)) pa_nil)))))))), ?_⟩
    obtain ⟨c, hP⟩ := hP.at
    have wi1 : wide < 2 ^ 100 := Int.lt_of_le_of_lt wiN wide_two.1
    have z3 : z.cps.size ≤ 3 := ltrD_len (d := .str z) hl
    have sl3 : ∀ {m : Nat}, m ≤ 100 → m < sizeLine := fun h => Nat.lt_of_le_of_lt h (by decide)
    refine ⟨fun σ H' => ∃ (mi : Int) (S : Addr), σ = [some (.ref p), some (.int b), some (.str z), some (.int most), some (.int wide), some (.int mi), some (.ref S), none, none] ∧ 1 ≤ mi ∧ mi ≤ 5 ∧ But p H H' ∧ PenC H' p c (n + 1) ∧ H' S = some (.lst []) ∧ S ≠ p ∧ S ≠ c ∧ H S = none, ?_, ?_⟩
    · refine ⟨_, rfl, _, rfl, p, c, most, n, rfl, hP, by omega, by omega, log_small (m := 6) (by omega) (by decide), fun H1 k1 b1 hP1 k10 k11 => ⟨_, _, rfl, rfl, (by show 0 ≤ sizeLine; decide), fun S hS => ⟨(by show 2 ≤ sizeLine; decide), fun t ht => ?_⟩⟩⟩
      have x1 := same_upd (o := HO.lst []) hS
      have x2 := x1.trans (same_upd (o := HO.tup [.int (1 + k1), .ref S]) ht)
      obtain ⟨c1, _, _, hp1, hc1, _⟩ := hP1.ex
      refine ⟨t, _, rfl, SqT.of upd_same, rfl, _, _, rfl, _, _, rfl, rfl, 1 + k1, S, rfl, by omega, by omega, b1.trans (But.of x2), hP1.same x2, same_upd ht _ _ upd_same, (ne_of_none hp1 hS).symm, (ne_of_none hc1 hS).symm, butNone b1 (ne_of_none hp1 hS).symm hS⟩
    rintro σ H1 ⟨mi, S, rfl, i1, i4, b1, hP1, hS, nSp, nSc, S0⟩
    refine ⟨_, rfl, _, rfl, by omega, by omega, ?_⟩
    refine for_range (lo := 0) (n := mi.toNat) (fun i σ H' => ∃ v7 vs rows, σ = [some (.ref p), some (.int b), some (.str z), some (.int most), some (.int wide), some (.int mi), some (.ref S), v7, none] ∧ But p H H' ∧ PenC H' p c (n + 1 + 6 * i) ∧ H' S = some (.lst vs) ∧ RpAll K H' vs (List.map rowD rows) ∧ vs.length = i ∧ ∀ qs ∈ rows, qs.length = z.length ∧ ∀ q ∈ qs, Pk wide mi q)
      ⟨none, [], [], rfl, b1, hP1, hS, .nil, rfl, fun _ h => nomatch h⟩ ?_ ?_
    · rintro i σ H2 hi ⟨v7, vs, rows, rfl, b2, hP2, hS2, hV, lv, ok⟩
      refine ⟨_, rfl, .inl ⟨rfl, _, SqL.of hS2⟩, _, rfl, z, rfl, fun D nD => ?_⟩
      obtain ⟨_, _, _, hp2, hc2, _⟩ := hP2.ex
      have xD := same_upd (o := HO.lst []) nD
      have nDp := (ne_of_none hp2 nD).symm
      have nDc := (ne_of_none hc2 nD).symm
      refine lc_it walk_str (fun j H' => ∃ us qs, But p H2 H' ∧ PenC H' p c (n + 1 + 6 * i + 2 * j) ∧ H' D = some (.lst us) ∧ RpAll K H' us (List.map eP qs) ∧ us.length = j ∧ ∀ q ∈ qs, Pk wide mi q) ⟨[], [], But.of xD, hP2.same xD, upd_same, .nil, rfl, fun _ h => nomatch h⟩ (fun _ _ _ _ => trivial) ?_ ?_
      · rintro j u H' H3 hj ⟨us, qs, bj, hPj, hD, hU, lu, oku⟩ ⟨rfl, cc, hcc, rfl⟩
        refine ⟨rfl, ?_⟩
        refine ⟨_, rfl, _, rfl, _, _, rfl, rfl, .inl ⟨by decide, by decide⟩, _, _, rfl, rfl, p, c, 2 * wide + 1, _, rfl, hPj, by omega, by omega, ?_, fun H6 k6 b6 hP6 k60 k61 => ?_⟩
        · exact Nat.lt_trans (log_le (k := 103) (show (2 * wide + 1).natAbs < 2 ^ 103 by omega) (by decide)) (by decide)
        refine ⟨_, rfl, _, _, rfl, rfl, _, rfl, _, rfl, p, c, mi, _, rfl, hP6, by omega, by omega, log_small (m := 6) (by omega) (by decide), fun H7 k7 b7 hP7 k70 k71 => ⟨(by show 2 ≤ sizeLine; decide), fun T hT => ?_⟩⟩
        have b67 := b6.trans b7
        have bT7 : TStay K H3 H7 := ts_but hPj.pen b67
        have hD7 := b67 _ _ nDp hD
        have xT := same_upd (o := HO.tup [.int (k6 - wide), .int k7]) hT
        have isp : Pk wide mi (k6 - wide, k7) := ⟨by show -wide ≤ k6 - wide; omega, by show k6 - wide ≤ wide; omega, k70, by show k7 ≤ mi - 1; omega⟩
        have hDT := xT _ _ hD7
        have bt : TStay K (upd H7 T (HO.tup [.int (k6 - wide), .int k7])) (upd (upd H7 T (HO.tup [.int (k6 - wide), .int k7])) D (HO.lst (us ++ [V.ref T]))) := ts_lst hDT
        have z9 : z.cps.size ≤ 3 := z3
        refine ⟨_, hDT, sl3 (by omega), us ++ [V.ref T], qs ++ [(k6 - wide, k7)], ?_, ?_, upd_same, ?_, by rw [List.length_append, lu]; rfl, all_snoc oku isp⟩
        · intro b o nb e
          rw [upd_ne (ne_of_none e nD)]
          exact xT _ _ (b67 _ _ nb (bj _ _ nb e))
        · exact (hP7.keep (fun o e => by rw [upd_ne nDp.symm]; exact xT _ _ e) (fun o e => by rw [upd_ne nDc.symm]; exact xT _ _ e)).mono (by omega)
        · rw [map_snoc]
          exact rp_snoc (goP ((bT7.trans (ts_same xT)).trans bt) hU) (.tup (bt _ _ (SqT.of upd_same)) (.cons (.int _) (.cons (.int _) .nil)))
      · rintro H3 ⟨us, qs, bj, hPj, hD, hU, lu, oku⟩
        have lu3 : us.length ≤ 3 := by rw [lu]; exact z3
        refine ⟨D, _, rfl, .inl ⟨SqL.of hD, fun t ht => ?_⟩⟩
        have xt := same_upd (o := HO.tup us) ht
        have hS3 := xt _ _ (bj _ _ nSp hS2)
        refine ⟨S, _, _, rfl, rfl, hS3, sl3 (by omega), ?_⟩
        have bt : TStay K (upd H3 t (HO.tup us)) (upd (upd H3 t (HO.tup us)) S (HO.lst (vs ++ [V.ref t]))) := ts_lst hS3
        have bT3 : TStay K H2 H3 := ts_but hP2.pen bj
        have luq : us.length = qs.length := by rw [hU.len, List.length_map]
        refine ⟨_, vs ++ [V.ref t], rows ++ [qs], rfl, ?_, ?_, upd_same, ?_, by rw [List.length_append, lv]; rfl, all_snoc ok ⟨luq.symm.trans lu, oku⟩⟩
        · intro b o nb e
          rw [upd_ne (ne_of_none e S0)]
          exact xt _ _ (bj _ _ nb (b2 _ _ nb e))
        · exact (hPj.keep (fun o e => by rw [upd_ne nSp.symm]; exact xt _ _ e) (fun o e => by rw [upd_ne nSc.symm]; exact xt _ _ e)).mono (by have : z.cps.size ≤ 3 := z3; omega)
        · rw [map_snoc]
          exact rp_snoc (goR ((bT3.trans (ts_same xt)).trans bt) hV) (.tup (bt _ _ (SqT.of upd_same)) (goP ((ts_same xt).trans bt) hU))
    · rintro σ H2 ⟨v7, vs, rows, rfl, b2, hP2, hS2, hV, lv, ok⟩
      refine ⟨_, rfl, _, rfl, _, rfl, S, _, rfl, .inl ⟨SqL.of hS2, fun t ht => ⟨(by show 3 ≤ sizeLine; decide), fun u hu => ?_⟩⟩⟩
      have xt := same_upd (o := HO.tup vs) ht
      have xu := same_upd (o := HO.tup [V.int b, V.str z, V.ref t]) hu
      have x2 := xt.trans xu
      have hz : z.length ≤ sizeLine := Nat.le_trans (show z.length ≤ 3 from z3) (by decide)
      have lvr : vs.length = rows.length := by rw [hV.len, List.length_map]
      have emi : mi = (rows.length : Int) := by omega
      have hPt := hP2.same xt
      obtain ⟨_, _, _, hpt, _, _⟩ := hPt.ex
      obtain ⟨sd, rp⟩ := pln_made (K := K) b2' b9' hl (by omega) (by omega) (fun qs hqs => (ok qs hqs).1) (fun qs hqs q hq => by
        obtain ⟨h1, h2, h3, h4⟩ := (ok qs hqs).2 q hq
        exact ⟨by omega, by omega, h3, by omega⟩)
      refine q _ u ⟨b, z, rows.map (List.map fun p => [p])⟩ (b2.trans (But.of x2)) ((hP2.same x2).mono (by omega)).pen (ne_of_none hpt hu).symm ?_ sd rfl rfl
      rw [rp]
      exact .tup (SqT.of upd_same) (.cons (.int b) (.cons (.str z hz) (.cons (.tup (SqT.of (xu _ _ upd_same)) (goR (ts_same x2) hV)) .nil)))
end
end My
/-! ### the law's sides, its free rule -/
namespace My
open PySem PySem.Spec PyProof.Rows L2
def spSide (K : PySem.W.Frag) : Sp := fun vs H Q _ => ∃ (p : Addr) (n : Nat) (b : Int) (z : Str), vs = [.ref p, .int b, .str z] ∧ Pen H p n ∧ n < 1045000 ∧ lettersL z.cps.toList = true ∧ 2 ≤ b ∧ b ≤ 9 ∧
  ∀ (H' : Hp) (t : Addr) (d : PyData) (M : Mc), But p H H' → Pen H' p (n + 110) → t ≠ p → Rp K H' (.ref t) d → Side d M → M.b = b → M.z = z → Q (.ref t) H'
section
variable {P : Program} {w : World} {K : PySem.W.Frag} {mg : Str → Option Value} {base : Heap} {f1 f2 f3 f4 : Addr} {d1 d2 d3 d4 : FuncData} {xm xp xf xs : Addr} {ym yp yf ys : FuncData}
theorem ok_side (TP : PenTxt K mg f1 f2 f3 f4 d1 d2 d3 d4) (T : BlTxt K mg xm xp xf xs ym yp yf ys) {k : Nat} : FnOk P w K mg base CX0 (k + 5) xs ys ["pen", "base", "letters"] (spSide K) := by
  have GT : FnOk P w K mg base CX0 (k + 4) f3 d3 ["pen", "many"] spTake := ok_take TP (k := k + 2)
  have GP : FnOk P w K mg base CX0 (k + 4) f4 d4 ["pen", "some"] (spPick K) := ok_pick TP (k := k + 1)
  have GM : FnOk P w K mg base CX0 (k + 4) xm ym ["pen", "base", "letters", "most", "wide"] (spMach3 K) := ok_mach3 TP T
  have GL : FnOk P w K mg base CX0 (k + 4) xp yp ["pen", "base", "letters", "most", "wide"] (spPln3 K) := ok_pln3 TP T
  refine T.FXSide.ok scXSide (fun vs H Q E h => ?_) (fun cdv A outer s H vs Q E hr h => ?_)
  · obtain ⟨p, n, b, z, rfl, _⟩ := h
    rfl
  · obtain ⟨p, n, b, z, rfl, hP, hn, hl, b2, b9, q⟩ := h
    refine ⟨_, (Evl.pss_cut (ps_asg (pe_call GP hr (by rfl) TP.gPick TP.FPick.kp TP.bPick .nil pass0 (pa_cons (pv 0) (pa_cons (pe_lst (pa_cons (pe_tup (pa_cons pe_int (pa_cons pe_int pa_nil))) (pa_cons (pe_tup (pa_cons pe_int (pa_cons pe_int pa_nil))) (pa_cons (pe_tup (pa_cons pe_int (pa_cons pe_int pa_nil))) (pa_cons (pe_tup (pa_cons pe_int (pa_cons pe_int pa_nil))) (pa_cons (pe_tup (pa_cons pe_int (pa_cons pe_int pa_nil))) (pa_cons (pe_tup (pa_cons pe_int (pa_cons pe_int pa_nil))) (pa_cons (pe_tup (pa_cons pe_int (pa_cons pe_int pa_nil))) pa_nil)))))))) pa_nil))) (pg_tup rfl (pgs_cons (pg_name (i := 3) scXSide.nd rfl (.inl rfl)) (pgs_cons (pg_name (i := 4) scXSide.nd rfl (.inl rfl)) pgs_nil))))
 (pss_cons (ps_if (pt_cmpR op_eq (pe_call GT hr (by rfl) TP.gTake TP.FTake.kp TP.bTake .nil pass0 (pa_cons (pv 0) (pa_cons pe_int pa_nil))) pe_int (nomark _)) (pss_one (ps_ret (pe_call GL hr (by rfl) T.gXPlainB T.FXPlainB.kp T.bXPlainB .nil pass0 (pa_cons (pv 0) (pa_cons (pv 1) (pa_cons (pv 2) (pa_cons (pe_op op_add (pv 3) pe_int) (pa_cons (pe_call GP hr (by rfl) TP.gPick TP.FPick.kp TP.bPick .nil pass0 (pa_cons (pv 0) (pa_cons (pe_lst (pa_cons pe_int (pa_cons pe_int (pa_cons pe_int (pa_cons (pe_op op_pow pe_int pe_int) (pa_cons (pe_op op_pow pe_int pe_int) pa_nil)))))) pa_nil))) pa_nil)))))))) pss_nil)
 (pss_one (ps_ret (pe_call GM hr (by rfl) T.gXMachineB T.FXMachineB.kp T.bXMachineB .nil pass0 (pa_cons (pv 0) (pa_cons (pv 1) (pa_cons (pv 2) (pa_cons (pv 3) (pa_cons (pv 4) pa_nil)))))))))), ?_⟩
    refine ⟨fun σ H' => ∃ mo wi : Int, σ = [some (.ref p), some (.int b), some (.str z), some (.int mo), some (.int wi)] ∧ 1 ≤ mo ∧ mo ≤ 4 ∧ 1 ≤ wi ∧ wi ≤ 20 ∧ But p H H' ∧ Pen H' p (n + 1), ?_, ?_⟩
    · refine ⟨_, rfl, (by show 2 ≤ sizeLine; decide), fun t1 h1 => ⟨(by show 2 ≤ sizeLine; decide), fun t2 h2 => ⟨(by show 2 ≤ sizeLine; decide), fun t3 h3 => ⟨(by show 2 ≤ sizeLine; decide), fun t4 h4 => ⟨(by show 2 ≤ sizeLine; decide), fun t5 h5 => ⟨(by show 2 ≤ sizeLine; decide), fun t6 h6 => ⟨(by show 2 ≤ sizeLine; decide), fun t7 h7 => ⟨(by show 7 ≤ sizeLine; decide), fun L hL => ?_⟩⟩⟩⟩⟩⟩⟩⟩
      have x1 := same_upd (o := HO.tup [.int 1, .int 20]) h1
      have x2 := same_upd (o := HO.tup [.int 2, .int 20]) h2
      have x3 := same_upd (o := HO.tup [.int 2, .int 3]) h3
      have x4 := same_upd (o := HO.tup [.int 3, .int 4]) h4
      have x5 := same_upd (o := HO.tup [.int 4, .int 2]) h5
      have x6 := same_upd (o := HO.tup [.int 3, .int 1]) h6
      have x7 := same_upd (o := HO.tup [.int 4, .int 1]) h7
      have xL := same_upd (o := HO.lst [.ref t1, .ref t2, .ref t3, .ref t4, .ref t5, .ref t6, .ref t7]) hL
      have y7 := x7.trans xL
      have y6 := x6.trans y7
      have y5 := x5.trans y6
      have y4 := x4.trans y5
      have y3 := x3.trans y4
      have y2 := x2.trans y3
      have y1 := x1.trans y2
      have hPL := hP.same y1
      have hP7 := hP.same (x1.trans (x2.trans (x3.trans (x4.trans (x5.trans (x6.trans x7))))))
      refine ⟨p, L, _, n, rfl, hPL, by omega, SqL.of upd_same, new_ne hP7 hL, (by show 0 < 7; decide), (by show 7 ≤ 1000; decide), fun H2 m v b2 hP2 hm => ?_⟩
      have tp : ∀ t o, (∃ mo wi : Int, o = HO.tup [.int mo, .int wi]) → (upd _ L (HO.lst [.ref t1, .ref t2, .ref t3, .ref t4, .ref t5, .ref t6, .ref t7])) t = some o → H2 t = some o := fun t o ho e => b2 _ _ (fun z => by
        obtain ⟨ys, hp⟩ := hPL.ls
        rw [z, hp] at e
        obtain ⟨mo, wi, rfl⟩ := ho
        cases e) e
      have hv : ∃ (t : Addr) (mo wi : Int), v = .ref t ∧ H2 t = some (.tup [.int mo, .int wi]) ∧ 1 ≤ mo ∧ mo ≤ 4 ∧ 1 ≤ wi ∧ wi ≤ 20 := by
        match m, hm with
        | 0, hm => exact ⟨t1, 1, 20, (Option.some.inj hm).symm, tp _ _ ⟨_, _, rfl⟩ (y2 _ _ upd_same), by omega⟩
        | 1, hm => exact ⟨t2, 2, 20, (Option.some.inj hm).symm, tp _ _ ⟨_, _, rfl⟩ (y3 _ _ upd_same), by omega⟩
        | 2, hm => exact ⟨t3, 2, 3, (Option.some.inj hm).symm, tp _ _ ⟨_, _, rfl⟩ (y4 _ _ upd_same), by omega⟩
        | 3, hm => exact ⟨t4, 3, 4, (Option.some.inj hm).symm, tp _ _ ⟨_, _, rfl⟩ (y5 _ _ upd_same), by omega⟩
        | 4, hm => exact ⟨t5, 4, 2, (Option.some.inj hm).symm, tp _ _ ⟨_, _, rfl⟩ (y6 _ _ upd_same), by omega⟩
        | 5, hm => exact ⟨t6, 3, 1, (Option.some.inj hm).symm, tp _ _ ⟨_, _, rfl⟩ (y7 _ _ upd_same), by omega⟩
        | 6, hm => exact ⟨t7, 4, 1, (Option.some.inj hm).symm, tp _ _ ⟨_, _, rfl⟩ (xL _ _ upd_same), by omega⟩
        | m + 7, hm => exact absurd hm (by simp)
      obtain ⟨t, mo, wi, rfl, ht, m1, m4, w1, w20⟩ := hv
      exact ⟨t, _, rfl, SqT.of ht, rfl, _, _, rfl, _, _, rfl, rfl, mo, wi, rfl, m1, m4, w1, w20, (But.of y1).trans b2, hP2⟩
    rintro σ H1 ⟨mo, wi, rfl, m1, m4, w1, w20, b1, hP1⟩
    refine ⟨_, rfl, p, 4, _, rfl, hP1, by omega, by decide, by decide, fun H2 k2 b2' hP2 k20 k21 => ⟨rfl, _, rfl, ?_⟩⟩
    refine ite2 (fun _ => ?_) (fun _ => ?_)
    · refine ⟨_, rfl, _, rfl, _, rfl, _, rfl, _, _, rfl, rfl, _, rfl, ?_⟩
      refine ⟨_, _, rfl, rfl, (by exact ⟨by decide, by decide, by decide⟩), _, _, rfl, rfl, (by exact ⟨by decide, by decide, by decide⟩), (by show 5 ≤ sizeLine; decide), fun L hL => ?_⟩
      have xL := same_upd (o := HO.lst [.int 1, .int 3, .int 20, .int ((10 : Int) ^ (6 : Int).toNat), .int ((10 : Int) ^ (30 : Int).toNat)]) hL
      refine ⟨p, L, _, _, rfl, hP2.same xL, by omega, SqL.of upd_same, new_ne hP2 hL, (by show 0 < 5; decide), (by show 5 ≤ 1000; decide), fun H3 m v b3 hP3 hm => ?_⟩
      have hv : ∃ g : Int, v = .int g ∧ 1 ≤ g ∧ g ≤ wideN := by
        match m, hm with
        | 0, hm => exact ⟨1, (Option.some.inj hm).symm, by decide +kernel, by decide +kernel⟩
        | 1, hm => exact ⟨3, (Option.some.inj hm).symm, by decide +kernel, by decide +kernel⟩
        | 2, hm => exact ⟨20, (Option.some.inj hm).symm, by decide +kernel, by decide +kernel⟩
        | 3, hm => exact ⟨(10 : Int) ^ (6 : Int).toNat, (Option.some.inj hm).symm, by decide +kernel, by decide +kernel⟩
        | 4, hm => exact ⟨(10 : Int) ^ (30 : Int).toNat, (Option.some.inj hm).symm, by decide +kernel, by decide +kernel⟩
        | m + 5, hm => exact absurd hm (by simp)
      obtain ⟨g, rfl, g1, gN⟩ := hv
      refine ⟨p, _, b, z, mo + 1, g, rfl, hP3, by omega, hl, b2, b9, by omega, by omega, g1, gN, fun H4 t M b4 hP4 nt r sd e1 e2 => ?_⟩
      exact q H4 t _ M (b1.trans (b2'.trans ((But.of xL).trans (b3.trans b4)))) (hP4.mono (by omega)) nt r sd e1 e2
    · refine ⟨_, rfl, _, rfl, _, rfl, _, rfl, _, rfl, p, _, b, z, mo, wi, rfl, hP2, by omega, hl, b2, b9, m1, m4, w1, w20, fun H3 t M b3 hP3 nt r sd e1 e2 => ?_⟩
      exact q H3 t _ M (b1.trans (b2'.trans b3)) (hP3.mono (by omega)) nt r sd e1 e2
end
end My
/-! ### rules for the looks at data -/
namespace My
open PySem PySem.Spec PyProof.Rows L2
/-! isinstance of data -/
theorem Rp.tyx {K : PySem.W.Frag} {H : Hp} {x : V} {d : PyData} (h : Rp K H x d) : TyX K H x (.type (kindOf d)) := by
  cases h with
  | non => exact .base .non
  | bl => exact .base (.bl _)
  | int => exact .base (.int _)
  | str => exact .base (.str _)
  | lst h1 _ =>
    rcases h1 with (z | ⟨o, z⟩) | ⟨o, its, n, z, c, _⟩
    · exact .base (.lst z)
    · exact .base (.frz z)
    · exact .kList z c
  | tup h1 _ =>
    rcases h1 with (z | ⟨o, z⟩) | ⟨o, its, n, z, c, _⟩
    · exact .base (.tup z)
    · exact .fTuple z
    · exact .kTuple z c
  | dct h1 => exact .base (.dK h1)
def isInt : PyData → Bool
  | .bool _ => true
  | .int _ => true
  | _ => false
theorem kit_int {K : PySem.W.Frag} (d : PyData) : PySem.W.kitOne K (.type (kindOf d)) (.type "int") = some (isInt d) := by
  cases d with
  | none => exact kit_ty (by decide +kernel : L2.kitB "NoneType" "int" = some false)
  | bool _ => exact kit_ty (by decide +kernel : L2.kitB "bool" "int" = some true)
  | int _ => exact kit_ty (by decide +kernel : L2.kitB "int" "int" = some true)
  | str _ => exact kit_ty (by decide +kernel : L2.kitB "str" "int" = some false)
  | list _ => exact kit_ty (by decide +kernel : L2.kitB "list" "int" = some false)
  | tuple _ => exact kit_ty (by decide +kernel : L2.kitB "tuple" "int" = some false)
  | dict _ => exact kit_ty (by decide +kernel : L2.kitB "dict" "int" = some false)
def isBool : PyData → Bool
  | .bool _ => true
  | _ => false
theorem kit_bool {K : PySem.W.Frag} (d : PyData) : PySem.W.kitOne K (.type (kindOf d)) (.type "bool") = some (isBool d) := by
  cases d with
  | none => exact kit_ty (by decide +kernel : L2.kitB "NoneType" "bool" = some false)
  | bool _ => exact kit_ty (by decide +kernel : L2.kitB "bool" "bool" = some true)
  | int _ => exact kit_ty (by decide +kernel : L2.kitB "int" "bool" = some false)
  | str _ => exact kit_ty (by decide +kernel : L2.kitB "str" "bool" = some false)
  | list _ => exact kit_ty (by decide +kernel : L2.kitB "list" "bool" = some false)
  | tuple _ => exact kit_ty (by decide +kernel : L2.kitB "tuple" "bool" = some false)
  | dict _ => exact kit_ty (by decide +kernel : L2.kitB "dict" "bool" = some false)
def isStr : PyData → Bool
  | .str _ => true
  | _ => false
theorem kit_str {K : PySem.W.Frag} (d : PyData) : PySem.W.kitOne K (.type (kindOf d)) (.type "str") = some (isStr d) := by
  cases d with
  | none => exact kit_ty (by decide +kernel : L2.kitB "NoneType" "str" = some false)
  | bool _ => exact kit_ty (by decide +kernel : L2.kitB "bool" "str" = some false)
  | int _ => exact kit_ty (by decide +kernel : L2.kitB "int" "str" = some false)
  | str _ => exact kit_ty (by decide +kernel : L2.kitB "str" "str" = some true)
  | list _ => exact kit_ty (by decide +kernel : L2.kitB "list" "str" = some false)
  | tuple _ => exact kit_ty (by decide +kernel : L2.kitB "tuple" "str" = some false)
  | dict _ => exact kit_ty (by decide +kernel : L2.kitB "dict" "str" = some false)
def isTup : PyData → Bool
  | .tuple _ => true
  | _ => false
theorem kit_tuple {K : PySem.W.Frag} (d : PyData) : PySem.W.kitOne K (.type (kindOf d)) (.type "tuple") = some (isTup d) := by
  cases d with
  | none => exact kit_ty (by decide +kernel : L2.kitB "NoneType" "tuple" = some false)
  | bool _ => exact kit_ty (by decide +kernel : L2.kitB "bool" "tuple" = some false)
  | int _ => exact kit_ty (by decide +kernel : L2.kitB "int" "tuple" = some false)
  | str _ => exact kit_ty (by decide +kernel : L2.kitB "str" "tuple" = some false)
  | list _ => exact kit_ty (by decide +kernel : L2.kitB "list" "tuple" = some false)
  | tuple _ => exact kit_ty (by decide +kernel : L2.kitB "tuple" "tuple" = some true)
  | dict _ => exact kit_ty (by decide +kernel : L2.kitB "dict" "tuple" = some false)
def isLst : PyData → Bool
  | .list _ => true
  | _ => false
theorem kit_list {K : PySem.W.Frag} (d : PyData) : PySem.W.kitOne K (.type (kindOf d)) (.type "list") = some (isLst d) := by
  cases d with
  | none => exact kit_ty (by decide +kernel : L2.kitB "NoneType" "list" = some false)
  | bool _ => exact kit_ty (by decide +kernel : L2.kitB "bool" "list" = some false)
  | int _ => exact kit_ty (by decide +kernel : L2.kitB "int" "list" = some false)
  | str _ => exact kit_ty (by decide +kernel : L2.kitB "str" "list" = some false)
  | list _ => exact kit_ty (by decide +kernel : L2.kitB "list" "list" = some true)
  | tuple _ => exact kit_ty (by decide +kernel : L2.kitB "tuple" "list" = some false)
  | dict _ => exact kit_ty (by decide +kernel : L2.kitB "dict" "list" = some false)
def isDct : PyData → Bool
  | .dict _ => true
  | _ => false
theorem kit_dict {K : PySem.W.Frag} (d : PyData) : PySem.W.kitOne K (.type (kindOf d)) (.type "dict") = some (isDct d) := by
  cases d with
  | none => exact kit_ty (by decide +kernel : L2.kitB "NoneType" "dict" = some false)
  | bool _ => exact kit_ty (by decide +kernel : L2.kitB "bool" "dict" = some false)
  | int _ => exact kit_ty (by decide +kernel : L2.kitB "int" "dict" = some false)
  | str _ => exact kit_ty (by decide +kernel : L2.kitB "str" "dict" = some false)
  | list _ => exact kit_ty (by decide +kernel : L2.kitB "list" "dict" = some false)
  | tuple _ => exact kit_ty (by decide +kernel : L2.kitB "tuple" "dict" = some false)
  | dict _ => exact kit_ty (by decide +kernel : L2.kitB "dict" "dict" = some true)
/-! x in t, t a tuple of data -/
theorem op_inTD {X : Cx} (hu : X.A.units + 65 < cLine) : OpR X (compareOp .In) (fun x y H Q => ∃ d ds, Dp X.K H x d ∧ Dp X.K H y (.tuple ds) ∧ SeqAt.shaped d = true ∧ SeqAt.shaped (.tuple ds) = true ∧ Q (.bl (ds.any fun z => PyData.eqv z d)) H) := by
  intro pins s σ H x y v u Q I rx ry h
  obtain ⟨d, ds, hd, he, sd, se, q⟩ := h
  obtain ⟨as, r1⟩ := Dp.reads I d x v hd rx
  obtain ⟨bs, r2⟩ := Dp.reads I (.tuple ds) y u he ry
  exact SeqAt.in_tuple_reads r2 r1 (SeqAt.canLay_of_shaped se) (SeqAt.canLay_of_shaped sd) (room_in_shaped sd hu) ⟨.bl _, H, I, rfl, q⟩
/-! len(set(xs)), xs a list of ints -/
def kinds (ns : List Int) : Nat → List Int := PyProof.Rows.firstMet fun i => ns.getD i 0
def tLenSetN (K : PySem.W.Frag) (ta : TE) : TE := fun σ H Q => ta σ H fun x H1 => ∃ (l : Addr) (ns : List Int), x = .ref l ∧ SqL K H1 l (ns.map V.int) ∧ ns.length ≤ 4000 ∧ Q (.int ((kinds ns ns.length).length : Nat)) H1
theorem pe_lenSetN {X : Cx} {a : Expr} {ta : TE} {p p2 q pos : Pos} (hg : Gl X "len") (hm : X.mg "len" = none) (hg2 : Gl X "set") (hm2 : X.mg "set" = none) (ha : PE X a ta) (hc : X.calm = true := by rfl)
    (na : starEach [a] X.env = (false, eval a X.env) :: starEach [] X.env := by rfl) : PE X (.Call (.Name "len" p) [.Call (.Name "set" p2) [a] [] q] [] pos) (tLenSetN X.K ta) := by
  refine ⟨fun pins s σ H Q I h => ?_⟩
  refine Call_ (ld_blt I hg hm boot_len (PyProof.Rows.callWith_builtin1 (PyProof.Rows.args_cons ?_ rfl) rfl rfl))
  refine Call_ (ld_blt I hg2 hm2 boot_set (PyProof.Rows.callWith_type1 (PyProof.Rows.args_cons (thn (ha.run pins s σ H _ I h) fun v s1 z => PyProof.Rows.args_nil ?_) na) na rfl))
  obtain ⟨x, H1, J, r1, l, ns, rfl, hq, hl, q1⟩ := z
  cases r1
  obtain ⟨its, r, pl, hz⟩ := J.list hq
  have same : its.toArray.size = ns.length := by rw [List.size_toArray, ← r.length, List.length_map]
  refine call_set_list (J.ok.hd hc) pl.isList (by simpa using RZ.intsAre_vals r) (by rw [same]; unfold scanBound; omega) fun h' tk hS hk => PyProof.Rows.args_nil ?_
  rw [same] at hS
  obtain ⟨o, es, ep, t, ho, hex, hd, _, _, _, hf, hn⟩ := hS
  have J2 : Inv X pins σ H1 { s1 with heap := h', toks := tk } := J.kept fun b o e => hk b o (Heap.lt_size e) e
  have few : (kinds ns ns.length).length ≤ ns.length := PyProof.Rows.firstMet_length_le (fun i => ns.getD i 0) ns.length
  have hn2 : es.size = (kinds ns ns.length).length := hn
  refine call_len_set ho hex hd hf (by omega) ⟨.int (kinds ns ns.length).length, H1, J2.tok _, ⟨_, by rw [hn2]⟩, q1⟩
/-- as many as there are: none is twice -/
theorem kinds_at {ns : List Int} : ∀ i, i ≤ ns.length → ((kinds ns i).length = i ↔ (ns.take i).Nodup)
  | 0, _ => by simp [kinds, PyProof.Rows.firstMet_zero]
  | i + 1, hi => by
    have ih := @kinds_at ns i (by omega)
    have le : (kinds ns i).length ≤ i := PyProof.Rows.firstMet_length_le (fun i => ns.getD i 0) i
    have hx : ns.getD i 0 = ns[i] := by
      rw [List.getD_eq_getElem?_getD, List.getElem?_eq_getElem (show i < ns.length by omega)]
      rfl
    have pre : (List.range i).map (fun i => ns.getD i 0) = ns.take i := by
      refine List.ext_getElem (by simp; omega) fun j h1 h2 => ?_
      have hj : j < ns.length := by
        rw [List.length_map, List.length_range] at h1
        omega
      rw [List.getElem_map, List.getElem_range, List.getElem_take, List.getD_eq_getElem?_getD, List.getElem?_eq_getElem hj]
      rfl
    have any : (kinds ns i).any (· == ns[i]) = (ns.take i).any (· == ns[i]) := by
      have := PyProof.Rows.firstMet_any (fun i => ns.getD i 0) i ns[i]
      rw [pre] at this
      exact this
    have len : (kinds ns (i + 1)).length = if (kinds ns i).any (· == ns[i]) = true then (kinds ns i).length else (kinds ns i).length + 1 := by
      have e : kinds ns (i + 1) = PyProof.Rows.step_dedup (kinds ns i) (ns.getD i 0) := PyProof.Rows.firstMet_succ (fun i => ns.getD i 0) i
      rw [e, PyProof.Rows.step_length, hx]
    rw [len, any, List.take_succ, List.getElem?_eq_getElem (show i < ns.length by omega)]
    have mem : (ns.take i).any (· == ns[i]) = true ↔ ns[i] ∈ ns.take i := by
      rw [List.any_eq_true]
      constructor
      · rintro ⟨x, hx, e⟩
        rw [beq_iff_eq] at e
        rw [← e]
        exact hx
      · exact fun h => ⟨_, h, beq_self_eq_true _⟩
    have nd : (ns.take i ++ [ns[i]]).Nodup ↔ (ns.take i).Nodup ∧ ¬ ns[i] ∈ ns.take i := by
      rw [List.nodup_append]
      constructor
      · rintro ⟨h1, _, h3⟩
        exact ⟨h1, fun h => h3 _ h _ (List.mem_singleton.mpr rfl) rfl⟩
      · rintro ⟨h1, h2⟩
        refine ⟨h1, by simp, fun a ha b hb e => h2 ?_⟩
        rw [List.mem_singleton.mp hb] at e
        rw [← e]
        exact ha
    show _ ↔ (ns.take i ++ [ns[i]]).Nodup
    rw [nd]
    by_cases h : (ns.take i).any (· == ns[i]) = true
    · rw [if_pos h]
      exact ⟨fun e => by omega, fun e => absurd (mem.mp h) e.2⟩
    · rw [if_neg h]
      have h2 : ¬ ns[i] ∈ ns.take i := fun m => h (mem.mpr m)
      exact ⟨fun e => ⟨ih.mp (by omega), h2⟩, fun e => by rw [ih.mpr e.1]⟩
theorem kinds_all {ns : List Int} : (kinds ns ns.length).length = ns.length ↔ ns.Nodup := by
  have h := kinds_at (ns := ns) ns.length (Nat.le_refl _)
  rw [List.take_length] at h
  exact h
/-! one sign found in the alphabet -/
theorem find_abc (c : Nat) : Txt.find abc ⟨#[c]⟩ = if 97 ≤ c ∧ c ≤ 122 then ((c - 97 : Nat) : Int) else -1 := by
  have there : ∀ n : Nat, n < 26 → Txt.find abc ⟨#[97 + n]⟩ = (n : Int) := by decide +kernel
  by_cases h : 97 ≤ c ∧ c ≤ 122
  · rw [if_pos h]
    have := there (c - 97) (by omega)
    rw [show 97 + (c - 97) = c by omega] at this
    exact this
  · rw [if_neg h]
    have ll : ∀ x ∈ abc.cps.toList, 97 ≤ x ∧ x ≤ 122 := by decide +kernel
    have e := PySem.StrLaws.found_one abc c
    rw [decide_eq_false (fun m => h (ll c m))] at e
    unfold Txt.find
    cases q : Builtin.Str.occurrences abc ⟨#[c]⟩ 0 abc.length 1 with
    | nil => rfl
    | cons a b =>
      rw [q] at e
      cases e
end My
/-! ### the law's own looks at machines: pairs, pays -/
namespace My
open PySem PySem.Spec PyProof.Rows L2 PySem.Builtin.Str
abbrev sXPairs : Stmt := topS 53
theorem scXPairs : FnScope ["machine", "state", "at", "choice"] ["machine", "state", "at"] (defScope sXPairs) := ⟨rfl, rfl, rfl, by decide +kernel, rfl, by decide +kernel, by decide +kernel⟩
abbrev sXPays : Stmt := topS 54
theorem scXPays : FnScope ["machine", "pays", "state", "at", "pay", "after"] ["machine"] (defScope sXPays) := ⟨rfl, rfl, rfl, by decide +kernel, rfl, by decide +kernel, by decide +kernel⟩
structure Lf1 (K : PySem.W.Frag) (mg : Str → Option Value) (x1 x2 : Addr) (y1 y2 : FuncData) : Prop where
  isi : mg "isinstance" = none
  tuple : mg "tuple" = none
  list : mg "list" = none
  range : mg "range" = none
  len : mg "len" = none
  min : mg "min" = none
  max : mg "max" = none
  FXPairs : Fun K "_law_x_pairs" "_law_x_pairs" sXPairs x1 y1
  bXPairs : Binds K y1 ["machine", "state", "at"] []
  gXPairs : mg "_law_x_pairs" = some (.ref x1)
  FXPays : Fun K "_law_x_pays" "_law_x_pays" sXPays x2 y2
  bXPays : Binds K y2 ["machine"] []
  gXPays : mg "_law_x_pays" = some (.ref x2)
theorem pgT {X : Cx} {K : PySem.W.Frag} {es : List Expr} {k : Nat} {pos : Pos} {t : TGs} {n : Nat} (e : X.K = K) (hc : X.calm = true) (h : PGs X es t)
    (hn : (assignEach es X.env).length = n := by rfl) (hst : (assignEach es X.env).findIdx? (·.1) = none := by rfl) : PG X (.Tuple es k pos) (gTup K n t) := by
  subst e
  exact pg_tup hc h hn hst
def spPairs (K : PySem.W.Frag) : Sp := fun vs H Q _ => ∃ (x : V) (d : PyData) (M : Mc) (s : Int) (at_ : Nat), vs = [x, .int s, .int (at_ : Nat)] ∧ Rp K H x d ∧ Side d M ∧ 0 ≤ s ∧ s ≤ (M.C.length : Int) - 1 ∧ at_ < M.z.length ∧
  ∀ H' l zs, Same H H' → H l = none → H' l = some (.lst zs) → RpAll K H' zs ((chP M at_ s).map eP) → Q (.ref l) H'
def spPays (K : PySem.W.Frag) : Sp := fun vs H Q _ => ∃ (x : V) (d : PyData) (M : Mc), vs = [x] ∧ Rp K H x d ∧ Side d M ∧
  ∀ H' t, Same H H' → H t = none → H' t = some (.tup [.int (minL (paysL M)), .int (maxL (paysL M))]) → Q (.ref t) H'
theorem tO_fC (ps : List (Int × Int)) : tO (fC ps) = true := tO_eP _
theorem tO_fS (cs : List (List (Int × Int))) : tO (fS cs) = true := by
  rw [fS, tO]
  exact tOs_map tO_fC cs
theorem tO_fM (M : Mc) : tO (fM M) = true := by
  simp only [fM, tO, tOs, Bool.true_and, Bool.and_true]
  exact tOs_map tO_fS M.C
theorem side_tO {d : PyData} {M : Mc} (h : Side d M) : tO d = true := by
  rcases h.2 with ⟨rfl, _⟩ | ⟨rfl, _⟩
  · exact tO_eM M
  · exact tO_fM M
/-- what stands at the top of a side -/
theorem side_top {K : PySem.W.Frag} {H : Hp} {x : V} {d : PyData} {M : Mc} (h : Side d M) (hx : Rp K H x d) : ∃ a sa xs, x = .ref a ∧ SqT K H a [.int M.b, .str M.z, .ref sa] ∧ SqT K H sa xs ∧ xs.length = M.C.length ∧
    ((d = eM M ∧ RpAll K H xs (M.C.map eS)) ∨ (d = fM M ∧ (∀ cs ∈ M.C, ∀ ps ∈ cs, ps.length = 1) ∧ RpAll K H xs (M.C.map fS))) := by
  rcases h.2 with ⟨rfl, _⟩ | ⟨rfl, _, _, _, one⟩
  · obtain ⟨a, w3, rfl, hS, hC⟩ := hx.three
    obtain ⟨sa, xs, rfl, hS2, hA⟩ := hC.isTup
    exact ⟨a, sa, xs, rfl, hS, hS2, by rw [hA.len, List.length_map], .inl ⟨rfl, hA⟩⟩
  · obtain ⟨a, w3, rfl, hS, hC⟩ := hx.three
    obtain ⟨sa, xs, rfl, hS2, hA⟩ := hC.isTup
    exact ⟨a, sa, xs, rfl, hS, hS2, by rw [hA.len, List.length_map], .inr ⟨rfl, one, hA⟩⟩
/-- a plain machine's pair -/
theorem pl_at {K : PySem.W.Frag} {H : Hp} {xs : List V} {M : Mc} (hM : Mok M) (one : ∀ cs ∈ M.C, ∀ ps ∈ cs, ps.length = 1) (hA : RpAll K H xs (M.C.map fS)) {s : Int} {at_ : Nat} (s0 : 0 ≤ s) (s1 : s ≤ (M.C.length : Int) - 1) (ha : at_ < M.z.length) :
    ∃ ra ys v p, atI xs s = some (.ref ra) ∧ SqT K H ra ys ∧ atI ys (at_ : Int) = some v ∧ Rp K H v (eP p) ∧ chP M at_ s = [p] := by
  have hs : s.toNat < M.C.length := by omega
  obtain ⟨u, hu, r1⟩ := rpAll_get hA (List.getElem?_eq_getElem hs)
  obtain ⟨ra, ys, rfl, hS3, hA3⟩ := r1.isTup
  have ha2 : at_ < M.C[s.toNat].length := by rw [hM.row _ (List.getElem_mem hs)]; exact ha
  obtain ⟨u2, hu2, r2⟩ := rpAll_get hA3 (List.getElem?_eq_getElem ha2)
  have es : ((s.toNat : Nat) : Int) = s := by omega
  have e2 : chP M at_ s = M.C[s.toNat][at_] := by
    unfold chP
    rw [List.getD_eq_getElem?_getD (l := M.C), List.getElem?_eq_getElem hs, Option.getD_some, List.getD_eq_getElem?_getD, List.getElem?_eq_getElem ha2]
    rfl
  have l1 := one _ (List.getElem_mem hs) _ (List.getElem_mem ha2)
  obtain ⟨p, hp⟩ : ∃ p, M.C[s.toNat][at_] = [p] := List.length_eq_one_iff.mp l1
  refine ⟨ra, ys, u2, p, es ▸ atI_nat hu, hS3, atI_nat hu2, ?_, e2.trans hp⟩
  have : fC M.C[s.toNat][at_] = eP p := by rw [hp]; rfl
  rw [← this]
  exact r2
section
variable {P : Program} {w : World} {K : PySem.W.Frag} {mg : Str → Option Value} {base : Heap} {x1 x2 : Addr} {y1 y2 : FuncData}
theorem ok_xPairs (T : Lf1 K mg x1 x2 y1 y2) {k : Nat} : FnOk P w K mg base CX0 (k + 1) x1 y1 ["machine", "state", "at"] (spPairs K) := by
  refine T.FXPairs.ok scXPairs (fun vs H Q E h => ?_) (fun cdv A outer s H vs Q E hr h => ?_)
  · obtain ⟨x, d, M, s, at_, rfl, _⟩ := h
    rfl
  · obtain ⟨x, d, M, s, at_, rfl, hx, hsd, s0, s1, ha, q⟩ := h
    refine ⟨_, (Evl.pss_cut (ps_set (i := 3) scXPairs.nd rfl (.inl rfl) (pe_ix ix_tup (pe_ix ix_tup (pe_ix ix_tup (pv 0) pe_int (fun _ _ => rfl)) (pv 1) (fun _ _ => rfl)) (pv 2) (fun _ _ => rfl)))
 (pss_one (ps_ret (pe_ifExp (pt_val (pe_callB call_isi (by rfl) T.isi (by decide +kernel) (pa_cons (pe_ix ix_tup (pv 3) pe_int (fun _ _ => rfl)) (pa_cons (pe_bltn (v := .ty "tuple") (by rfl) T.tuple (by decide +kernel) rfl) pa_nil)))) (pe_callTy call_list_of (by rfl) T.list (by decide +kernel) (pa_cons (pv 3) pa_nil)) (pe_lst (pa_cons (pv 3) pa_nil)))))), ?_⟩
    have hM := hsd.1.ok
    obtain ⟨a, sa, xs, rfl, hS, hS2, lx, hd⟩ := side_top hsd hx
    rcases hd with ⟨rfl, hA⟩ | ⟨rfl, one, hA⟩
    · obtain ⟨ra, ys, ca, zs, e1, hS3, e2, hS4, hA4⟩ := ch_at hM hA s0 s1 ha
      obtain ⟨p0, hp0⟩ := ch_some hM s0 s1 ha
      obtain ⟨z0, zr, ez⟩ : ∃ z0 zr, zs = z0 :: zr := by
        cases e : zs with
        | nil =>
          have := hA4.len
          rw [e, List.length_map, List.length_nil] at this
          have := List.length_pos_of_mem hp0
          omega
        | cons z0 zr => exact ⟨z0, zr, rfl⟩
      obtain ⟨q0, hq0, rq⟩ := rpAll_back hA4 (i := 0) (v := z0) (by rw [ez]; rfl)
      refine ⟨fun σ H1 => σ = [some (.ref a), some (.int s), some (.int (at_ : Nat)), some (.ref ca)] ∧ H1 = H, ?_, ?_⟩
      · exact ⟨_, rfl, a, _, 2, _, rfl, rfl, hS, rfl, _, rfl, sa, xs, s, _, rfl, rfl, hS2, e1, _, rfl, ra, ys, _, _, rfl, rfl, hS3, e2, rfl, rfl⟩
      rintro σ H1 ⟨rfl, rfl⟩
      refine ⟨_, rfl, ca, zs, 0, z0, rfl, rfl, hS4, (by rw [ez]; exact atI_nat (j := 0) rfl), z0, _, _, _, _, rfl, .ty _, rq.tyx, kit_tuple _, _, rfl, ?_⟩
      refine iteT ⟨_, rfl, ca, zs, rfl, .inr hS4, fun l hl => ?_⟩
      exact q _ l zs (same_upd hl) hl upd_same (goP (ts_same (same_upd hl)) hA4)
    · obtain ⟨ra, ys, v, p, e1, hS3, e2, rv, ec⟩ := pl_at hM one hA s0 s1 ha
      obtain ⟨pa, rfl, hS5⟩ := rv.pair
      refine ⟨fun σ H1 => σ = [some (.ref a), some (.int s), some (.int (at_ : Nat)), some (.ref pa)] ∧ H1 = H, ?_, ?_⟩
      · exact ⟨_, rfl, a, _, 2, _, rfl, rfl, hS, rfl, _, rfl, sa, xs, s, _, rfl, rfl, hS2, e1, _, rfl, ra, ys, _, _, rfl, rfl, hS3, e2, rfl, rfl⟩
      rintro σ H1 ⟨rfl, rfl⟩
      refine ⟨_, rfl, pa, _, 0, _, rfl, rfl, hS5, rfl, _, _, _, _, _, rfl, .ty _, (Rp.int (K := K) (H := H1) p.1).tyx, kit_tuple _, _, rfl, ?_⟩
      refine iteF ⟨_, rfl, (by show 1 ≤ sizeLine; decide), fun l hl => ?_⟩
      refine q _ l _ (same_upd hl) hl upd_same ?_
      rw [ec]
      exact .cons (rp_ts (ts_same (same_upd hl)) rv (tO_eP p)) .nil
theorem ok_xPays (T : Lf1 K mg x1 x2 y1 y2) {k : Nat} : FnOk P w K mg base CX0 (k + 2) x2 y2 ["machine"] (spPays K) := by
  have GP : FnOk P w K mg base CX0 (k + 1) x1 y1 ["machine", "state", "at"] (spPairs K) := ok_xPairs T
  refine T.FXPays.ok scXPays (fun vs H Q E h => ?_) (fun cdv A outer s H vs Q E hr h => ?_)
  · obtain ⟨x, d, M, rfl, _⟩ := h
    rfl
  · obtain ⟨x, d, M, rfl, hx, hsd, q⟩ := h
    refine ⟨_, (Evl.pss_cut (ps_set (i := 1) scXPays.nd rfl (.inl rfl) (pe_lst pa_nil))
 (Evl.pss_cut (ps_for PassesOwn.never rfl (pi_range1 (by rfl) T.range (pa_cons (pe_callB call_len_seq (by rfl) T.len PySem.boot_len (pa_cons (pe_ix ix_tup (pv 0) pe_int (fun _ _ => rfl)) pa_nil)) pa_nil)) (pg_name (i := 2) scXPays.nd rfl (.inl rfl))
 (pss_one (ps_for PassesOwn.never rfl (pi_range1 (by rfl) T.range (pa_cons (pe_callB call_len_str (by rfl) T.len PySem.boot_len (pa_cons (pe_ix ix_tup (pv 0) pe_int (fun _ _ => rfl)) pa_nil)) pa_nil)) (pg_name (i := 3) scXPays.nd rfl (.inl rfl))
 (pss_one (ps_set (i := 1) scXPays.nd rfl (.inl rfl) (pe_op op_cat (pv 1) (pe_lc (own := [("pay", 4), ("after", 5)]) (g := gTup K 2 (gCons (gName 4) (gCons (gName 5) gNil))) (tt := tYes) (by rfl) scXPays.nd (pi_list (pe_call GP hr (by rfl) T.gXPairs T.FXPairs.kp T.bXPairs .nil pass0 (pa_cons (pv 0) (pa_cons (pv 2) (pa_cons (pv 3) pa_nil))))) (blkOk_by (N := ["machine", "pays", "state", "at", "pay", "after"]) (sc := defScope sXPays) (by decide +kernel)) (fun _ _ _ _ _ => pgT (K := K) rfl rfl (pgs_cons (pg_name (i := 4) scXPays.nd rfl (Or.inl rfl)) (pgs_cons (pg_name (i := 5) scXPays.nd rfl (Or.inl rfl)) pgs_nil))) (fun _ _ _ _ _ => pts_nil) (fun _ _ _ _ _ => (pv 4)))))))))
 (pss_one (ps_ret (pe_tup (pa_cons (pe_callB (cr_min rfl) (by rfl) T.min (by decide +kernel) (pa_cons (pv 1) pa_nil)) (pa_cons (pe_callB (cr_max rfl) (by rfl) T.max (by decide +kernel) (pa_cons (pv 1) pa_nil)) pa_nil))))))), ?_⟩
    have hM := hsd.1.ok
    obtain ⟨a, sa, xs, rfl, hS, hS2, lx, hd⟩ := side_top hsd hx
    have lz := ltr_pos hM.ltr
    have lc := hM.c1
    have lc5 := hsd.1.few
    have zsl : M.z.length ≤ sizeLine := Nat.le_trans lz.2 (by decide)
    have big : ∀ (i j : Nat) (cs : List (List (Int × Int))), M.C[i]? = some cs → ((M.C.take i).flatMap fun cs => cs.flatMap fun ps => ps.map (·.1)).length + ((cs.take j).flatMap fun ps => ps.map (·.1)).length ≤ 2000 := fun i j cs hcs => by
      have f1 : ∀ cs ∈ M.C, ∀ l : List (List (Int × Int)), (∀ q ∈ l, q ∈ cs) → (l.flatMap fun ps => ps.map (·.1)).length ≤ 3 * l.length := fun cs hcs l hl => flat_len l fun ps hps => by
        rw [List.length_map]
        exact (hM.ch cs hcs ps (hl ps hps)).2
      have f2 := flat_len (g := fun cs : List (List (Int × Int)) => cs.flatMap fun ps => ps.map (·.1)) (n := 9) (M.C.take i) fun cs hcs => by
        have h1 := f1 cs (List.mem_of_mem_take hcs) cs fun _ z => z
        have h2 := hM.row cs (List.mem_of_mem_take hcs)
        omega
      have mcs := List.mem_of_getElem? hcs
      have f3 := f1 cs mcs (cs.take j) fun q hq => List.mem_of_mem_take hq
      have f5 := hM.row cs mcs
      have g1 := List.length_take_le' i M.C
      have g2 := List.length_take_le' j cs
      omega
    refine ⟨fun σ H1 => ∃ l, σ = [some (.ref a), some (.ref l), none, none, none, none] ∧ Same H H1 ∧ H1 l = some (.lst []), ?_, ?_⟩
    · exact ⟨(by show 0 ≤ sizeLine; decide), fun l hl => ⟨l, rfl, same_upd hl, upd_same⟩⟩
    rintro σ H1 ⟨l0, rfl, s1, hl0⟩
    refine ⟨fun σ H2 => ∃ l v2 v3, σ = [some (.ref a), some (.ref l), v2, v3, none, none] ∧ Same H H2 ∧ H2 l = some (.lst ((paysL M).map V.int)), ?_, ?_⟩
    · refine ⟨_, rfl, a, _, 2, _, rfl, rfl, same_tup s1 hS, rfl, sa, xs, rfl, .inr (same_tup s1 hS2), _, rfl, by omega, by omega, ?_⟩
      refine for_range (lo := 0) (n := (xs.length : Int).toNat) (fun i σ H2 => ∃ l v2 v3, σ = [some (.ref a), some (.ref l), v2, v3, none, none] ∧ Same H H2 ∧ H2 l = some (.lst (((M.C.take i).flatMap fun cs => cs.flatMap fun ps => ps.map (·.1)).map V.int))) ⟨l0, none, none, rfl, s1, hl0⟩ ?_ ?_
      · rintro i σ H2 hi ⟨l, v2, v3, rfl, s2, hl⟩
        have hi2 : i < M.C.length := by omega
        have hcs : M.C[i]? = some M.C[i] := List.getElem?_eq_getElem hi2
        have row := hM.row _ (List.getElem_mem hi2)
        generalize M.C[i] = cs at hcs row
        refine ⟨_, rfl, a, _, 1, _, rfl, rfl, same_tup s2 hS, rfl, M.z, rfl, zsl, _, rfl, by omega, by omega, ?_⟩
        refine for_range (lo := 0) (n := (M.z.length : Int).toNat) (fun j σ H3 => ∃ l v3, σ = [some (.ref a), some (.ref l), some (.int (0 + (i : Int))), v3, none, none] ∧ Same H H3 ∧ H3 l = some (.lst ((((M.C.take i).flatMap fun cs => cs.flatMap fun ps => ps.map (·.1)) ++ ((cs.take j).flatMap fun ps => ps.map (·.1))).map V.int))) ⟨l, v3, rfl, s2, by rw [hl]; simp⟩ ?_ ?_
        · rintro j σ H3 hj ⟨l, v3, rfl, s3, hl⟩
          have hj2 : j < M.z.length := by omega
          have hps : cs[j]? = some (cs[j]'(by omega)) := List.getElem?_eq_getElem _
          have ec : chP M j (0 + (i : Int)) = cs[j]'(by omega) := by
            unfold chP
            rw [show (0 + (i : Int)).toNat = i by omega, List.getD_eq_getElem?_getD (l := M.C), hcs, Option.getD_some, List.getD_eq_getElem?_getD, hps]
            rfl
          have b1 := big i (j + 1) cs hcs
          have b0 := big i j cs hcs
          have tk := take_flat (g := fun ps : List (Int × Int) => ps.map (·.1)) hps
          have ch3 := (hM.ch cs (List.mem_of_getElem? hcs) _ (List.getElem_mem (show j < cs.length by omega))).2
          generalize cs[j]'(by omega) = ps at hps ec tk ch3
          rw [tk, List.length_append, List.length_map] at b1
          have sl : ∀ {m : Nat}, m ≤ 2000 → m < sizeLine := fun h => Nat.lt_of_le_of_lt h (by decide)
          refine ⟨_, rfl, _, rfl, _, rfl, _, rfl, .ref a, _, M, 0 + (i : Int), j, (by show [V.ref a, V.int (0 + (i : Int)), V.int (0 + (j : Int))] = [V.ref a, V.int (0 + (i : Int)), V.int (j : Int)]; rw [Int.zero_add (j : Int)]), hx.go s3, hsd, by omega, by omega, hj2, fun H4 zl zs s4 nz hz hZ => ?_⟩
          rw [ec] at hZ
          have lzs : zs.length = ps.length := by rw [hZ.len, List.length_map]
          refine ⟨zl, rfl, ⟨_, SqL.of hz⟩, fun D nD => ?_⟩
          refine lc_lstO (K := K) (xs := zs) (fun m H5 => Same H4 H5 ∧ H5 D = some (.lst ((ps.take m).map fun p => V.int p.1))) ⟨same_upd nD, upd_same⟩ (fun m H5 h => SqL.of (h.1 _ _ hz)) ?_ ?_
          · rintro m u H5 hu ⟨s5, hD⟩
            obtain ⟨p, hp, rp⟩ := rpAll_back hZ hu
            obtain ⟨pa, rfl, hSp⟩ := rp.pair
            refine ⟨pa, _, rfl, same_tup s5 hSp, rfl, _, _, rfl, _, _, rfl, rfl, rfl, _, rfl, _, hD, ?_, same_new s5 nD, ?_⟩
            · rw [List.length_map]
              have := List.length_take_le' m ps
              exact sl (by omega)
            · rw [upd_same, List.take_succ, hp, List.map_append]
              rfl
          · rintro H5 ⟨s5, hD⟩
            rw [lzs, List.take_length] at hD
            have s45 := s4.trans s5
            refine ⟨l, D, _, _, rfl, rfl, s45 _ _ hl, hD, ?_, fun N hN => ?_⟩
            · rw [List.length_map, List.length_map, List.length_append]
              exact Nat.le_of_lt (sl (by omega))
            refine ⟨N, _, rfl, (s3.trans s45).trans (same_upd hN), ?_⟩
            rw [upd_same, tk]
            simp
        · rintro σ H3 ⟨l, v3, rfl, s3, hl⟩
          refine ⟨l, _, v3, rfl, s3, ?_⟩
          have row2 := row
          rw [hl, show (M.z.length : Int).toNat = cs.length by omega, List.take_length, take_flat hcs]
      · rintro σ H2 ⟨l, v2, v3, rfl, s2, hl⟩
        refine ⟨l, v2, v3, rfl, s2, ?_⟩
        rw [hl, show (xs.length : Int).toNat = M.C.length by omega, List.take_length]
        rfl
    · rintro σ H2 ⟨l, v2, v3, rfl, s2, hl⟩
      have pos : 0 < (paysL M).length := List.length_pos_iff.mpr (pays_ne hM)
      refine ⟨_, rfl, l, _, rfl, SqL.of hl, pos, fun n hn le => ?_⟩
      refine ⟨_, rfl, l, _, rfl, SqL.of hl, pos, fun m hm ge => ⟨(by show 2 ≤ sizeLine; decide), fun t ht => ?_⟩⟩
      refine q _ t (s2.trans (same_upd ht)) (s2.free ht) ?_
      rw [upd_same, maxL_eq hm ge, minL_eq hn le]
end
end My
/-! ### the law's own step -/
namespace My
open PySem PySem.Spec PyProof.Rows L2 PySem.Builtin.Str
abbrev sXStep : Stmt := topS 55
theorem scXStep : FnScope ["machine", "pays", "lacks", "at", "base", "sums", "found", "state", "pay", "after", "most", "lack"] ["machine", "pays", "lacks", "at"] (defScope sXStep) := ⟨rfl, rfl, rfl, by decide +kernel, rfl, by decide +kernel, by decide +kernel⟩
structure Lf2 (K : PySem.W.Frag) (mg : Str → Option Value) (x1 x2 x3 : Addr) (y1 y2 y3 : FuncData) : Prop where
  f1 : Lf1 K mg x1 x2 y1 y2
  sorted : mg "sorted" = none
  FXStep : Fun K "_law_x_step" "_law_x_step" sXStep x3 y3
  bXStep : Binds K y3 ["machine", "pays", "lacks", "at"] []
  gXStep : mg "_law_x_step" = some (.ref x3)
def spStep (K : PySem.W.Frag) : Sp := fun vs H Q _ => ∃ (x : V) (d : PyData) (M : Mc) (pt dl : Addr) (D : Dk) (at_ : Nat), vs = [x, .ref pt, .ref dl, .int (at_ : Nat)] ∧ Rp K H x d ∧ Side d M ∧ SqT K H pt [.int (minL (paysL M)), .int (maxL (paysL M))] ∧ H dl = some (.dK (kd D)) ∧ Lok M D ∧ at_ < M.z.length ∧
  ∀ H' t r, Same H H' → H' t = some (.tup [.int (mostOn M at_ D), .ref r]) → H' r = some (.dK (kd (lackOn M at_ D))) → H r = none → H t = none → Q (.ref t) H'
theorem kd_mem {d : Dk} (nd : (keysI d).Nodup) {i : Nat} {s x : Int} (h : d[i]? = some (s, x)) : getI d s = some x := mem_getI nd (List.mem_of_getElem? h)
section
variable {P : Program} {w : World} {K : PySem.W.Frag} {mg : Str → Option Value} {base : Heap} {x1 x2 x3 : Addr} {y1 y2 y3 : FuncData}
theorem ok_xStep (T : Lf2 K mg x1 x2 x3 y1 y2 y3) {k : Nat} : FnOk P w K mg base CX0 (k + 2) x3 y3 ["machine", "pays", "lacks", "at"] (spStep K) := by
  have GP : FnOk P w K mg base CX0 (k + 1) x1 y1 ["machine", "state", "at"] (spPairs K) := ok_xPairs T.f1
  refine T.FXStep.ok scXStep (fun vs H Q E h => ?_) (fun cdv A outer s H vs Q E hr h => ?_)
  · obtain ⟨x, d, M, pt, dl, D, at_, rfl, _⟩ := h
    rfl
  · obtain ⟨x, d, M, pt, dl, D, at_, rfl, hx, hsd, hpt, hdl, lok, hat, q⟩ := h
    refine ⟨_, (Evl.pss_cut (ps_asg (pe_tup (pa_cons (pe_ix ix_tup (pv 0) pe_int (fun _ _ => rfl)) (pa_cons pe_dnewK (pa_cons pe_dnewK pa_nil)))) (pg_tup rfl (pgs_cons (pg_name (i := 4) scXStep.nd rfl (.inl rfl)) (pgs_cons (pg_name (i := 5) scXStep.nd rfl (.inr rfl)) (pgs_cons (pg_name (i := 6) scXStep.nd rfl (.inl rfl)) pgs_nil)))))
 (Evl.pss_cut (ps_lock (ps_for PassesOwn.never rfl (pi_keys (pv 2)) (pg_name (i := 7) scXStep.nd rfl (.inl rfl))
 (pss_one (ps_for PassesOwn.never rfl (pi_list (pe_call GP hr (by rfl) T.f1.gXPairs T.f1.FXPairs.kp T.f1.bXPairs .nil pass0 (pa_cons (pv 0) (pa_cons (pv 7) (pa_cons (pv 3) pa_nil))))) (pg_tup rfl (pgs_cons (pg_name (i := 8) scXStep.nd rfl (.inl rfl)) (pgs_cons (pg_name (i := 9) scXStep.nd rfl (.inl rfl)) pgs_nil)))
 (pss_one (ps_if (PW.pt (pw_or (pt_cmp (pc_dnotin (hu_of hr) (pv 9) (pv 5))) (pw_or1 (pt_cmpR op_lt (pe_dget (hu_of hr) (pv 5) (pv 9) (fun _ _ => rfl)) (pe_op op_sub (pv 8) (pe_dget (hu_of hr) (pv 2) (pv 7) (fun _ _ => rfl))) (nomark _))))) (pss_one (ps_dput (hu_of hr) (pv 5) (pv 9) (pe_op op_sub (pv 8) (pe_dget (hu_of hr) (pv 2) (pv 7) (fun _ _ => rfl))) rfl)) pss_nil))))))
 (Evl.pss_cut (ps_set (i := 10) scXStep.nd rfl (.inl rfl) (pe_callB (cr_max rfl) (by rfl) T.f1.max (by decide +kernel) (pa_cons (pe_lock (pe_lc (own := [("after", 9)]) (g := gName 9) (tt := tYes) (by rfl) scXStep.nd (pi_keys (pv 5)) (blkOk_by (N := ["machine", "pays", "lacks", "at", "base", "sums", "found", "state", "pay", "after", "most", "lack"]) (sc := defScope sXStep) (by decide +kernel)) (fun _ _ _ _ _ => pg_name (i := 9) scXStep.nd rfl (Or.inl rfl)) (fun _ _ _ _ _ => pts_nil) (fun _ _ _ _ _ => (pe_dget (hu_of hr) (pv 5) (pv 9) (fun _ _ => rfl))))) pa_nil)))
 (Evl.pss_cut (ps_for PassesOwn.never rfl (pi_list (pe_callB (call_sortedDI rfl) (by rfl) T.sorted (by decide +kernel) (pa_cons (pv 5) pa_nil))) (pg_name (i := 9) scXStep.nd rfl (.inl rfl))
 (Evl.pss_cut (ps_set (i := 11) scXStep.nd rfl (.inl rfl) (pe_op op_mulW (pv 4) (pe_op op_sub (pv 10) (pe_dget (hu_of hr) (pv 5) (pv 9) (fun _ _ => rfl)))))
 (pss_one (ps_if (PW.pt (pw_or (pt_cmpR op_eq (pv 11) pe_int (nomark _)) (pw_or1 (pt_cmpR op_lt (pe_op op_mulW (pv 11) (pe_op op_sub (pv 4) pe_int)) (pe_op op_mulW (pe_op op_sub (pe_ix ix_tup (pv 1) pe_int (fun _ _ => rfl)) (pe_ix ix_tup (pv 1) pe_int (fun _ _ => rfl))) (pv 4)) (nomark _))))) (pss_one (ps_dput (hu_of hr) (pv 6) (pv 9) (pv 11) rfl)) pss_nil))))
 (pss_one (ps_ret (pe_tup (pa_cons (pv 10) (pa_cons (pv 6) pa_nil))))))))), ?_⟩
    have hM := hsd.1.ok
    obtain ⟨a, sa, xs, rfl, hS, _, _, _⟩ := side_top hsd hx
    refine ⟨fun σ H2 => ∃ g f, σ = [some (.ref a), some (.ref pt), some (.ref dl), some (.int (at_ : Nat)), some (.int M.b), some (.ref g), some (.ref f), none, none, none, none, none] ∧ H g = none ∧ H f = none ∧ g ≠ f ∧ Same H H2 ∧ H2 g = some (.dK []) ∧ H2 f = some (.dK []), ?_, ?_⟩
    · refine ⟨_, rfl, a, _, 0, _, rfl, rfl, hS, rfl, fun g ng f nf => ⟨(by show 3 ≤ sizeLine; decide), fun t nt => ?_⟩⟩
      have s1 := same_upd (o := HO.dK []) ng
      have s2 := same_upd (o := HO.dK []) nf
      have s3 := same_upd (o := HO.tup [.int M.b, .ref g, .ref f]) nt
      exact ⟨t, _, rfl, SqT.of upd_same, rfl, _, _, rfl, _, _, rfl, _, _, rfl, rfl, g, f, rfl, ng, s1.free nf, ne_of_none upd_same nf, s1.trans (s2.trans s3), s3 _ _ (s2 _ _ upd_same), s3 _ _ upd_same⟩
    rintro σ H2 ⟨g, f, rfl, ng, nf, gf, s2, hg2, hf2⟩
    have hK := lok.kin
    have kg := gain_kin hM (at_ := at_) (D := D)
    have dg : dl ≠ g := ne_of_none hdl ng
    have df : dl ≠ f := ne_of_none hdl nf
    have hdl2 := s2 _ _ hdl
    refine ⟨fun σ H5 => ∃ l7 l8 l9, σ = [some (.ref a), some (.ref pt), some (.ref dl), some (.int (at_ : Nat)), some (.int M.b), some (.ref g), some (.ref f), l7, l8, l9, none, none] ∧ Same H H5 ∧ H5 g = some (.dK (kd (gainOf (chP M at_) D))) ∧ H5 f = some (.dK []), ?_, ?_⟩
    · refine ⟨dl, .dK (kd D), hdl2, trivial, fun od => ?_⟩
      refine ⟨_, rfl, dl, od, rfl, .inl ⟨kd D, upd_same, ?_⟩⟩
      -- what stands while the lacks are walked: all but the gains
      obtain ⟨Hb, hHb⟩ : ∃ Hb : Hp, Hb = fun b => if b = g then none else upd H2 dl (.frz od (.dK (kd D))) b := ⟨_, rfl⟩
      have bne : ∀ b, b ≠ g → Hb b = upd H2 dl (.frz od (.dK (kd D))) b := fun b n => by rw [hHb]; exact if_neg n
      have nb : Hb g = none := by rw [hHb]; exact if_pos rfl
      have sb : Same Hb (upd H2 dl (.frz od (.dK (kd D)))) := fun b o e => by
        rw [← bne b (fun z => by rw [z, nb] at e; cases e)]
        exact e
      have hbr : Hb dl = some (.frz od (.dK (kd D))) := by rw [bne _ dg]; exact upd_same
      have hbf : Hb f = some (.dK []) := by rw [bne _ gf.symm, upd_ne df.symm]; exact hf2
      have old : ∀ b o, b ≠ dl → H b = some o → Hb b = some o := fun b o n e => by
        rw [bne b (fun z => by rw [z, ng] at e; cases e), upd_ne n]
        exact s2 _ _ e
      have tb : TStay K H Hb := fun b ys e => by
        rcases e with (e | ⟨u, e⟩) | e
        · exact .inl (.inl (old _ _ (fun z => by rw [z, hdl] at e; cases e) e))
        · exact .inl (.inr ⟨u, old _ _ (fun z => by rw [z, hdl] at e; cases e) e⟩)
        · exact .inr e
      have back : ∀ H5, Same Hb H5 → Same H (upd H5 dl (.dK (kd D))) := fun H5 s5 b o e => by
        by_cases z : b = dl
        · rw [z, upd_same, ← hdl, ← z, e]
        · rw [upd_ne z]
          exact s5 _ _ (old b o z e)
      refine for_it walk_keys (fun i σ H5 => ∃ l7 l8 l9, σ = [some (.ref a), some (.ref pt), some (.ref dl), some (.int (at_ : Nat)), some (.int M.b), some (.ref g), some (.ref f), l7, l8, l9, none, none] ∧ Same Hb H5 ∧ H5 g = some (.dK (kd (bestOn (chP M at_) (fun v p => p - v) (D.take i) [])))) ⟨none, none, none, rfl, sb, ?_⟩ (fun i σ H5 _ ⟨_, _, _, _, s5, _⟩ => s5 _ _ hbr) ?_ ?_
      · rw [upd_ne dg.symm]
        exact hg2
      · rintro i u σ H5 H5' hi ⟨l7, l8, l9, rfl, s5, hg5⟩ ⟨rfl, kk, vv, hkv, rfl⟩
        obtain ⟨st, val, hd, rfl, rfl⟩ := kd_at hkv
        have memD : (st, val) ∈ D := List.mem_of_getElem? hd
        have rgs := hK.rg st (List.mem_map_of_mem (f := (·.1)) memD)
        have tt := tb.trans (ts_same s5)
        refine ⟨_, rfl, _, rfl, _, rfl, .ref a, d, M, st, at_, rfl, rp_ts tt hx (side_tO hsd), hsd, rgs.1, rgs.2, hat, fun H6 zl zs s6 nz hz hZ => ?_⟩
        have lzs : zs.length = (chP M at_ st).length := by rw [hZ.len, List.length_map]
        have hg6 := s6 _ _ hg5
        have zg : zl ≠ g := (ne_of_none hg5 nz).symm
        -- what stands while the pairs are walked
        obtain ⟨Hc, hHc⟩ : ∃ Hc : Hp, Hc = fun b => if b = g then none else H6 b := ⟨_, rfl⟩
        have cne : ∀ b, b ≠ g → Hc b = H6 b := fun b n => by rw [hHc]; exact if_neg n
        have nc : Hc g = none := by rw [hHc]; exact if_pos rfl
        have sc : Same Hc H6 := fun b o e => by
          rw [← cne b (fun z => by rw [z, nc] at e; cases e)]
          exact e
        have bc : Same Hb Hc := fun b o e => by
          rw [cne b (fun z => by rw [z, nb] at e; cases e)]
          exact s6 _ _ (s5 _ _ e)
        have hzc : Hc zl = some (.lst zs) := by rw [cne _ zg]; exact hz
        have hZc : RpAll K Hc zs ((chP M at_ st).map eP) := goP (fun b ys e => by
          rcases e with (e | ⟨u, e⟩) | e
          · exact .inl (.inl (by rw [cne b (fun z => by rw [z, hg6] at e; cases e)]; exact e))
          · exact .inl (.inr ⟨u, by rw [cne b (fun z => by rw [z, hg6] at e; cases e)]; exact e⟩)
          · exact .inr e) hZ
        refine ⟨zl, rfl, ⟨_, SqL.of hz⟩, ?_⟩
        refine for_list (K := K) (a := zl) (xs := zs) (fun m σ H7 => ∃ l8 l9, σ = [some (.ref a), some (.ref pt), some (.ref dl), some (.int (at_ : Nat)), some (.int M.b), some (.ref g), some (.ref f), some (.int st), l8, l9, none, none] ∧ Same Hc H7 ∧ H7 g = some (.dK (kd (bestIn (fun v p => p - v) val ((chP M at_ st).take m) (bestOn (chP M at_) (fun v p => p - v) (D.take i) []))))) ⟨l8, l9, rfl, sc, hg6⟩ (fun m σ H7 _ ⟨_, _, _, s7, _⟩ => SqL.of (s7 _ _ hzc)) ?_ ?_
        · rintro m y σ H7 hy ⟨l8, l9, rfl, s7, hg7⟩
          obtain ⟨p, hp, rp⟩ := rpAll_back hZc hy
          obtain ⟨pa, rfl, hS5⟩ := rp.pair
          refine ⟨pa, _, rfl, same_tup s7 hS5, rfl, _, _, rfl, _, _, rfl, rfl, ?_⟩
          have kin : Kin M.C.length (bestIn (fun v p => p - v) val ((chP M at_ st).take m) (bestOn (chP M at_) (fun v p => p - v) (D.take i) [])) :=
            kin_in (kin_on (kin_nil _) fun kv _ q hq => ⟨(ch_rg hM hq).2.2.1, (ch_rg hM hq).2.2.2⟩) fun q hq => ⟨(ch_rg hM (List.mem_of_mem_take hq)).2.2.1, (ch_rg hM (List.mem_of_mem_take hq)).2.2.2⟩
          have sz := kin_size kin hM.c3
          have tk := in_take (f := fun v p => p - v) (v := val) (l := bestOn (chP M at_) (fun v p => p - v) (D.take i) []) hp
          generalize bestIn (fun v p => p - v) val ((chP M at_ st).take m) (bestOn (chP M at_) (fun v p => p - v) (D.take i) []) = L at hg7 sz tk
          have lk : DGet H7 dl (.int st) (some (.int val)) := by
            have := kd_get (d := D) (k := st) (.inr ⟨od, s7 _ _ (bc _ _ hbr)⟩)
            rw [kd_mem hK.nd hd] at this
            exact this
          have put : upMax L p.2 (p.1 - val) = putI L p.2 (p.1 - val) → ∀ Dn : Ends, (∀ H8, Same Hc H8 → H8 g = some (.dK (kd (upMax L p.2 (p.1 - val)))) → Dn.nx [some (.ref a), some (.ref pt), some (.ref dl), some (.int (at_ : Nat)), some (.int M.b), some (.ref g), some (.ref f), some (.int st), some (.int p.1), some (.int p.2), none, none] H8) →
              sDPut (tVar 5) (tVar 9) (tOp (rI0 fun i j => V.int (i - j)) (tVar 8) (tDGet (tVar 2) (tVar 7))) Dn [some (.ref a), some (.ref pt), some (.ref dl), some (.int (at_ : Nat)), some (.int M.b), some (.ref g), some (.ref f), some (.int st), some (.int p.1), some (.int p.2), none, none] H7 := fun eu Dn hn => by
            refine ⟨_, rfl, _, rfl, _, rfl, dl, .int val, rfl, lk, _, _, rfl, rfl, _, rfl, _, rfl, g, _, rfl, DPut.k (k := Sum.inl p.2) hg7 sz, hn _ (same_put s7 nc) ?_⟩
            rw [upd_same, kd_put, ← eu]
          refine ⟨_, rfl, _, rfl, g, _, rfl, kd_get (.inl hg7), _, rfl, ?_⟩
          cases e : getI L p.2 with
          | none =>
            refine iteT (iteT (put (by unfold upMax; rw [e]) _ fun H8 s8 h8 => ⟨_, _, rfl, s8, ?_⟩))
            rw [h8, tk]
          | some w0 =>
            refine iteF ⟨_, rfl, _, rfl, g, .int w0, rfl, ?_, _, rfl, _, rfl, _, rfl, dl, .int val, rfl, lk, _, _, rfl, rfl, _, _, rfl, rfl, _, rfl, ?_⟩
            · have := kd_get (d := L) (k := p.2) (.inl hg7)
              rw [e] at this
              exact this
            by_cases l : w0 < p.1 - val
            · rw [decide_eq_true l]
              refine iteT (put (by unfold upMax; rw [e]; exact if_pos l) _ fun H8 s8 h8 => ⟨_, _, rfl, s8, ?_⟩)
              rw [h8, tk]
            · rw [decide_eq_false l]
              refine iteF ⟨_, _, rfl, s7, ?_⟩
              rw [hg7, tk]
              unfold upMax
              rw [e]
              exact congrArg (fun z => some (HO.dK (kd z))) (if_neg l).symm
        · rintro σ H7 ⟨l8, l9, rfl, s7, hg7⟩
          refine ⟨_, _, _, rfl, bc.trans s7, ?_⟩
          rw [hg7, lzs, List.take_length, on_take hd]
      · rintro σ H5 ⟨l7, l8, l9, rfl, s5, hg5⟩
        refine ⟨s5 _ _ hbr, l7, l8, l9, rfl, back H5 s5, ?_, ?_⟩
        · rw [upd_ne dg.symm, hg5, kd_len, List.take_length]
          rfl
        · rw [upd_ne df.symm]
          exact s5 _ _ hbf
    rintro σ H3 ⟨l7, l8, l9, rfl, s3, hg3, hf3⟩
    have gne := on_ne hM (f := fun v p => p - v) hK lok.ne hat
    have g4 := few_on hM (at_ := at_) (f := fun v p => p - v) lok.few
    have mm : ∃ km, getI (gainOf (chP M at_) D) km = some (mostOn M at_ D) := by
      have := maxL_mem (l := (gainOf (chP M at_) D).map (·.2)) (fun z => gne (List.map_eq_nil_iff.mp z))
      obtain ⟨q0, hq0, e⟩ := List.mem_map.mp this
      exact ⟨q0.1, mem_getI kg.nd (by rw [show mostOn M at_ D = q0.2 from e.symm]; exact hq0)⟩
    obtain ⟨km, hkm⟩ := mm
    have bm := gain_bd hM lok.bd hkm
    refine ⟨fun σ H4 => σ = [some (.ref a), some (.ref pt), some (.ref dl), some (.int (at_ : Nat)), some (.int M.b), some (.ref g), some (.ref f), l7, l8, l9, some (.int (mostOn M at_ D)), none] ∧ Same H3 H4, ?_, ?_⟩
    · refine ⟨g, .dK (kd (gainOf (chP M at_) D)), hg3, trivial, fun od => ?_⟩
      refine ⟨_, rfl, g, od, rfl, .inl ⟨kd (gainOf (chP M at_) D), upd_same, fun L nL => ?_⟩⟩
      have Lg : L ≠ g := fun z => by rw [z, upd_same] at nL; cases nL
      have nL3 : H3 L = none := by rw [upd_ne Lg] at nL; exact nL
      refine lc_it walk_keys (fun i H' => Same (upd H3 g (.frz od (.dK (kd (gainOf (chP M at_) D))))) H' ∧ H' L = some (.lst ((((gainOf (chP M at_) D).take i).map (·.2)).map V.int))) ⟨same_upd nL, upd_same⟩ (fun i H' _ h => h.1 _ _ upd_same) ?_ ?_
      · rintro i u H' H2' hi ⟨sm, hL⟩ ⟨rfl, kk, vv, hkv, rfl⟩
        obtain ⟨st, val, hd, rfl, rfl⟩ := kd_at hkv
        refine ⟨rfl, ?_⟩
        refine ⟨_, rfl, _, rfl, g, .int val, rfl, ?_, _, hL, ?_, same_new sm nL, ?_⟩
        · have := kd_get (d := gainOf (chP M at_) D) (k := st) (.inr ⟨od, sm _ _ upd_same⟩)
          rw [kd_mem kg.nd hd] at this
          exact this
        · rw [List.length_map, List.length_map]
          have l1 := List.length_take_le' i (gainOf (chP M at_) D)
          have l2 : (gainOf (chP M at_) D).length ≤ 4 := g4
          exact Nat.lt_of_le_of_lt (show _ ≤ 4 by omega) (by decide)
        · rw [upd_same, List.take_succ, hd, List.map_append, List.map_append]
          rfl
      · rintro H' ⟨sm, hL⟩
        rw [kd_len, List.take_length] at hL
        refine ⟨sm _ _ upd_same, L, (gainOf (chP M at_) D).map (·.2), rfl, SqL.of (by rw [upd_ne Lg]; exact hL), ?_, fun m hm ge => ?_⟩
        · rw [List.length_map]
          exact List.length_pos_iff.mpr gne
        · rw [show m = mostOn M at_ D from maxL_eq hm ge]
          refine ⟨rfl, fun b o e => ?_⟩
          by_cases z : b = g
          · rw [z, upd_same, ← hg3, ← z, e]
          · rw [upd_ne z]
            exact sm _ _ (by rw [upd_ne z]; exact e)
    rintro σ H4 ⟨rfl, s4⟩
    have hg4 := s4 _ _ hg3
    have hf4 := s4 _ _ hf3
    have nf0 : ∀ o H', Same H H' → Same H (upd H' f o) := fun o H' sm => same_put sm nf
    refine ⟨fun σ H6 => ∃ l9 l11, σ = [some (.ref a), some (.ref pt), some (.ref dl), some (.int (at_ : Nat)), some (.int M.b), some (.ref g), some (.ref f), l7, l8, l9, some (.int (mostOn M at_ D)), l11] ∧ Same H H6 ∧ H6 f = some (.dK (kd (lackOn M at_ D))), ?_, ?_⟩
    · refine ⟨_, rfl, g, _, keysI (gainOf (chP M at_) D), rfl, .inl hg4, kd_keys _, ?_, fun ys p perm srt np => ?_⟩
      · unfold keysI
        rw [List.length_map]
        exact Nat.lt_of_le_of_lt g4 (by decide)
      obtain rfl := sort_eq perm srt
      have fp : f ≠ p := ne_of_none hf4 np
      have gp : g ≠ p := ne_of_none hg4 np
      have nds : (sortI (keysI (gainOf (chP M at_) D))).Nodup := (sort_perm _).nodup_iff.mpr kg.nd
      refine ⟨p, rfl, ⟨_, SqL.of upd_same⟩, ?_⟩
      have sp : Same H (upd H4 p (.lst ((sortI (keysI (gainOf (chP M at_) D))).map V.int))) := (s3.trans s4).trans (same_upd np)
      refine for_list (K := K) (a := p) (xs := (sortI (keysI (gainOf (chP M at_) D))).map V.int) (fun i σ H6 => ∃ l9 l11, σ = [some (.ref a), some (.ref pt), some (.ref dl), some (.int (at_ : Nat)), some (.int M.b), some (.ref g), some (.ref f), l7, l8, l9, some (.int (mostOn M at_ D)), l11] ∧ (Same H H6 ∧ H6 p = some (.lst ((sortI (keysI (gainOf (chP M at_) D))).map V.int)) ∧ H6 g = some (.dK (kd (gainOf (chP M at_) D)))) ∧ H6 f = some (.dK (kd (((sortI (keysI (gainOf (chP M at_) D))).take i).filterMap (pickOf M.b (sprd M) (gainOf (chP M at_) D)))))) ⟨l9, none, rfl, ⟨sp, upd_same, by rw [upd_ne gp]; exact hg4⟩, ?_⟩ (fun i σ H6 _ ⟨_, _, _, h, _⟩ => SqL.of h.2.1) ?_ ?_
      · rw [upd_ne fp]
        exact hf4
      · rintro i y σ H6 hy ⟨l9, l11, rfl, ⟨s6, hp6, hg6⟩, hf6⟩
        obtain ⟨to, hto, rfl⟩ : ∃ to, (sortI (keysI (gainOf (chP M at_) D)))[i]? = some to ∧ y = .int to := by
          rw [List.getElem?_map] at hy
          obtain ⟨to, h1, h2⟩ := Option.map_eq_some_iff.mp hy
          exact ⟨to, h1, h2.symm⟩
        have kto : to ∈ keysI (gainOf (chP M at_) D) := (sort_perm _).mem_iff.mp (List.mem_of_getElem? hto)
        obtain ⟨v, hv⟩ := Option.isSome_iff_exists.mp (getI_mem.mpr kto)
        have bv := gain_bd hM lok.bd hv
        have b2 := hM.b2
        have b9 := hM.b9
        have step := pick_take (b := M.b) (sp := sprd M) nds hto v hv
        have p3 : (2 : Nat) ^ 201 + 2 ^ 201 = 2 ^ 202 := by decide +kernel
        have bd1 : (mostOn M at_ D - v).natAbs < 2 ^ 202 := by omega
        have bb : M.b.natAbs < 2 ^ 4 := by omega
        refine ⟨fun σ H7 => σ = [some (.ref a), some (.ref pt), some (.ref dl), some (.int (at_ : Nat)), some (.int M.b), some (.ref g), some (.ref f), l7, l8, some (.int to), some (.int (mostOn M at_ D)), some (.int (M.b * (mostOn M at_ D - v)))] ∧ H7 = H6, ?_, ?_⟩
        · refine ⟨_, rfl, _, rfl, _, rfl, _, rfl, g, .int v, rfl, ?_, _, _, rfl, rfl, _, _, rfl, rfl, ?_, rfl, rfl⟩
          · have := kd_get (d := gainOf (chP M at_) D) (k := to) (.inl hg6)
            rw [hv] at this
            exact this
          · exact wide_mul (a := 4) (b := 202) bb bd1 (by decide) (by decide) (by decide)
        rintro σ H7 ⟨rfl, rfl⟩
        have bl : (M.b * (mostOn M at_ D - v)).natAbs < 2 ^ 206 := wide_lt (a := 4) (b := 202) bb bd1
        have em : maxL ((gainOf (chP M at_) D).map (·.2)) = mostOn M at_ D := rfl
        rw [em] at step
        generalize hlk : M.b * (mostOn M at_ D - v) = lk at bl step
        have put : hopes M.b (sprd M) lk = true → ∀ Dn : Ends, (∀ H8, Same H H8 → H8 p = some (.lst ((sortI (keysI (gainOf (chP M at_) D))).map V.int)) → H8 g = some (.dK (kd (gainOf (chP M at_) D))) → H8 f = some (.dK (kd (((sortI (keysI (gainOf (chP M at_) D))).take (i + 1)).filterMap (pickOf M.b (sprd M) (gainOf (chP M at_) D))))) → Dn.nx [some (.ref a), some (.ref pt), some (.ref dl), some (.int (at_ : Nat)), some (.int M.b), some (.ref g), some (.ref f), l7, l8, some (.int to), some (.int (mostOn M at_ D)), some (.int lk)] H8) →
            sDPut (tVar 6) (tVar 9) (tVar 11) Dn [some (.ref a), some (.ref pt), some (.ref dl), some (.int (at_ : Nat)), some (.int M.b), some (.ref g), some (.ref f), l7, l8, some (.int to), some (.int (mostOn M at_ D)), some (.int lk)] H7 := fun hh Dn hn => by
          refine ⟨_, rfl, _, rfl, _, rfl, f, _, rfl, DPut.k (k := Sum.inl to) hf6 ?_, hn _ (nf0 _ _ s6) ?_ ?_ ?_⟩
          · rw [kd_len]
            have l1 : (((sortI (keysI (gainOf (chP M at_) D))).take i).filterMap (pickOf M.b (sprd M) (gainOf (chP M at_) D))).length ≤ ((sortI (keysI (gainOf (chP M at_) D))).take i).length := List.length_filterMap_le _ _
            have l2 := List.length_take_le' i (sortI (keysI (gainOf (chP M at_) D)))
            have l3 := (sort_perm (keysI (gainOf (chP M at_) D))).length_eq
            have l4 : (keysI (gainOf (chP M at_) D)).length = (gainOf (chP M at_) D).length := List.length_map _
            exact Nat.lt_of_le_of_lt (show _ ≤ 4 by have : (gainOf (chP M at_) D).length ≤ 4 := g4; omega) (by decide)
          · rw [upd_ne (Ne.symm fp)]
            exact hp6
          · rw [upd_ne gf]
            exact hg6
          · rw [upd_same, kd_put, step, if_pos hh]
        refine ⟨_, rfl, rfl, _, rfl, ?_⟩
        by_cases z0 : lk = 0
        · rw [decide_eq_true (congrArg V.int z0)]
          exact iteT (iteT (put (by unfold hopes; rw [decide_eq_true z0]; rfl) _ fun H8 s8 e1 e2 e3 => ⟨_, _, rfl, ⟨s8, e1, e2⟩, e3⟩))
        · rw [decide_eq_false (fun y => z0 (V.int.inj y))]
          have sr := sprd_rg hM
          have w2 := wide_two
          have p5 : ((2 : Int) ^ 100).natAbs = 2 ^ 100 := by decide +kernel
          have p6 : (2 : Nat) ^ 100 * 2 < 2 ^ 102 := by decide +kernel
          have hpt6 := same_tup s6 hpt
          have esp : maxL (paysL M) - minL (paysL M) = sprd M := rfl
          refine iteF ⟨_, rfl, _, rfl, _, _, rfl, rfl, _, _, rfl, rfl, ?_, _, rfl, pt, _, 1, _, rfl, rfl, hpt6, rfl, _, rfl, pt, _, 0, _, rfl, rfl, hpt6, rfl, _, _, rfl, rfl, _, rfl, _, _, rfl, rfl, ?_, _, _, rfl, rfl, _, rfl, ?_⟩
          · exact wide_mul (a := 206) (b := 4) bl (by omega) (by decide) (by decide) (by decide)
          · exact wide_mul (a := 102) (b := 4) (by omega) bb (by decide) (by decide) (by decide)
          show if decide (lk * (M.b - 1) < (maxL (paysL M) - minL (paysL M)) * M.b) = true then _ else _
          rw [esp]
          by_cases lt : lk * (M.b - 1) < sprd M * M.b
          · rw [decide_eq_true lt]
            exact iteT (put (by unfold hopes; rw [decide_eq_true lt, Bool.or_true]) _ fun H8 s8 e1 e2 e3 => ⟨_, _, rfl, ⟨s8, e1, e2⟩, e3⟩)
          · rw [decide_eq_false lt]
            refine iteF ⟨_, _, rfl, ⟨s6, hp6, hg6⟩, ?_⟩
            rw [hf6, step, if_neg]
            unfold hopes
            rw [decide_eq_false z0, decide_eq_false lt]
            decide
      · rintro σ H6 ⟨l9, l11, rfl, ⟨s6, hp6, hg6⟩, hf6⟩
        refine ⟨l9, l11, rfl, s6, ?_⟩
        rw [hf6, List.length_map, List.take_length]
        rfl
    · rintro σ H6 ⟨l9, l11, rfl, s6, hf6⟩
      refine ⟨_, rfl, _, rfl, (by show 2 ≤ sizeLine; decide), fun t nt => ?_⟩
      have s7 := same_upd (o := HO.tup [V.int (mostOn M at_ D), V.ref f]) nt
      exact q _ t f (s6.trans s7) upd_same (s7 _ _ hf6) nf (s6.free nt)
end
end My
/-! ### tuple(d.items()) -/
namespace My
open PySem PySem.Spec PyProof.Rows L2
section
variable {prog : Program} {w : World} {A : Around} {E : Value → Shared → Prop} {s : Shared} {K : Type} [DecidableEq K] {knd : KeyKind prog w K} {kvs : List (K × Value)} {ep : Nat} {r d : Addr} {Q₁ Q : Value → Shared → Prop}
theorem code_tuple_items (hh : A.handled = none) (hv : s.heap.IsItemsView r d) (hm : s.heap.DictAt knd d kvs ep) (hn : kvs.length ≤ sizeLine)
    (h : ∀ (h' : Heap) (tk : Nat) (as : List Addr), (∀ b o, s.heap.get? b = some o → h'.get? b = some o) → as.length = kvs.length → PySem.W.KdxG knd kvs s.heap.objs.size h' as →
      Q₁ (.ref h'.objs.size) { s with heap := h'.push { cls := .type "tuple", data := .seq (as.map Value.ref).toArray }, toks := tk }) :
    codeAny (model prog w) A (.call (.builtin "tuple.__new__") ⟨[.type "tuple", .ref r], []⟩) (wants Q₁ E) s := by
  refine codeAny_of_tree ?_
  show wpAny _ A.in1 (do checkBuiltinCall "tuple.__new__" ⟨[.type "tuple", .ref r], []⟩; again (.builtin "tuple.__new__" ⟨[.type "tuple", .ref r], []⟩)) _ _ s
  refine wpAny_bind (wpAny_of_eq (F.newCall_tuple_1 _) (wpAny_pure ⟨plainId_quiet F.plain_tuple_new _, codeAny_builtin F.entry_tuple_new ?_⟩))
  rw [Around.under_plainId F.plain_tuple_new _]
  have hsub := sub_tuple_self
  have hinit := init_tuple_lookup
  have hmh := madeHere_tuple
  have hTI : s.TypeIs (.ref r) "dict_items" := by
    obtain ⟨o, ho, hc, _⟩ := hv
    exact ⟨o, ho, hc⟩
  have hh1 : A.in1.handled = none := hh
  wp_walk using wpAny_typeOf hTI, PySem.W.kdx_collect (A := A.in1) (knd := knd) (kvs := kvs) (ep := ep) hh1 hv hm hn
  intro h' tk as hk hl hG
  show wpAny _ _ (Builtin.Tuple.tupleExact (as.map Value.ref).toArray >>= fun v => ret v) _ _ _
  unfold Builtin.Tuple.tupleExact
  refine wpAny_bind (wpAny_newObj_type ?_ (by show (as.map Value.ref).toArray.size ≤ sizeLine; rw [List.size_toArray, List.length_map, hl]; exact hn))
  refine wpAny_pure ?_
  exact h h' tk as hk hl hG
theorem call_tuple_items (hh : A.handled = none) (hv : s.heap.IsItemsView r d) (hm : s.heap.DictAt knd d kvs ep) (hn : kvs.length ≤ sizeLine)
    (hQ : ∀ (h' : Heap) (tk : Nat) (as : List Addr), (∀ b o, s.heap.get? b = some o → h'.get? b = some o) → as.length = kvs.length → PySem.W.KdxG knd kvs s.heap.objs.size h' as →
      Q (.ref h'.objs.size) { s with heap := h'.push { cls := .type "tuple", data := .seq (as.map Value.ref).toArray }, toks := tk }) :
    wpAny (model prog w) A (call (.type "tuple") [.ref r]) Q E s := by
  refine callType_codes (Q₁ := fun obj s₁ => s₁.TypeIs obj "tuple" ∧ Q obj s₁) F.called_tuple (F.typeCall_tuple_1 _) F.entry_object_init
    (code_tuple_items (A := A.in1) hh hv hm hn fun h' tk as hk hl hG => ⟨⟨_, Heap.get?_push_size _ rfl, rfl⟩, hQ h' tk as hk hl hG⟩) fun obj s₁ h₁ => ?_
  exact ⟨h₁.1, F.args_object_init_2 obj _, object_init_meets F.called_tuple.init.lookup F.called_tuple.made (by decide) prog w A.in1 _ s₁ ⟨h₁.1, rfl, h₁.2⟩⟩
end
open LiI in
theorem items_new {X : Cx} {pins : List (Addr × Obj)} {σ : L2.St} {H : Hp} {s : Shared} {h' : Heap} {tk : Nat} {kvs : List (Key × V)} {vs : List (Key × Value)} {as : List Addr} (I : Inv X pins σ H s) (kv : KV kvs vs)
    (hk : ∀ b o, s.heap.get? b = some o → h'.get? b = some o) (hl : as.length = vs.length) (hG : PySem.W.KdxG (mixKind X.prog X.w) vs s.heap.objs.size h' as) :
    ∃ H' : Hp, (∀ b o, H b = some o → H' b = some o) ∧ (∀ t ∈ as, H t = none) ∧ Paired (fun (t : Addr) (q : Key × V) => H' t = some (.tup [kV q.1, q.2])) as kvs ∧ Inv X pins σ H' { s with heap := h', toks := tk } := by
  have lk : kvs.length = vs.length := Paired.length kv
  have nd : as.Nodup := List.Pairwise.imp (fun {a b} (h : a < b) => Nat.ne_of_lt h) hG.rise
  have new : ∀ t ∈ as, H t = none := fun t ht => I.hok.fresh (Nat.le_of_lt (hG.above t ht))
  have atP := putT_at as kvs H (by omega) nd
  have off : ∀ b, b ∉ as → putT H as kvs b = H b := fun b h1 => putT_off as kvs H h1
  have low : ∀ b o, s.heap.get? b = some o → b ∉ as := fun b o e z => absurd (Heap.lt_size e) (Nat.not_lt.mpr (Nat.le_of_lt (hG.above b z)))
  have kp : ∀ b u, H b = some u → (putT H as kvs) b = some u := fun b u e => by
    rw [off b (fun z => by rw [new b z] at e; cases e)]
    exact e
  refine ⟨putT H as kvs, kp, new, atP, ?_⟩
  refine I.call' (ch := []) rfl ⟨fun b o q _ _ _ => hk b o q, fun b o q _ _ _ => ⟨o.slots, hk b o q⟩, fun b o q n _ => ?_, fun b o q _ => ⟨o, hk b o q⟩, fun b xs q => kp b _ q, fun b o u q => kp b _ q, fun b ps q => ⟨#[], by rw [kp b _ q]; simp⟩⟩ (fun b u q => ?_) I.bare fun b z => by simp at z
  · rw [off b (low b o q)]
    exact n
  · by_cases hb : b ∈ as
    · obtain ⟨j, pk, e1, e2, e3⟩ := paired_ix atP hb
      rw [e3] at q
      cases q
      obtain ⟨key, k, x, f1, f2, f3⟩ := hG.pairs j b e1
      obtain ⟨qv, g1, g2, g3⟩ := LiI.paired_get kv e2
      rw [f1] at g1
      cases g1
      have rk : RelV (kV pk.1) key := by
        rw [g2]
        exact relV_key (show keyIs k key = true from f2)
      exact ⟨by show 2 ≤ sizeLine; decide, [key, x], .cons rk (.cons g3 .nil), ⟨_, f3, rfl, _, rfl⟩⟩
    · rw [off b hb] at q
      exact (I.hok b u q).stay (fun d v _ y => hk d v y) (fun d y => kp d _ y) fun d xs y => kp d _ y
def tTupItems (te : TE) : TE := fun σ H Q => te σ H fun x H1 => ∃ (d : Addr) (kvs : List (Key × V)), x = .ref d ∧ H1 d = some (.dK kvs) ∧
  ∀ (H' : Hp) (p : Addr) (ts : List Addr), Same H1 H' → H1 p = none → H' p = some (.tup (ts.map V.ref)) → Paired (fun (t : Addr) (q : Key × V) => H' t = some (.tup [kV q.1, q.2])) ts kvs → Q (.ref p) H'
theorem pe_tupItems {X : Cx} {e : Expr} {te : TE} {p apos cpos pos : Pos} (hc : X.calm = true) (he : PE X e te) (hg : Gl X "tuple") (hm : X.mg "tuple" = none) (hv : bootBuiltins "tuple" = some (.type "tuple")) (hbase : attributeBase e "items" X.env (eval e X.env) = eval e X.env := by rfl) (hline : (apos.endLine == cpos.line) = true := by rfl)
    (hs : starEach [.Call (.Attribute e "items" apos) [] [] cpos] X.env = (false, eval (.Call (.Attribute e "items" apos) [] [] cpos) X.env) :: starEach [] X.env := by rfl) :
    PE X (.Call (.Name "tuple" p) [.Call (.Attribute e "items" apos) [] [] cpos] [] pos) (tTupItems te) := by
  refine ⟨fun pins s σ H Q I hq => ?_⟩
  refine wpAny_Call_Name_kw (ld_blt I hg hm hv ?_)
  refine PyProof.Rows.callWith_type1 ?_ hs rfl
  rw [hs]
  show wpAny _ _ (spliced ((false, eval (.Call (.Attribute e "items" apos) [] [] cpos) X.env) :: backTo pos (starEach [] X.env))) _ _ s
  refine Calls.spliced_cons ?_
  refine wpAny_Call_method (T := "dict") (id := "dict.items") hbase rfl hline F.plainAttrs_dict F.slot_dict_items F.type_dict_items (thn (he.run pins s σ H _ I hq) fun u s1 ⟨x, H1, I1, rx, d, kvs, ex, hd, q⟩ => ?_)
  subst ex
  obtain rfl : u = Value.ref d := rx
  obtain ⟨hz, hs0, vs, kv, hdo⟩ := I1.hok d _ hd
  obtain ⟨ep, hat⟩ := hdo.dictAt
  have lk : kvs.length = vs.length := Paired.length kv
  have I2 : Inv X pins σ H1 { s1 with heap := s1.heap.push { cls := .type "dict_items", data := .fields #[.ref d] } } := I1.kept (t' := s1.toks) fun b ob q => Heap.get?_push_of_some _ q
  refine ⟨hdo.typeIs, hdo.mapOf.noDict, ?_⟩
  show wpAny _ _ (callWith cpos (.builtin "dict.items") [.ref d] [] []) _ X.xe s1
  refine method_meetsIn F.slot_dict_items F.entry_dict_items rfl (PySem.evalArgs_none ⟨rfl, hdo.typeIs, F.args_dict_items_1 _, _, meets_dict_items (mixKind X.prog X.w) d hs0, ⟨vs, hdo⟩, ?_⟩)
  refine Calls.spliced_nil ?_
  refine call_tuple_items (knd := mixKind X.prog X.w) (kvs := vs) (ep := ep) (I1.ok.hd hc) ⟨_, Heap.get?_push_size _ rfl, rfl, rfl⟩ (hat.push _) (by omega) fun h' tk as hk hl hG => ?_
  obtain ⟨H', k1, k3, k6, J⟩ := items_new (tk := tk) I2 kv hk hl hG
  have lt : (as.map V.ref).length ≤ sizeLine := by rw [List.length_map, hl, ← lk]; exact hz
  have hn := J.hok.fresh (Nat.le_refl h'.objs.size)
  have J2 := J.laid (a := h'.objs.size) (o := .tup (as.map V.ref)) (h' := h'.push { cls := .type "tuple", data := .seq (as.map Value.ref).toArray }) (t' := tk) (fun b o e => Heap.get?_push_of_some _ e) (Nat.le_refl _)
    (show ObjOk X.prog X.w _ _ _ (.tup (as.map V.ref)) from ⟨lt, as.map Value.ref, LiI.vals_refs as, IsTup.new _ _⟩)
  have kp : Same H1 (upd H' h'.objs.size (.tup (as.map V.ref))) := fun b o e => by
    rw [upd_ne (ne_of_none (k1 b o e) hn)]
    exact k1 b o e
  have n1 : H1 h'.objs.size = none := by
    cases z : H1 h'.objs.size with
    | none => rfl
    | some o => rw [k1 _ _ z] at hn; cases hn
  refine ⟨.ref _, _, J2, rfl, q _ _ as kp n1 upd_same (Paired.mapP k6 fun t q e => ?_)⟩
  rw [upd_ne (ne_of_none e hn)]
  exact e
end My
/-! ### ascending dicts -/
namespace My
open PySem PySem.Spec PyProof.Rows L2 PySem.Builtin.Str
def Asc (D : Dk) : Prop := D.Pairwise fun p q => p.1 < q.1
theorem asc_lack {M : Mc} (h : Mok M) {at_ : Nat} {D : Dk} : Asc (lackOn M at_ D) := by
  have nd : (sortI (keysI (gainOf (chP M at_) D))).Nodup := (sort_perm _).nodup_iff.mpr (gain_kin h).nd
  have srt := List.Pairwise.and (sort_sorted (keysI (gainOf (chP M at_) D))) nd
  unfold lackOn
  rw [later_eq]
  refine List.Pairwise.filterMap _ (fun x y hxy p hp q hq => ?_) srt
  unfold pickOf at hp hq
  split at hp
  · split at hq
    · cases hp
      cases hq
      show x < y
      have h2 := hxy.2
      have h1 := hxy.1
      omega
    · cases hq
  · cases hp
theorem asc_after {M : Mc} (h : Mok M) : ∀ (cs : List Nat) {D : Dk}, Asc D → Asc (lacksAfter M cs D)
  | [], _, a => a
  | c :: cs, D, _ => asc_after h cs (D := lackOn M (ixM M c) D) (asc_lack h)
end My
/-! ### the dicts that words reach -/
namespace My
open PySem PySem.Spec PyProof.Rows L2 PySem.Builtin.Str
def addD (ds : List Dk) (d : Dk) : List Dk := if d ∈ ds then ds else ds ++ [d]
/-- what stands behind so many letters of a row -/
def rowE (M : Mc) (D : Dk) (ds : List Dk) : Nat → List Dk × List (Int × Int)
  | 0 => (ds, [])
  | n + 1 => (addD (rowE M D ds n).1 (lackOn M n D), (rowE M D ds n).2 ++ [(mostOn M n D, (((addD (rowE M D ds n).1 (lackOn M n D)).idxOf (lackOn M n D) : Nat) : Int))])
abbrev ES := List Dk × List (List (Int × Int))
def stepE (M : Mc) (x : ES) : ES := match x.1[x.2.length]? with
  | none => x
  | some D => ((rowE M D x.1 M.z.length).1, x.2 ++ [(rowE M D x.1 M.z.length).2])
def runE (M : Mc) : Nat → ES
  | 0 => ([[(0, 0)]], [])
  | n + 1 => stepE M (runE M n)
theorem addD_pre (ds : List Dk) (d : Dk) : ds <+: addD ds d := by
  unfold addD
  split
  · exact List.prefix_rfl
  · exact List.prefix_append _ _
theorem addD_nd {ds : List Dk} (h : ds.Nodup) (d : Dk) : (addD ds d).Nodup := by
  unfold addD
  split
  · exact h
  · rename_i n
    rw [List.nodup_append]
    refine ⟨h, by simp, fun a ha b hb e => ?_⟩
    rw [List.mem_singleton.mp hb] at e
    exact n (e ▸ ha)
theorem mem_addD {ds : List Dk} {d e : Dk} : e ∈ addD ds d ↔ e ∈ ds ∨ e = d := by
  unfold addD
  split
  · rename_i h
    exact ⟨.inl, fun z => z.elim id fun q => q ▸ h⟩
  · rw [List.mem_append, List.mem_singleton]
theorem row_pre (M : Mc) (D : Dk) (ds : List Dk) : ∀ n, (rowE M D ds n).1 <+: (rowE M D ds (n + 1)).1 := fun n => addD_pre _ _
theorem row_le (M : Mc) (D : Dk) (ds : List Dk) {n m : Nat} (h : n ≤ m) : (rowE M D ds n).1 <+: (rowE M D ds m).1 := by
  induction h with
  | refl => exact List.prefix_rfl
  | step _ ih => exact ih.trans (row_pre M D ds _)
theorem row_nd {M : Mc} {D : Dk} {ds : List Dk} (h : ds.Nodup) : ∀ n, (rowE M D ds n).1.Nodup
  | 0 => h
  | n + 1 => addD_nd (row_nd h n) _
theorem row_len (M : Mc) (D : Dk) (ds : List Dk) : ∀ n, (rowE M D ds n).2.length = n
  | 0 => rfl
  | n + 1 => by
    show ((rowE M D ds n).2 ++ [_]).length = n + 1
    rw [List.length_append, row_len M D ds n]
    rfl
theorem row_all {M : Mc} {D : Dk} {ds : List Dk} {P : Dk → Prop} (h : ∀ d ∈ ds, P d) : ∀ n, (∀ i, i < n → P (lackOn M i D)) → ∀ d ∈ (rowE M D ds n).1, P d
  | 0, _ => h
  | n + 1, hs => fun d hd => by
    rcases mem_addD.mp hd with m | rfl
    · exact row_all h n (fun i hi => hs i (by omega)) d m
    · exact hs n (by omega)
theorem run_pre (M : Mc) (n : Nat) : (runE M n).1 <+: (runE M (n + 1)).1 := by
  show _ <+: (stepE M (runE M n)).1
  unfold stepE
  split
  · exact List.prefix_rfl
  · exact row_le M _ _ (Nat.zero_le _)
theorem run_le (M : Mc) {n m : Nat} (h : n ≤ m) : (runE M n).1 <+: (runE M m).1 := by
  induction h with
  | refl => exact List.prefix_rfl
  | step _ ih => exact ih.trans (run_pre M _)
theorem run_nd (M : Mc) : ∀ n, (runE M n).1.Nodup
  | 0 => by simp [runE]
  | n + 1 => by
    show (stepE M (runE M n)).1.Nodup
    unfold stepE
    split
    · exact run_nd M n
    · exact row_nd (run_nd M n) _
theorem run_pos (M : Mc) (n : Nat) : 1 ≤ (runE M n).1.length := (run_le M (Nat.zero_le n)).length_le
/-- all that is known of a dict that is reached -/
structure Dok (M : Mc) (D : Dk) : Prop where
  lok : Lok M D
  asc : Asc D
  val : ∀ kv ∈ D, 0 ≤ kv.2 ∧ kv.2 ≤ 18 * wideN
  top : ∃ s, getI D s = some 0
theorem dok_step {M : Mc} (h : Mok M) {at_ : Nat} {D : Dk} (d : Dok M D) (ha : at_ < M.z.length) : Dok M (lackOn M at_ D) := by
  have gk := gain_kin h (at_ := at_) (D := D)
  have gne := on_ne h (f := fun v p => p - v) d.lok.kin d.lok.ne ha
  refine ⟨lok_step h d.lok ha, asc_lack h, fun kv hkv => lack_val h hkv, ?_⟩
  have := maxL_mem (l := (gainOf (chP M at_) D).map (·.2)) (fun z => gne (List.map_eq_nil_iff.mp z))
  obtain ⟨q0, hq0, e⟩ := List.mem_map.mp this
  refine ⟨q0.1, (later_get gk.nd).mpr ⟨q0.2, mem_getI gk.nd hq0, ?_, rfl⟩⟩
  rw [e]
  simp
theorem dok_zero {M : Mc} (h : Mok M) : Dok M [(0, 0)] := ⟨lok_zero h, by simp [Asc], fun kv hkv => by
  obtain rfl : kv = (0, 0) := by simpa using hkv
  decide +kernel, 0, rfl⟩
theorem run_ok {M : Mc} (h : Mok M) : ∀ n, ∀ d ∈ (runE M n).1, Dok M d
  | 0 => fun d hd => by
    obtain rfl : d = [(0, 0)] := by simpa [runE] using hd
    exact dok_zero h
  | n + 1 => by
    show ∀ d ∈ (stepE M (runE M n)).1, Dok M d
    unfold stepE
    split
    · exact run_ok h n
    · rename_i D e
      exact row_all (run_ok h n) _ fun i hi => dok_step h (run_ok h n D (List.mem_of_getElem? e)) hi
/-- all dicts are done -/
def Closed (M : Mc) (n : Nat) : Prop := (runE M n).1.length ≤ (runE M n).2.length
theorem closed_stay {M : Mc} {n : Nat} (h : Closed M n) : ∀ k, runE M (n + k) = runE M n
  | 0 => rfl
  | k + 1 => by
    show stepE M (runE M (n + k)) = _
    rw [closed_stay h k]
    unfold stepE
    rw [List.getElem?_eq_none (by unfold Closed at h; exact h)]
theorem run_states (M : Mc) : ∀ n, (runE M n).2.length ≤ n ∧ (¬ Closed M n → (runE M n).2.length = n)
  | 0 => ⟨Nat.le_refl _, fun _ => rfl⟩
  | n + 1 => by
    have ih := run_states M n
    by_cases c : Closed M n
    · have := closed_stay c 1
      rw [show n + 1 = n + 1 from rfl, this]
      exact ⟨by omega, fun z => absurd (show Closed M (n + 1) by unfold Closed; rw [this]; exact c) z⟩
    · have hn := ih.2 c
      have : (runE M n).2.length < (runE M n).1.length := by unfold Closed at c; omega
      obtain ⟨D, hD⟩ : ∃ D, (runE M n).1[(runE M n).2.length]? = some D := ⟨_, List.getElem?_eq_getElem this⟩
      have e : runE M (n + 1) = ((rowE M D (runE M n).1 M.z.length).1, (runE M n).2 ++ [(rowE M D (runE M n).1 M.z.length).2]) := by
        show stepE M (runE M n) = _
        unfold stepE
        rw [hD]
      have l : (runE M (n + 1)).2.length = n + 1 := by
        rw [e, List.length_append, hn]
        rfl
      exact ⟨by rw [l]; exact Nat.le_refl _, fun _ => l⟩
theorem run_next {M : Mc} {n : Nat} {D : Dk} (h : (runE M n).1[(runE M n).2.length]? = some D) : runE M (n + 1) = ((rowE M D (runE M n).1 M.z.length).1, (runE M n).2 ++ [(rowE M D (runE M n).1 M.z.length).2]) := by
  show stepE M (runE M n) = _
  unfold stepE
  rw [h]
/-- two ends are one -/
theorem closed_uniq {M : Mc} {n m : Nat} (h : Closed M n) (g : Closed M m) : runE M n = runE M m := by
  rcases Nat.le_total n m with l | l
  · obtain ⟨k, rfl⟩ := Nat.exists_eq_add_of_le l
    exact (closed_stay h k).symm
  · obtain ⟨k, rfl⟩ := Nat.exists_eq_add_of_le l
    exact closed_stay g k
theorem closed_max {M : Mc} {n : Nat} (h : Closed M n) (m : Nat) : (runE M m).1.length ≤ (runE M n).1.length := by
  rcases Nat.le_total m n with l | l
  · exact (run_le M l).length_le
  · obtain ⟨k, rfl⟩ := Nat.exists_eq_add_of_le l
    rw [closed_stay h k]
    exact Nat.le_refl _
end My
/-! ### dicts_of -/
namespace My
open PySem PySem.Spec PyProof.Rows L2 PySem.Builtin.Str
abbrev sDictsOf : Stmt := topS 43
theorem scDictsOf : FnScope ["frame", "limit", "spread", "dicts", "places", "states", "lacks", "state", "at", "most", "later", "key"] ["frame", "limit"] (defScope sDictsOf) := ⟨rfl, rfl, rfl, by decide +kernel, rfl, by decide +kernel, by decide +kernel⟩
structure DoTxt (K : PySem.W.Frag) (mg : Str → Option Value) (p1 p2 p3 p4 p5 : Addr) (q1 q2 q3 q4 q5 : FuncData) (CG : Addr) : Prop where
  lk : LkTxt K mg p1 p2 p3 p4 q1 q2 q3 q4
  len : mg "len" = none
  range : mg "range" = none
  tuple : mg "tuple" = none
  great : ExcF K mg "TooGreat" CG
  FDictsOf : Fun K "dicts_of" "dicts_of" sDictsOf p5 q5
  bDictsOf : Binds K q5 ["frame", "limit"] []
  gDictsOf : mg "dicts_of" = some (.ref p5)
def kyD (D : Dk) : PyData := .tuple (D.map eP)
/-- dicts in a list -/
def DL (H : Hp) (a : Addr) (rs : List Addr) (ds : List Dk) : Prop := H a = some (.lst (rs.map V.ref)) ∧ Paired (fun (r : Addr) (D : Dk) => H r = some (.dK (kd D))) rs ds
/-- their places -/
def PL (xs : Nx) (ds : List Dk) : Prop := xs.length = ds.length ∧ ∀ (i : Nat) (e : NestedKey × Addr × V) (D : Dk), xs[i]? = some e → ds[i]? = some D → e.1 = keyN (kyD D) ∧ e.2.2 = .int (i : Nat)
def rwD (r : List (Int × Int)) : PyData := .tuple (r.map eP)
def stD (rows : List (List (Int × Int))) : PyData := .tuple (rows.map rwD)
theorem tO_rwD (r : List (Int × Int)) : tO (rwD r) = true := by
  rw [rwD, tO]
  exact tOs_map tO_eP _
theorem tO_kyD (D : Dk) : tO (kyD D) = true := by
  rw [kyD, tO]
  exact tOs_map tO_eP _
theorem keyNs_map : ∀ D : Dk, keyNs (D.map eP) = D.map fun p => NestedKey.tup [.num p.1, .num p.2]
  | [] => rfl
  | p :: D => by
    rw [List.map_cons, keyNs, keyNs_map D]
    simp [eP, keyN, keyNs]
theorem ky_eq (D : Dk) : keyN (kyD D) = NestedKey.tup (D.map fun p => NestedKey.tup [.num p.1, .num p.2]) := by
  rw [kyD, keyN, keyNs_map]
theorem ky_inj {D D' : Dk} (h : keyN (kyD D) = keyN (kyD D')) : D = D' := by
  rw [ky_eq, ky_eq] at h
  injection h with h
  induction D generalizing D' with
  | nil =>
    cases D' with
    | nil => rfl
    | cons _ _ => cases h
  | cons p D ih =>
    cases D' with
    | nil => cases h
    | cons q D' =>
      rw [List.map_cons, List.map_cons] at h
      injection h with h1 h2
      injection h1 with h1
      injection h1 with a b
      injection a with a
      injection b with b _
      injection b with b
      rw [ih h2, Prod.ext a b]
theorem ky_depth (D : Dk) : (keyN (kyD D)).depth ≤ 8 := by
  rw [ky_eq, NestedKey.depth]
  have : NestedKey.depthAll (D.map fun p => NestedKey.tup [.num p.1, .num p.2]) ≤ 2 := by
    induction D with
    | nil => simp [NestedKey.depthAll]
    | cons p D ih =>
      rw [List.map_cons, NestedKey.depthAll]
      have : (NestedKey.tup [.num p.1, .num p.2]).depth ≤ 2 := by simp [NestedKey.depth, NestedKey.depthAll]
      omega
  omega
theorem kd_rp {K : PySem.W.Frag} {H : Hp} : ∀ {ts : List Addr} {D : Dk}, Paired (fun (t : Addr) (q : Key × V) => H t = some (.tup [kV q.1, q.2])) ts (kd D) → RpAll K H (ts.map V.ref) (D.map eP)
  | _, [], h => by
    cases h
    exact .nil
  | _, p :: D, h => by
    cases h with
    | cons h1 h2 => exact .cons (.tup (SqT.of h1) (.cons (.int _) (.cons (.int _) .nil))) (kd_rp h2)
theorem pl_valN : ∀ {xs : Nx} {ds : List Dk} {n : Nat}, xs.length = ds.length → (∀ (i : Nat) (e : NestedKey × Addr × V) (D : Dk), xs[i]? = some e → ds[i]? = some D → e.1 = keyN (kyD D) ∧ e.2.2 = .int ((n + i : Nat) : Int)) →
    ∀ D : Dk, valN xs (keyN (kyD D)) = if D ∈ ds then some (.int ((n + ds.idxOf D : Nat) : Int)) else none
  | [], [], _, _, _, _ => rfl
  | [], _ :: _, _, h, _, _ => nomatch h
  | _ :: _, [], _, h, _, _ => nomatch h
  | e :: xs, E :: ds, n, hl, h, D => by
    obtain ⟨h1, h2⟩ := h 0 e E rfl rfl
    by_cases c : E = D
    · subst c
      rw [valN_pos h1, h2, if_pos (List.mem_cons_self), List.idxOf_cons_self]
    · rw [valN_neg (fun z => c (ky_inj (h1.symm.trans z))), pl_valN (n := n + 1) (Nat.succ.inj hl) (fun i e' D' a b => by
        have := h (i + 1) e' D' a b
        rw [show n + 1 + i = n + (i + 1) by omega]
        exact this) D]
      by_cases m : D ∈ ds
      · have ne : (E == D) = false := by simpa using c
        rw [if_pos m, if_pos (List.mem_cons_of_mem _ m), List.idxOf_cons, ne]
        show some (V.int ((n + 1 + List.idxOf D ds : Nat) : Int)) = some (V.int ((n + (List.idxOf D ds + 1) : Nat) : Int))
        rw [show n + 1 + List.idxOf D ds = n + (List.idxOf D ds + 1) by omega]
      · rw [if_neg m, if_neg (fun z => (List.mem_cons.mp z).elim (fun q => c q.symm) m)]
theorem pl_val {xs : Nx} {ds : List Dk} (h : PL xs ds) (D : Dk) : valN xs (keyN (kyD D)) = if D ∈ ds then some (.int (ds.idxOf D : Nat)) else none := by
  have := pl_valN (n := 0) h.1 (fun i e D a b => by
    rw [Nat.zero_add]
    exact h.2 i e D a b) D
  rw [Nat.zero_add] at this
  exact this
theorem pl_add {xs : Nx} {ds : List Dk} (h : PL xs ds) {D : Dk} (n : ¬ D ∈ ds) (b : Addr) : PL (putN xs (keyN (kyD D)) b (.int (ds.length : Nat))) (ds ++ [D]) := by
  rw [putN_new (by rw [pl_val h, if_neg n])]
  refine ⟨by rw [List.length_append, List.length_append, h.1]; rfl, fun i e E he hE => ?_⟩
  by_cases l : i < ds.length
  · rw [List.getElem?_append_left (by rw [h.1]; exact l)] at he
    rw [List.getElem?_append_left l] at hE
    exact h.2 i e E he hE
  · have hi : i = ds.length := by
      have := (List.getElem?_eq_some_iff.mp hE).1
      rw [List.length_append, List.length_singleton] at this
      omega
    subst hi
    rw [List.getElem?_append_right (by rw [h.1]; exact Nat.le_refl _), h.1, Nat.sub_self] at he
    rw [List.getElem?_append_right (Nat.le_refl _), Nat.sub_self] at hE
    cases he
    cases hE
    exact ⟨rfl, rfl⟩
def lenL (H : Hp) (a : Addr) : Nat := match H a with
  | some (.lst us) => us.length
  | _ => 0
theorem lenL_of {H : Hp} {a : Addr} {us : List V} (h : H a = some (.lst us)) : lenL H a = us.length := by
  unfold lenL
  rw [h]
/-- the heap while dicts are found -/
structure Wk (P : Program) (w : World) (K : PySem.W.Frag) (H H' : Hp) (dl pl sl : Addr) (rs : List Addr) (xs : Nx) (us : List V) (x : ES) : Prop where
  sm : Same H H'
  nd : H dl = none
  np : H pl = none
  ns : H sl = none
  ne : dl ≠ sl
  nr : ∀ r ∈ rs, H r = none
  dL : DL H' dl rs x.1
  pL : PL xs x.1
  nD : ND P w K H' pl xs
  sL : H' sl = some (.lst us)
  sT : RpAll K H' us (x.2.map rwD)
theorem Wk.go {P : Program} {w : World} {K : PySem.W.Frag} {H H' H'' : Hp} {dl pl sl r : Addr} {rs : List Addr} {xs : Nx} {us : List V} {x : ES} (k : Wk P w K H H' dl pl sl rs xs us x) (b : But r H' H'') (hr : ∀ o, H' r = some o → ∃ ys, o = .lst ys) (n1 : r ≠ dl) (n2 : r ≠ sl) (nH : H r = none) : Wk P w K H H'' dl pl sl rs xs us x := by
  have ts : TStay K H' H'' := fun c ys e => by
    have nc : ∀ o, H' c = some o → (∀ zs, o ≠ .lst zs) → c ≠ r := fun o e h z => by
      obtain ⟨zs, hz⟩ := hr o (z ▸ e)
      exact h zs hz
    rcases e with (e | ⟨u, e⟩) | e
    · exact .inl (.inl (b _ _ (nc _ e (fun _ z => nomatch z)) e))
    · exact .inl (.inr ⟨u, b _ _ (nc _ e (fun _ z => nomatch z)) e⟩)
    · exact .inr e
  have npr : pl ≠ r := fun z => by
    obtain ⟨zs, hz⟩ := hr _ (z ▸ k.nD.here)
    exact nomatch hz
  refine ⟨fun c o e => b _ _ (fun z => by rw [z, nH] at e; cases e) (k.sm _ _ e), k.nd, k.np, k.ns, k.ne, k.nr, ⟨b _ _ n1.symm k.dL.1, Paired.mapP k.dL.2 fun c D e => b _ _ (fun z => ?_) e⟩, k.pL, k.nD.ts ts (b _ _ npr k.nD.here), b _ _ n2.symm k.sL, rpAll_ts ts k.sT (tOs_map tO_rwD _)⟩
  obtain ⟨zs, hz⟩ := hr _ (z ▸ e)
  exact nomatch hz
theorem Wk.same {P : Program} {w : World} {K : PySem.W.Frag} {H H' H'' : Hp} {dl pl sl : Addr} {rs : List Addr} {xs : Nx} {us : List V} {x : ES} (k : Wk P w K H H' dl pl sl rs xs us x) (s : Same H' H'') : Wk P w K H H'' dl pl sl rs xs us x :=
  ⟨k.sm.trans s, k.nd, k.np, k.ns, k.ne, k.nr, ⟨s _ _ k.dL.1, Paired.mapP k.dL.2 fun _ _ e => s _ _ e⟩, k.pL, k.nD.same s, s _ _ k.sL, rpAll_ts (ts_same s) k.sT (tOs_map tO_rwD _)⟩
theorem Wk.add {P : Program} {w : World} {K : PySem.W.Frag} {H H' : Hp} {dl pl sl r0 b : Addr} {rs : List Addr} {xs : Nx} {us : List V} {x : ES} {D : Dk} (k : Wk P w K H H' dl pl sl rs xs us x) (h0 : H' r0 = some (.dK (kd D))) (n0 : H r0 = none) (hb : Rp K H' (.ref b) (kyD D)) (nm : ¬ D ∈ x.1) :
    Wk P w K H (upd (upd H' pl (NdO P w pl (putN xs (keyN (kyD D)) b (.int (x.1.length : Nat))))) dl (.lst (rs.map V.ref ++ [.ref r0]))) dl pl sl (rs ++ [r0]) (putN xs (keyN (kyD D)) b (.int (x.1.length : Nat))) us (x.1 ++ [D], x.2) := by
  have pd : pl ≠ dl := fun z => by
    have := k.nD.here
    rw [z, k.dL.1] at this
    exact nomatch (Option.some.inj this)
  have ps : pl ≠ sl := fun z => by
    have := k.nD.here
    rw [z, k.sL] at this
    exact nomatch (Option.some.inj this)
  have nD1 := k.nD.put (v := .int (x.1.length : Nat)) hb (tO_kyD D) (ky_depth D)
  have e1 : (upd H' pl (NdO P w pl (putN xs (keyN (kyD D)) b (.int (x.1.length : Nat))))) dl = some (.lst (rs.map V.ref)) := by
    rw [upd_ne pd.symm]
    exact k.dL.1
  have t1 : TStay K H' (upd H' pl (NdO P w pl (putN xs (keyN (kyD D)) b (.int (x.1.length : Nat))))) := ts_upd k.nD.here (fun _ z => nomatch z) (fun _ _ z => nomatch z)
  have t2 := ts_upd (K := K) (o' := HO.lst (rs.map V.ref ++ [.ref r0])) e1 (fun _ z => nomatch z) (fun _ _ z => nomatch z)
  have stay : ∀ (c : Addr) (o : HO), c ≠ pl → c ≠ dl → H' c = some o → (upd (upd H' pl (NdO P w pl (putN xs (keyN (kyD D)) b (.int (x.1.length : Nat))))) dl (.lst (rs.map V.ref ++ [.ref r0]))) c = some o := fun c o a e h => by
    rw [upd_ne e, upd_ne a]
    exact h
  have kdne : ∀ (c : Addr) (D : Dk), H' c = some (.dK (kd D)) → c ≠ pl ∧ c ≠ dl := fun c D e => by
    refine ⟨fun z => ?_, fun z => ?_⟩
    · rw [z, k.nD.here] at e
      exact nomatch (Option.some.inj e)
    · rw [z, k.dL.1] at e
      exact nomatch (Option.some.inj e)
  refine ⟨fun c o e => stay c o (fun z => by rw [z, k.np] at e; cases e) (fun z => by rw [z, k.nd] at e; cases e) (k.sm _ _ e), k.nd, k.np, k.ns, k.ne, fun r hr => ?_, ⟨?_, ?_⟩, pl_add k.pL nm b, nD1.ts t2 ?_, stay _ _ ps.symm k.ne.symm k.sL, rpAll_ts (t1.trans t2) k.sT (tOs_map tO_rwD _)⟩
  · rcases List.mem_append.mp hr with m | m
    · exact k.nr r m
    · rw [List.mem_singleton.mp m]
      exact n0
  · rw [upd_same, List.map_append]
    rfl
  · exact Paired.snoc (Paired.mapP k.dL.2 fun c D e => stay _ _ (kdne c D e).1 (kdne c D e).2 e) (stay _ _ (kdne _ _ h0).1 (kdne _ _ h0).2 h0)
  · rw [upd_ne pd]
    exact upd_same
theorem Wk.push {P : Program} {w : World} {K : PySem.W.Frag} {H H' : Hp} {dl pl sl : Addr} {rs : List Addr} {xs : Nx} {us : List V} {x : ES} {v : V} {r : List (Int × Int)} (k : Wk P w K H H' dl pl sl rs xs us x) (hv : Rp K H' v (rwD r)) : Wk P w K H (upd H' sl (.lst (us ++ [v]))) dl pl sl rs xs (us ++ [v]) (x.1, x.2 ++ [r]) := by
  have ts : TStay K H' (upd H' sl (.lst (us ++ [v]))) := ts_upd k.sL (fun _ z => nomatch z) (fun _ _ z => nomatch z)
  have nps : pl ≠ sl := fun z => by
    have := k.nD.here
    rw [z, k.sL] at this
    exact nomatch (Option.some.inj this)
  refine ⟨fun c o e => by rw [upd_ne (fun z => by rw [z, k.ns] at e; cases e)]; exact k.sm _ _ e, k.nd, k.np, k.ns, k.ne, k.nr, ⟨by rw [upd_ne k.ne]; exact k.dL.1, Paired.mapP k.dL.2 fun c D e => ?_⟩, k.pL, k.nD.ts ts (by rw [upd_ne nps]; exact k.nD.here), upd_same, ?_⟩
  · rw [upd_ne (fun z => by
      rw [z, k.sL] at e
      exact nomatch (Option.some.inj e))]
    exact e
  · show RpAll K _ (us ++ [v]) ((x.2 ++ [r]).map rwD)
    rw [List.map_append]
    exact rp_snoc (rpAll_ts ts k.sT (tOs_map tO_rwD _)) (rp_ts ts hv (tO_rwD r))
section
variable {P : Program} {w : World} {K : PySem.W.Frag} {mg : Str → Option Value} {base : Heap} {p1 p2 p3 p4 p5 : Addr} {q1 q2 q3 q4 q5 : FuncData} {CG : Addr}
def spDictsOf (K : PySem.W.Frag) (CG : Addr) : Sp := fun vs H Q E => ∃ (x : V) (M : Mc) (L : Int), vs = [x, .int L] ∧ Rp K H x (eM M) ∧ Mok M ∧ 1 ≤ L ∧ L ≤ 300 ∧
  (∀ n H', L < ((runE M n).1.length : Int) → Same H H' → E (.ref CG) none H') ∧
  (∀ n H' t dl st rs, Closed M n → ((runE M n).1.length : Int) ≤ L → Same H H' → H' t = some (.tup [.ref dl, st]) → H dl = none → DL H' dl rs (runE M n).1 → (∀ r ∈ rs, H r = none) → Rp K H' st (stD (runE M n).2) → Q (.ref t) H')
theorem ok_dictsOf (T : DoTxt K mg p1 p2 p3 p4 p5 q1 q2 q3 q4 q5 CG) {k : Nat} : FnOk P w K mg base (L2.CX P w) (k + 4) p5 q5 ["frame", "limit"] (spDictsOf K CG) := by
  have GS : FnOk P w K mg base CX0 (k + 3) p2 q2 ["frame"] (spSpread2 K) := ok_spreadOf T.lk.spr (k := k + 1)
  have GL : FnOk P w K mg base CX0 (k + 3) p4 q4 ["frame", "spread", "lacks", "at"] (spLacksOn K) := ok_lacksOn T.lk (k := k + 2)
  refine T.FDictsOf.okX scDictsOf (fun vs H Q E h => by
    obtain ⟨x, M, L, rfl, _⟩ := h
    rfl) (fun cdv A outer s H vs Q E hr h => ?_)
  obtain ⟨x, M, L, rfl, hx, hM, L1, L3, qE, q⟩ := h
  have hu : (A.deeper (envOfC "dicts_of" (defScope sDictsOf) s.heap.objs.size p5 cdv)).units + 9 < cLine := by have := hr.un; omega
  refine ⟨_, (Evl.pss_cut (ps_set (i := 2) scDictsOf.nd rfl (.inl rfl) (pe_call GS hr (by rfl) T.lk.spr.gSpreadOf T.lk.spr.FSpreadOf.kp T.lk.spr.bSpreadOf .nil pass0 (pa_cons (pv 0) pa_nil)))
 (Evl.pss_cut (ps_set (i := 3) scDictsOf.nd rfl (.inl rfl) (pe_lst (pa_cons (pe_disp (pps_cons pe_int pe_int pps_nil) (by rfl) (by rfl) (fun z => by cases z) (by decide)) pa_nil)))
 (Evl.pss_cut (ps_set (i := 4) scDictsOf.nd rfl (.inl rfl) (pe_ndisp hu (pe_tup (pa_cons (pe_tup (pa_cons pe_int (pa_cons pe_int pa_nil))) pa_nil)) pe_int))
 (Evl.pss_cut (ps_set (i := 5) scDictsOf.nd rfl (.inl rfl) (pe_lst pa_nil))
 (Evl.pss_cut (ps_while (passes_of rfl) (pt_cmpR op_lt (pe_callB call_len_seq (by rfl) T.len PySem.boot_len (pa_cons (pv 5) pa_nil)) (pe_callB call_len_seq (by rfl) T.len PySem.boot_len (pa_cons (pv 3) pa_nil)) (nomark _))
 (Evl.pss_cut (ps_set (i := 6) scDictsOf.nd rfl (.inl rfl) (pe_ix ix_list (pv 3) (pe_callB call_len_seq (by rfl) T.len PySem.boot_len (pa_cons (pv 5) pa_nil)) (fun _ _ => rfl)))
 (Evl.pss_cut (ps_set (i := 7) scDictsOf.nd rfl (.inl rfl) (pe_lst pa_nil))
 (Evl.pss_cut (ps_for (passes_of rfl) rfl (pi_range1 (by rfl) T.range (pa_cons (pe_callB call_len_str (by rfl) T.len PySem.boot_len (pa_cons (pe_ix ix_tup (pv 0) pe_int (fun _ _ => rfl)) pa_nil)) pa_nil)) (pg_name (i := 8) scDictsOf.nd rfl (.inl rfl))
 (Evl.pss_cut (ps_asg (pe_call GL hr (by rfl) T.lk.gLacksOn T.lk.FLacksOn.kp T.lk.bLacksOn .nil pass0 (pa_cons (pv 0) (pa_cons (pv 2) (pa_cons (pv 6) (pa_cons (pv 8) pa_nil))))) (pg_tup rfl (pgs_cons (pg_name (i := 9) scDictsOf.nd rfl (.inl rfl)) (pgs_cons (pg_name (i := 10) scDictsOf.nd rfl (.inl rfl)) pgs_nil))))
 (Evl.pss_cut (ps_set (i := 11) scDictsOf.nd rfl (.inl rfl) (pe_tupItems (by rfl) (pv 10) (by rfl) T.tuple (by decide +kernel)))
 (Evl.pss_cut (ps_if (pt_cmp (pc_nnotin hu (pv 11) (pv 4))) (Evl.pss_cut (ps_if (pt_cmpR op_eq (pe_callB call_len_seq (by rfl) T.len PySem.boot_len (pa_cons (pv 3) pa_nil)) (pv 1) (nomark _)) (pss_one (ps_raise rfl (takes_of rfl rfl rfl rfl) (SkE.pmk_own1 PySem.F.excBase_ValueError T.great.q T.great.g T.great.k (raises_own T.great.b T.great.t) (by exact rfl) pe_str))) pss_nil)
 (Evl.pss_cut (ps_nput hu (pv 4) (pv 11) (pe_callB call_len_seq (by rfl) T.len PySem.boot_len (pa_cons (pv 3) pa_nil)) rfl)
 (pss_one (ps_expr (pe_bm PySem.F.plainAttrs_list PySem.F.slot_list_append PySem.F.type_list_append mt_append (pv 3) (pa_cons (pv 10) pa_nil)))))) pss_nil)
 (pss_one (ps_expr (pe_bm PySem.F.plainAttrs_list PySem.F.slot_list_append PySem.F.type_list_append mt_append (pv 7) (pa_cons (pe_tup (pa_cons (pv 9) (pa_cons (pe_nget hu (pv 4) (pv 11) (fun _ _ => rfl)) pa_nil))) pa_nil))))))))
 (pss_one (ps_expr (pe_bm PySem.F.plainAttrs_list PySem.F.slot_list_append PySem.F.type_list_append mt_append (pv 5) (pa_cons (pe_callTy call_tuple_of (by rfl) T.tuple (by decide +kernel) (pa_cons (pv 7) pa_nil)) pa_nil))))))))
 (pss_one (ps_ret (pe_tup (pa_cons (pv 3) (pa_cons (pe_callTy call_tuple_of (by rfl) T.tuple (by decide +kernel) (pa_cons (pv 5) pa_nil)) pa_nil)))))))))), ?_⟩
  obtain ⟨a0, w3, rfl, hS, hC⟩ := hx.three
  have zp := ltr_pos hM.ltr
  have zs : M.z.length ≤ sizeLine := Nat.le_trans zp.2 (by decide)
  refine ⟨fun σ H' => σ = [some (.ref a0), some (.int L), some (.int (sprd M)), none, none, none, none, none, none, none, none, none] ∧ Same H H', ?_, ?_⟩
  · exact ⟨_, rfl, _, M, rfl, hx, hM, fun H' s' => ⟨rfl, s'⟩⟩
  rintro σ H1 ⟨rfl, s1⟩
  refine ⟨fun σ H' => ∃ dl r0, σ = [some (.ref a0), some (.int L), some (.int (sprd M)), some (.ref dl), none, none, none, none, none, none, none, none] ∧ Same H H' ∧ H dl = none ∧ H r0 = none ∧ H' dl = some (.lst [.ref r0]) ∧ H' r0 = some (.dK (kd [(0, 0)])), ?_, ?_⟩
  · refine fun r0 n0 => ⟨upd_same, [(Sum.inl 0, .int 0)], rfl, by decide, (by show 1 ≤ sizeLine; decide), fun dl nd => ?_⟩
    have x1 : Same H1 (upd (upd H1 r0 (.dK [])) r0 (.dK (kd [(0, 0)]))) := same_new (same_upd n0) n0
    have x2 := same_upd (o := HO.lst [V.ref r0]) nd
    exact ⟨dl, r0, rfl, s1.trans (x1.trans x2), (s1.trans x1).free nd, s1.free n0, upd_same, x2 _ _ upd_same⟩
  rintro σ H2 ⟨dl, r0, rfl, s2, nd, n0, hdl, hr0⟩
  refine ⟨fun σ H' => ∃ pl xs, σ = [some (.ref a0), some (.int L), some (.int (sprd M)), some (.ref dl), some (.ref pl), none, none, none, none, none, none, none] ∧ Same H2 H' ∧ H pl = none ∧ ND P w K H' pl xs ∧ PL xs [[(0, 0)]], ?_, ?_⟩
  · refine fun pl np => ⟨(by show 2 ≤ sizeLine; decide), fun b1 h1 => ⟨(by show 1 ≤ sizeLine; decide), fun b2 h2 => ?_⟩⟩
    have x0 := same_upd (o := NdO P w pl []) np
    have x1 := same_upd (o := HO.tup [V.int 0, .int 0]) h1
    have x2 := same_upd (o := HO.tup [V.ref b1]) h2
    have rp : Rp K (upd (upd (upd H2 pl (NdO P w pl [])) b1 (.tup [.int 0, .int 0])) b2 (.tup [.ref b1])) (.ref b2) (kyD [(0, 0)]) := .tup (SqT.of upd_same) (.cons (.tup (SqT.of (x2 _ _ upd_same)) (.cons (.int 0) (.cons (.int 0) .nil))) .nil)
    have hp := x2 _ _ (x1 _ _ (upd_same (H := H2) (a := pl) (o := NdO P w pl [])))
    have nd0 : ND P w K _ pl [] := ⟨hp, fun _ h => nomatch h⟩
    have nd1 := nd0.put (v := .int 0) rp (tO_kyD _) (ky_depth _)
    refine ⟨b2, kyD [(0, 0)], rfl, rp, tO_kyD _, ky_depth _, hp, pl, [(keyN (kyD [(0, 0)]), b2, .int 0)], rfl, ?_, s2.free np, nd1, rfl, fun i e D a b => ?_⟩
    · exact same_new ((x0.trans x1).trans x2) np
    · match i, a, b with
      | 0, a, b =>
        cases a
        cases b
        exact ⟨rfl, rfl⟩
      | i + 1, a, _ => simp at a
  rintro σ H3 ⟨pl, xs, rfl, s3, np, nD, pL⟩
  refine ⟨fun σ H' => ∃ sl, σ = [some (.ref a0), some (.int L), some (.int (sprd M)), some (.ref dl), some (.ref pl), some (.ref sl), none, none, none, none, none, none] ∧ Wk P w K H H' dl pl sl [r0] xs [] (runE M 0), ?_, ?_⟩
  · refine ⟨(by show 0 ≤ sizeLine; decide), fun sl nsl => ⟨sl, rfl, ?_⟩⟩
    have x1 := same_upd (o := HO.lst []) nsl
    have s03 := s2.trans s3
    refine ⟨s03.trans x1, nd, np, s03.free nsl, ne_of_none (s3 _ _ hdl) nsl, fun r hr => ?_, ⟨x1 _ _ (s3 _ _ hdl), .cons (x1 _ _ (s3 _ _ hr0)) .nil⟩, pL, nD.same x1, upd_same, .nil⟩
    rw [List.mem_singleton.mp hr]
    exact n0
  rintro σ H4 ⟨sl, rfl, k4⟩
  have hroom : ∀ {m : Nat}, m ≤ 300 → m < sizeLine := fun h => Nat.lt_of_le_of_lt h (by decide)
  refine ⟨fun σ H' => ∃ n rs xs us l6 l7 l8 l9 l10 l11, σ = [some (.ref a0), some (.int L), some (.int (sprd M)), some (.ref dl), some (.ref pl), some (.ref sl), l6, l7, l8, l9, l10, l11] ∧ Wk P w K H H' dl pl sl rs xs us (runE M n) ∧ Closed M n ∧ ((runE M n).1.length : Int) ≤ L, ?_, ?_⟩
  · refine while_by (fun σ H' => ∃ n rs xs us l6 l7 l8 l9 l10 l11, σ = [some (.ref a0), some (.int L), some (.int (sprd M)), some (.ref dl), some (.ref pl), some (.ref sl), l6, l7, l8, l9, l10, l11] ∧ Wk P w K H H' dl pl sl rs xs us (runE M n) ∧ (runE M n).2.length = n ∧ ((runE M n).1.length : Int) ≤ L) (fun _ H' => 301 - lenL H' sl)
      ⟨0, [r0], xs, [], none, none, none, none, none, none, rfl, k4, rfl, (by show ((1 : Nat) : Int) ≤ L; omega)⟩ ?_ ?_
    · rintro σ H5 ⟨n, rs, xs, us, l6, l7, l8, l9, l10, l11, rfl, k5, hn, hL⟩
      have usl : us.length = n := by rw [k5.sT.len, List.length_map, hn]
      have rsl : rs.length = (runE M n).1.length := Paired.length k5.dL.2
      refine ⟨_, rfl, sl, us, rfl, .inl (SqL.of k5.sL), _, rfl, dl, _, rfl, .inl (SqL.of k5.dL.1), _, _, rfl, rfl, _, rfl, ?_⟩
      rw [usl, List.length_map, rsl]
      by_cases lt : (n : Int) < ((runE M n).1.length : Int)
      · rw [decide_eq_true lt]
        refine iteT ?_
        obtain ⟨D, hD⟩ : ∃ D, (runE M n).1[n]? = some D := ⟨_, List.getElem?_eq_getElem (by omega)⟩
        obtain ⟨rn, hrn⟩ : ∃ rn, rs[n]? = some rn := ⟨_, List.getElem?_eq_getElem (by omega)⟩
        have hrD : H5 rn = some (.dK (kd D)) := by
          obtain ⟨D', e1, e2⟩ := LiI.paired_get k5.dL.2 hrn
          rw [hD] at e1
          cases e1
          exact e2
        have okD := run_ok hM n D (List.mem_of_getElem? hD)
        have nxt := run_next (M := M) (n := n) (D := D) (by rw [hn]; exact hD)
        refine ⟨fun σ H' => σ = [some (.ref a0), some (.int L), some (.int (sprd M)), some (.ref dl), some (.ref pl), some (.ref sl), some (.ref rn), l7, l8, l9, l10, l11] ∧ H' = H5, ?_, ?_⟩
        · refine ⟨_, rfl, _, rfl, sl, us, rfl, .inl (SqL.of k5.sL), dl, _, (us.length : Int), .ref rn, rfl, rfl, SqL.of k5.dL.1, ?_, rfl, rfl⟩
          rw [usl]
          exact atI_nat (by rw [List.getElem?_map, hrn]; rfl)
        rintro σ H5' ⟨rfl, rfl⟩
        refine ⟨fun σ H' => ∃ rl, σ = [some (.ref a0), some (.int L), some (.int (sprd M)), some (.ref dl), some (.ref pl), some (.ref sl), some (.ref rn), some (.ref rl), l8, l9, l10, l11] ∧ Wk P w K H H' dl pl sl rs xs us (runE M n) ∧ H' rl = some (.lst []) ∧ rl ≠ dl ∧ rl ≠ sl ∧ H rl = none ∧ H' rn = some (.dK (kd D)), ?_, ?_⟩
        · refine ⟨(by show 0 ≤ sizeLine; decide), fun rl nrl => ⟨rl, rfl, k5.same (same_upd nrl), upd_same, (ne_of_none k5.dL.1 nrl).symm, (ne_of_none k5.sL nrl).symm, k5.sm.free nrl, same_upd nrl _ _ hrD⟩⟩
        rintro σ H6 ⟨rl, rfl, k6, hrl, ne1, ne2, nH, hrn6⟩
        refine ⟨fun σ H' => ∃ rs xs vs l8 l9 l10 l11, σ = [some (.ref a0), some (.int L), some (.int (sprd M)), some (.ref dl), some (.ref pl), some (.ref sl), some (.ref rn), some (.ref rl), l8, l9, l10, l11] ∧ Wk P w K H H' dl pl sl rs xs us ((rowE M D (runE M n).1 M.z.length).1, (runE M n).2) ∧ H' rl = some (.lst vs) ∧ RpAll K H' vs ((rowE M D (runE M n).1 M.z.length).2.map eP) ∧ ((rowE M D (runE M n).1 M.z.length).1.length : Int) ≤ L, ?_, ?_⟩
        · refine ⟨_, rfl, a0, _, 1, _, rfl, rfl, same_tup k6.sm hS, rfl, M.z, rfl, zs, _, rfl, by omega, by omega, ?_⟩
          refine for_range (lo := 0) (n := (M.z.length : Int).toNat) (fun j σ H' => ∃ rs xs vs l8 l9 l10 l11, σ = [some (.ref a0), some (.int L), some (.int (sprd M)), some (.ref dl), some (.ref pl), some (.ref sl), some (.ref rn), some (.ref rl), l8, l9, l10, l11] ∧ Wk P w K H H' dl pl sl rs xs us ((rowE M D (runE M n).1 j).1, (runE M n).2) ∧ H' rl = some (.lst vs) ∧ RpAll K H' vs ((rowE M D (runE M n).1 j).2.map eP) ∧ ((rowE M D (runE M n).1 j).1.length : Int) ≤ L ∧ H' rn = some (.dK (kd D)))
            ⟨rs, xs, [], l8, l9, l10, l11, rfl, k6, hrl, .nil, hL, hrn6⟩ ?_ ?_
          · rintro j σ H7 hj ⟨rs, xs, vs, l8, l9, l10, l11, rfl, k7, hrl7, hvs, hL7, hrn7⟩
            have jz : j < M.z.length := by omega
            have okN := dok_step hM okD jz
            refine ⟨fun σ H' => ∃ r2, σ = [some (.ref a0), some (.int L), some (.int (sprd M)), some (.ref dl), some (.ref pl), some (.ref sl), some (.ref rn), some (.ref rl), some (.int (0 + (j : Int))), some (.int (mostOn M j D)), some (.ref r2), l11] ∧ Same H7 H' ∧ H7 r2 = none ∧ H' r2 = some (.dK (kd (lackOn M j D))), ?_, ?_⟩
            · refine ⟨_, rfl, _, rfl, _, rfl, _, rfl, .ref a0, M, rn, D, j, (by show [V.ref a0, V.int (sprd M), V.ref rn, V.int (0 + (j : Int))] = [V.ref a0, V.int (sprd M), V.ref rn, V.int (j : Nat)]; rw [Int.zero_add (j : Int)]), hx.go k7.sm, hM, hrn7, okD.lok.kin, okD.lok.ne, okD.lok.few, okD.lok.bd, jz, fun H8 t r2 s8 ht hr2 nr2 nt => ?_⟩
              exact ⟨t, _, rfl, SqT.of ht, rfl, _, _, rfl, _, _, rfl, rfl, r2, rfl, s8, nr2, hr2⟩
            rintro σ H8 ⟨r2, rfl, s8, nr2, hr2⟩
            refine ⟨fun σ H' => ∃ kp, σ = [some (.ref a0), some (.int L), some (.int (sprd M)), some (.ref dl), some (.ref pl), some (.ref sl), some (.ref rn), some (.ref rl), some (.int (0 + (j : Int))), some (.int (mostOn M j D)), some (.ref r2), some (.ref kp)] ∧ Same H8 H' ∧ Rp K H' (.ref kp) (kyD (lackOn M j D)), ?_, ?_⟩
            · exact ⟨_, rfl, r2, _, rfl, hr2, fun H9 kp ts s9 nk hk hts => ⟨kp, rfl, s9, .tup (SqT.of hk) (kd_rp hts)⟩⟩
            rintro σ H9 ⟨kp, rfl, s9, hkp⟩
            have s79 := s8.trans s9
            have k9 := k7.same s79
            have hr29 := s9 _ _ hr2
            have n2H : H r2 = none := k7.sm.free nr2
            have hrl9 := s79 _ _ hrl7
            have hrn9 := s79 _ _ hrn7
            have hvs9 := rpAll_ts (ts_same s79) hvs (tOs_map tO_eP _)
            have rsl9 : rs.length = (rowE M D (runE M n).1 j).1.length := Paired.length k9.dL.2
            have xsl9 : xs.length = (rowE M D (runE M n).1 j).1.length := k9.pL.1
            refine ⟨fun σ H' => ∃ rs xs, σ = [some (.ref a0), some (.int L), some (.int (sprd M)), some (.ref dl), some (.ref pl), some (.ref sl), some (.ref rn), some (.ref rl), some (.int (0 + (j : Int))), some (.int (mostOn M j D)), some (.ref r2), some (.ref kp)] ∧ Wk P w K H H' dl pl sl rs xs us (addD (rowE M D (runE M n).1 j).1 (lackOn M j D), (runE M n).2) ∧ H' rl = some (.lst vs) ∧ RpAll K H' vs ((rowE M D (runE M n).1 j).2.map eP) ∧ ((addD (rowE M D (runE M n).1 j).1 (lackOn M j D)).length : Int) ≤ L ∧ H' rn = some (.dK (kd D)) ∧ Rp K H' (.ref kp) (kyD (lackOn M j D)), ?_, ?_⟩
            · refine ⟨_, rfl, _, rfl, pl, kp, xs, kyD (lackOn M j D), ⟨rfl, rfl, k9.nD, hkp, tO_kyD _, ky_depth _⟩, _, rfl, ?_⟩
              rw [pl_val k9.pL]
              by_cases m : lackOn M j D ∈ (rowE M D (runE M n).1 j).1
              · rw [if_pos m]
                have ea : addD (rowE M D (runE M n).1 j).1 (lackOn M j D) = (rowE M D (runE M n).1 j).1 := by
                  unfold addD
                  rw [if_pos m]
                refine iteF ⟨rs, xs, rfl, ?_, hrl9, hvs9, ?_, hrn9, hkp⟩
                · rw [ea]
                  exact k9
                · rw [ea]
                  exact hL7
              · rw [if_neg m]
                have ea : addD (rowE M D (runE M n).1 j).1 (lackOn M j D) = (rowE M D (runE M n).1 j).1 ++ [lackOn M j D] := by
                  unfold addD
                  rw [if_neg m]
                refine iteT ?_
                refine ⟨fun σ H' => σ = [some (.ref a0), some (.int L), some (.int (sprd M)), some (.ref dl), some (.ref pl), some (.ref sl), some (.ref rn), some (.ref rl), some (.int (0 + (j : Int))), some (.int (mostOn M j D)), some (.ref r2), some (.ref kp)] ∧ H' = H9 ∧ ((rowE M D (runE M n).1 j).1.length : Int) < L, ?_, ?_⟩
                · refine ⟨_, rfl, dl, _, rfl, .inl (SqL.of k9.dL.1), _, rfl, rfl, _, rfl, ?_⟩
                  rw [List.length_map, rsl9]
                  by_cases e : ((rowE M D (runE M n).1 j).1.length : Int) = L
                  · rw [decide_eq_true (congrArg V.int e)]
                    refine iteT (qE (n + 1) _ ?_ k9.sm)
                    have h1 := (row_le M D (runE M n).1 (show j + 1 ≤ M.z.length by omega)).length_le
                    have h2 : (rowE M D (runE M n).1 (j + 1)).1.length = (rowE M D (runE M n).1 j).1.length + 1 := by
                      show (addD (rowE M D (runE M n).1 j).1 (lackOn M j D)).length = _
                      rw [ea, List.length_append]
                      rfl
                    rw [nxt]
                    show L < ((rowE M D (runE M n).1 M.z.length).1.length : Int)
                    omega
                  · rw [decide_eq_false (fun z => e (V.int.inj z))]
                    exact iteF ⟨rfl, rfl, by omega⟩
                rintro σ H9' ⟨rfl, rfl, lt2⟩
                have pd : pl ≠ dl := fun z => by
                  have := k9.nD.here
                  rw [z, k9.dL.1] at this
                  exact nomatch (Option.some.inj this)
                refine ⟨fun σ H' => σ = [some (.ref a0), some (.int L), some (.int (sprd M)), some (.ref dl), some (.ref pl), some (.ref sl), some (.ref rn), some (.ref rl), some (.int (0 + (j : Int))), some (.int (mostOn M j D)), some (.ref r2), some (.ref kp)] ∧ H' = upd H9' pl (NdO P w pl (putN xs (keyN (kyD (lackOn M j D))) kp (.int ((rowE M D (runE M n).1 j).1.length : Nat)))), ?_, ?_⟩
                · refine ⟨_, rfl, dl, _, rfl, .inl (SqL.of k9.dL.1), _, rfl, _, rfl, pl, kp, xs, kyD (lackOn M j D), ⟨rfl, rfl, k9.nD, hkp, tO_kyD _, ky_depth _⟩, hroom (by omega), rfl, ?_⟩
                  rw [List.length_map, rsl9]
                  rfl
                rintro σ H10 ⟨rfl, rfl⟩
                have hdl10 : (upd H9' pl (NdO P w pl (putN xs (keyN (kyD (lackOn M j D))) kp (.int ((rowE M D (runE M n).1 j).1.length : Nat))))) dl = some (.lst (rs.map V.ref)) := by
                  rw [upd_ne pd.symm]
                  exact k9.dL.1
                have ts1 : TStay K H9' (upd H9' pl (NdO P w pl (putN xs (keyN (kyD (lackOn M j D))) kp (.int ((rowE M D (runE M n).1 j).1.length : Nat))))) := ts_upd k9.nD.here (fun _ z => nomatch z) (fun _ _ z => nomatch z)
                have ts2 := ts1.trans (ts_upd (o' := HO.lst (rs.map V.ref ++ [.ref r2])) hdl10 (fun _ z => nomatch z) (fun _ _ z => nomatch z))
                have nrp : rl ≠ pl := fun z => by
                  rw [z, k9.nD.here] at hrl9
                  exact nomatch (Option.some.inj hrl9)
                have nnp : rn ≠ pl := fun z => by
                  rw [z, k9.nD.here] at hrn9
                  exact nomatch (Option.some.inj hrn9)
                have nnd : rn ≠ dl := fun z => by
                  rw [z, k9.dL.1] at hrn9
                  exact nomatch (Option.some.inj hrn9)
                refine ⟨_, rfl, .inl ⟨rfl, _, SqL.of hdl10⟩, _, rfl, dl, _, _, rfl, rfl, hdl10, (by rw [List.length_map]; exact hroom (by omega)), rs ++ [r2], putN xs (keyN (kyD (lackOn M j D))) kp (.int ((rowE M D (runE M n).1 j).1.length : Nat)), rfl, ?_, ?_, rpAll_ts ts2 hvs9 (tOs_map tO_eP _), ?_, ?_, rp_ts ts2 hkp (tO_kyD _)⟩
                · rw [ea]
                  exact k9.add hr29 n2H hkp m
                · rw [upd_ne ne1, upd_ne nrp]
                  exact hrl9
                · rw [ea, List.length_append]
                  show ((_ + 1 : Nat) : Int) ≤ L
                  omega
                · rw [upd_ne nnd, upd_ne nnp]
                  exact hrn9
            rintro σ H10 ⟨rs2, xs2, rfl, k10, hrl10, hvs10, hL10, hrn10, hkp10⟩
            have vl : vs.length = j := by rw [hvs10.len, List.length_map, row_len]
            have val := pl_val k10.pL (lackOn M j D)
            rw [if_pos (mem_addD.mpr (.inr rfl))] at val
            refine ⟨_, rfl, .inl ⟨rfl, _, SqL.of hrl10⟩, _, rfl, _, rfl, _, rfl, pl, kp, xs2, kyD (lackOn M j D), _, ⟨rfl, rfl, k10.nD, hkp10, tO_kyD _, ky_depth _⟩, val, (by show 2 ≤ sizeLine; decide), fun t nt => ?_⟩
            have xt := same_upd (o := HO.tup [V.int (mostOn M j D), .int ((addD (rowE M D (runE M n).1 j).1 (lackOn M j D)).idxOf (lackOn M j D) : Nat)]) nt
            have ht : (upd H10 t (.tup [V.int (mostOn M j D), .int ((addD (rowE M D (runE M n).1 j).1 (lackOn M j D)).idxOf (lackOn M j D) : Nat)])) t = some (.tup [V.int (mostOn M j D), .int ((addD (rowE M D (runE M n).1 j).1 (lackOn M j D)).idxOf (lackOn M j D) : Nat)]) := upd_same
            generalize upd H10 t (.tup [V.int (mostOn M j D), .int ((addD (rowE M D (runE M n).1 j).1 (lackOn M j D)).idxOf (lackOn M j D) : Nat)]) = H11 at xt ht ⊢
            have k11 := k10.same xt
            have hrl11 := xt _ _ hrl10
            have bt : But rl H11 (upd H11 rl (.lst (vs ++ [.ref t]))) := fun b o nb e => by rw [upd_ne nb]; exact e
            have tsr : TStay K H11 (upd H11 rl (.lst (vs ++ [.ref t]))) := ts_upd hrl11 (fun _ z => nomatch z) (fun _ _ z => nomatch z)
            have nrl : rn ≠ rl := fun z => by
              rw [z, hrl10] at hrn10
              exact nomatch (Option.some.inj hrn10)
            refine ⟨rl, vs, .ref t, rfl, rfl, hrl11, (by rw [vl]; exact hroom (by omega)), rs2, xs2, vs ++ [.ref t], _, _, _, _, rfl, ?_, upd_same, ?_, hL10, ?_⟩
            · exact k11.go bt (fun o e => by rw [hrl11] at e; exact ⟨_, (Option.some.inj e).symm⟩) ne1 ne2 nH
            · show RpAll K _ (vs ++ [.ref t]) (((rowE M D (runE M n).1 j).2 ++ [_]).map eP)
              rw [List.map_append]
              refine rp_snoc (rpAll_ts ((ts_same xt).trans tsr) hvs10 (tOs_map tO_eP _)) ?_
              exact rp_ts tsr (.tup (SqT.of ht) (.cons (.int _) (.cons (.int _) .nil))) (tO_eP _)
            · rw [upd_ne nrl]
              exact xt _ _ hrn10
          · rintro σ H7 ⟨rs, xs, vs, l8, l9, l10, l11, rfl, k7, hrl7, hvs, hL7, _⟩
            rw [show (M.z.length : Int).toNat = M.z.length by omega] at k7 hvs hL7
            exact ⟨rs, xs, vs, l8, l9, l10, l11, rfl, k7, hrl7, hvs, hL7⟩
        rintro σ H7 ⟨rs, xs, vs, l8, l9, l10, l11, rfl, k7, hrl7, hvs, hL7⟩
        have vl : vs.length = M.z.length := by rw [hvs.len, List.length_map, row_len]
        refine ⟨_, rfl, .inl ⟨rfl, _, SqL.of k7.sL⟩, _, rfl, rl, vs, rfl, .inl ⟨SqL.of hrl7, fun st nst => ?_⟩⟩
        have xt := same_upd (o := HO.tup vs) nst
        have k8 := k7.same xt
        have rst : Rp K (upd H7 st (.tup vs)) (.ref st) (rwD (rowE M D (runE M n).1 M.z.length).2) := .tup (SqT.of upd_same) (rpAll_ts (ts_same xt) hvs (tOs_map tO_eP _))
        have k9 := k8.push rst
        refine ⟨sl, us, .ref st, rfl, rfl, k8.sL, hroom (by omega), ⟨n + 1, rs, xs, us ++ [.ref st], _, _, _, _, _, _, rfl, ?_, ?_, ?_⟩, ?_⟩
        · rw [nxt]
          exact k9
        · rw [nxt, List.length_append, hn]
          rfl
        · rw [nxt]
          exact hL7
        · rw [lenL_of k5.sL, lenL_of upd_same, List.length_append]
          show 301 - (us.length + 1) < 301 - us.length
          omega
      · rw [decide_eq_false lt]
        refine iteF ⟨n, rs, xs, us, l6, l7, l8, l9, l10, l11, rfl, k5, ?_, hL⟩
        unfold Closed
        omega
    · intro σ H' Q1 Q2 hq hc
      obtain ⟨v, hv, p1, y1, e1, s1, v2, hv2, p2, y2, e2, s2, i, j, e3, e4, k', hk, q'⟩ := hc
      exact ⟨v, hv, p1, y1, e1, s1, v2, hv2, p2, y2, e2, s2, i, j, e3, e4, k', hk, hq _ _ q'⟩
  rintro σ H5 ⟨n, rs, xs, us, l6, l7, l8, l9, l10, l11, rfl, k5, cl, hL⟩
  refine ⟨_, rfl, _, rfl, sl, us, rfl, .inl ⟨SqL.of k5.sL, fun st nst => ⟨(by show 2 ≤ sizeLine; decide), fun t nt => ?_⟩⟩⟩
  have x1 := same_upd (o := HO.tup us) nst
  have x2 := same_upd (o := HO.tup [V.ref dl, .ref st]) nt
  have k6 := k5.same (x1.trans x2)
  exact q n _ t dl (.ref st) rs cl hL k6.sm upd_same k5.nd k6.dL k5.nr (.tup (SqT.of (x2 _ _ upd_same)) k6.sT)
end
end My
/-! ### need_limit, led, lacks_of -/
namespace My
open PySem PySem.Spec PyProof.Rows L2 PySem.Builtin.Str
abbrev sNeedLimit : Stmt := topS 36
abbrev sLed : Stmt := topS 39
abbrev sLacksOf : Stmt := topS 40
theorem scNeedLimit : FnScope ["thing", "most"] ["thing", "most"] (defScope sNeedLimit) := ⟨rfl, rfl, rfl, by decide +kernel, rfl, by decide +kernel, by decide +kernel⟩
theorem scLed : FnScope ["machine", "limit", "frame"] ["machine", "limit"] (defScope sLed) := ⟨rfl, rfl, rfl, by decide +kernel, rfl, by decide +kernel, by decide +kernel⟩
theorem scLacksOf : FnScope ["machine", "limit", "frame"] ["machine", "limit"] (defScope sLacksOf) := ⟨rfl, rfl, rfl, by decide +kernel, rfl, by decide +kernel, by decide +kernel⟩
structure LeTxt (K : PySem.W.Frag) (mg : Str → Option Value) (m1 m2 m3 m4 m5 m6 m7 m8 m9 m10 m11 m12 : Addr) (n1 n2 n3 n4 n5 n6 n7 n8 n9 n10 n11 n12 : FuncData) (t1 t2 t3 t4 t5 t6 : Tok) (CM a1 a3 : Addr) (b1 b3 : FuncData) (p1 p2 p3 p4 p5 p6 p7 p8 : Addr) (q1 q2 q3 q4 q5 q6 q7 q8 : FuncData) (CG CI : Addr) : Prop where
  frm : FrmTxt K mg m1 m2 m3 m4 m5 m6 m7 m8 m9 m10 m11 m12 n1 n2 n3 n4 n5 n6 n7 n8 n9 n10 n11 n12 t1 t2 t3 t4 t5 CM a1 a3 b1 b3
  dO : DoTxt K mg p1 p2 p3 p4 p5 q1 q2 q3 q4 q5 CG
  mDicts : mg "MOST_DICTS" = some (.int 300 t6)
  noLimit : ExcF K mg "NoLimit" CI
  FNeedLimit : Fun K "need_limit" "need_limit" sNeedLimit p6 q6
  bNeedLimit : Binds K q6 ["thing", "most"] []
  gNeedLimit : mg "need_limit" = some (.ref p6)
  FLed : FunD K "led" "led" (defArgs sLed) (defBody sLed) (defScope sLed) [] [("limit", .int 300)] p7 q7
  gLed : mg "led" = some (.ref p7)
  FLacksOf : FunD K "lacks_of" "lacks_of" (defArgs sLacksOf) (defBody sLacksOf) (defScope sLacksOf) [] [("limit", .int 300)] p8 q8
  gLacksOf : mg "lacks_of" = some (.ref p8)
theorem tO_stD (rows : List (List (Int × Int))) : tO (stD rows) = true := by
  rw [stD, tO]
  exact tOs_map tO_rwD _
def spNeedLimit (K : PySem.W.Frag) (CI : Addr) : Sp := fun vs H Q E => ∃ x d, vs = [x, .int 300] ∧ Rp K H x d ∧ ((betD 1 300 d = true ∧ Q .non H) ∨ (betD 1 300 d = false ∧ E (.ref CI) none H))
section
variable {P : Program} {w : World} {K : PySem.W.Frag} {mg : Str → Option Value} {base : Heap} {m1 m2 m3 m4 m5 m6 m7 m8 m9 m10 m11 m12 : Addr} {n1 n2 n3 n4 n5 n6 n7 n8 n9 n10 n11 n12 : FuncData} {t1 t2 t3 t4 t5 t6 : Tok} {CM a1 a3 : Addr} {b1 b3 : FuncData} {p1 p2 p3 p4 p5 p6 p7 p8 : Addr} {q1 q2 q3 q4 q5 q6 q7 q8 : FuncData} {CG CI : Addr}
theorem ok_needLimit (T : LeTxt K mg m1 m2 m3 m4 m5 m6 m7 m8 m9 m10 m11 m12 n1 n2 n3 n4 n5 n6 n7 n8 n9 n10 n11 n12 t1 t2 t3 t4 t5 t6 CM a1 a3 b1 b3 p1 p2 p3 p4 p5 p6 p7 p8 q1 q2 q3 q4 q5 q6 q7 q8 CG CI) {k : Nat} : FnOk P w K mg base (L2.CX P w) (k + 3) p6 q6 ["thing", "most"] (spNeedLimit K CI) := by
  have GB : FnOk P w K mg base CX0 (k + 2) m2 n2 ["thing", "low", "high"] (spBetween K) := ok_between T.frm.mach.look
  refine T.FNeedLimit.okX scNeedLimit (fun vs H Q E h => ?_) (fun cdv A outer s H vs Q E hr h => ?_)
  · obtain ⟨x, d, rfl, _⟩ := h
    rfl
  · obtain ⟨x, d, rfl, hd, h⟩ := h
    refine ⟨_, (pss_one (ps_if (pt_not (pt_val (pe_call GB hr (by rfl) T.frm.mach.look.gBetween T.frm.mach.look.FBetween.kp T.frm.mach.look.bBetween .nil pass0 (pa_cons (pv 0) (pa_cons pe_int (pa_cons (pv 1) pa_nil)))))) (pss_one (ps_raise rfl (takes_of rfl rfl rfl rfl) (SkE.pmk_own1 PySem.F.excBase_ValueError T.noLimit.q T.noLimit.g T.noLimit.k (raises_own T.noLimit.b T.noLimit.t) (by exact rfl) (pe_joined (.cons pe_str (.cons (pe_fmt (pv 1)) .nil)))))) pss_nil)), ?_⟩
    refine ⟨_, rfl, _, rfl, x, d, 1, 300, rfl, hd, _, rfl, ?_⟩
    rcases h with ⟨hb, q⟩ | ⟨hb, q⟩
    · rw [hb]
      exact iteF q
    · rw [hb]
      refine iteT ⟨_, rfl, (by show (Str.empty ++ Str.ofString "limit is not an integer from 1 to ").length ≤ sizeLine; decide +kernel), _, rfl, .inr ⟨300, rfl, by decide +kernel, _, rfl, (by decide +kernel), q⟩⟩
def ledD (M : Mc) (n : Nat) : PyData := .tuple [.int M.b, .str M.z, stD (runE M n).2]
def spLed (K : PySem.W.Frag) (CM CI CG : Addr) : Sp := fun vs H Q E => ∃ x y d e, vs = [x, y] ∧ Rp K H x d ∧ Rp K H y e ∧
  ((mchD d = false ∧ plnD d = false ∧ ∀ H', Same H H' → E (.ref CM) none H') ∨ ∃ M, Frame d M ∧
    ((betD 1 300 e = false ∧ ∀ H', Same H H' → E (.ref CI) none H') ∨ ∃ L, e = .int L ∧ 1 ≤ L ∧ L ≤ 300 ∧ (∀ n H', L < ((runE M n).1.length : Int) → Same H H' → E (.ref CG) none H') ∧
      (∀ n H' t, Closed M n → ((runE M n).1.length : Int) ≤ L → Same H H' → H t = none → Rp K H' (.ref t) (ledD M n) → Q (.ref t) H')))
def spLacksOf (K : PySem.W.Frag) (CM CI CG : Addr) : Sp := fun vs H Q E => ∃ x y d e, vs = [x, y] ∧ Rp K H x d ∧ Rp K H y e ∧
  ((mchD d = false ∧ plnD d = false ∧ ∀ H', Same H H' → E (.ref CM) none H') ∨ ∃ M, Frame d M ∧
    ((betD 1 300 e = false ∧ ∀ H', Same H H' → E (.ref CI) none H') ∨ ∃ L, e = .int L ∧ 1 ≤ L ∧ L ≤ 300 ∧ (∀ n H', L < ((runE M n).1.length : Int) → Same H H' → E (.ref CG) none H') ∧
      (∀ n H' dl rs, Closed M n → ((runE M n).1.length : Int) ≤ L → Same H H' → H dl = none → DL H' dl rs (runE M n).1 → (∀ r ∈ rs, H r = none) → Q (.ref dl) H')))
theorem ok_led (T : LeTxt K mg m1 m2 m3 m4 m5 m6 m7 m8 m9 m10 m11 m12 n1 n2 n3 n4 n5 n6 n7 n8 n9 n10 n11 n12 t1 t2 t3 t4 t5 t6 CM a1 a3 b1 b3 p1 p2 p3 p4 p5 p6 p7 p8 q1 q2 q3 q4 q5 q6 q7 q8 CG CI) {k : Nat} : FnOk P w K mg base (L2.CX P w) (k + 7) p7 q7 ["machine", "limit"] (spLed K CM CI CG) := by
  have GM : FnOk P w K mg base (L2.CX P w) (k + 6) a1 b1 ["thing", "name"] (spNeedMachine K CM) := ok_needMachine T.frm
  have GL : FnOk P w K mg base (L2.CX P w) (k + 6) p6 q6 ["thing", "most"] (spNeedLimit K CI) := ok_needLimit T (k := k + 3)
  have GD : FnOk P w K mg base (L2.CX P w) (k + 6) p5 q5 ["frame", "limit"] (spDictsOf K CG) := ok_dictsOf T.dO (k := k + 2)
  refine T.FLed.ok scLed (fun vs H Q E h => ?_) (fun cdv A outer s H vs Q E hr h => ?_)
  · obtain ⟨x, y, d, e, rfl, _⟩ := h
    rfl
  · obtain ⟨x, y, d, e, rfl, hx, hy, h⟩ := h
    refine ⟨_, (Evl.pss_cut (ps_set (i := 2) scLed.nd rfl (.inl rfl) (pe_call GM hr (by rfl) T.frm.gNeedMachine T.frm.FNeedMachine.kp T.frm.bNeedMachine .nil (passes_call (takes_of rfl rfl rfl rfl) (fun _ _ _ _ h => h)) (pa_cons (pv 0) (pa_cons pe_str pa_nil))))
 (Evl.pss_cut (ps_expr (pe_call GL hr (by rfl) T.gNeedLimit T.FNeedLimit.kp T.bNeedLimit .nil (passes_call (takes_of rfl rfl rfl rfl) (fun _ _ _ _ h => h)) (pa_cons (pv 1) (pa_cons (pe_glob (v := .int 300) (by rfl) T.mDicts ⟨_, rfl⟩) pa_nil))))
 (pss_one (ps_ret (pe_tup (pa_cons (pe_ix ix_tup (pv 2) pe_int (fun _ _ => rfl)) (pa_cons (pe_ix ix_tup (pv 2) pe_int (fun _ _ => rfl)) (pa_cons (pe_ix ix_tup (pe_call GD hr (by rfl) T.dO.gDictsOf T.dO.FDictsOf.kp T.dO.bDictsOf .nil (passes_call (takes_of rfl rfl rfl rfl) (fun _ _ _ _ h => h)) (pa_cons (pv 2) (pa_cons (pv 1) pa_nil))) pe_int (fun _ _ => rfl)) pa_nil)))))))), ?_⟩
    have nml : ("machine" : Str).length ≤ 100 := by decide +kernel
    rcases h with ⟨z1, z2, q⟩ | ⟨M, hF, h⟩
    · refine ⟨fun _ _ => False, ?_, fun _ _ z => z.elim⟩
      exact ⟨_, rfl, x, d, _, rfl, hx, nml, .inr (.inr ⟨z1, z2, fun H' s' => q H' s'⟩)⟩
    have hM := hF.1
    refine ⟨fun σ H1 => ∃ v, σ = [some x, some y, some v] ∧ Same H H1 ∧ Rp K H1 v (eM M), ?_, ?_⟩
    · exact ⟨_, rfl, frame_need hF hx nml fun H1 v s1 r1 => ⟨v, rfl, s1, r1⟩⟩
    rintro σ H1 ⟨v, rfl, s1, r1⟩
    rcases h with ⟨hb, q⟩ | ⟨L, rfl, L1, L3, qE, q⟩
    · refine ⟨fun _ _ => False, ?_, fun _ _ z => z.elim⟩
      exact ⟨_, rfl, y, e, rfl, hy.go s1, .inr ⟨hb, q H1 s1⟩⟩
    obtain rfl := hy.isInt
    refine ⟨fun σ H2 => σ = [some x, some (.int L), some v] ∧ H2 = H1, ?_, ?_⟩
    · exact ⟨_, rfl, _, _, rfl, .int L, .inl ⟨betD_ok L1 L3, rfl, rfl⟩⟩
    rintro σ H2 ⟨rfl, rfl⟩
    obtain ⟨a0, w3, rfl, hS, hC⟩ := r1.three
    refine ⟨_, rfl, a0, _, 0, _, rfl, rfl, hS, rfl, _, rfl, a0, _, 1, _, rfl, rfl, hS, rfl, _, rfl, _, rfl, .ref a0, M, L, rfl, r1, hM, L1, L3, fun n H' l s' => qE n H' l (s1.trans s'), fun n H' t dl st rs cl l s' ht nd hdl nr hst => ?_⟩
    refine ⟨t, _, 1, st, rfl, rfl, SqT.of ht, rfl, (by show 3 ≤ sizeLine; decide), fun u nu => ?_⟩
    have xu := same_upd (o := HO.tup [V.int M.b, .str M.z, st]) nu
    have zs : M.z.length ≤ sizeLine := Nat.le_trans (ltr_pos hM.ltr).2 (by decide)
    exact q n _ u cl l ((s1.trans s').trans xu) ((s1.trans s').free nu) (.tup (SqT.of upd_same) (.cons (.int _) (.cons (.str _ zs) (.cons (rp_ts (ts_same xu) hst (tO_stD _)) .nil))))
theorem ok_lacksOf (T : LeTxt K mg m1 m2 m3 m4 m5 m6 m7 m8 m9 m10 m11 m12 n1 n2 n3 n4 n5 n6 n7 n8 n9 n10 n11 n12 t1 t2 t3 t4 t5 t6 CM a1 a3 b1 b3 p1 p2 p3 p4 p5 p6 p7 p8 q1 q2 q3 q4 q5 q6 q7 q8 CG CI) {k : Nat} : FnOk P w K mg base (L2.CX P w) (k + 7) p8 q8 ["machine", "limit"] (spLacksOf K CM CI CG) := by
  have GM : FnOk P w K mg base (L2.CX P w) (k + 6) a1 b1 ["thing", "name"] (spNeedMachine K CM) := ok_needMachine T.frm
  have GL : FnOk P w K mg base (L2.CX P w) (k + 6) p6 q6 ["thing", "most"] (spNeedLimit K CI) := ok_needLimit T (k := k + 3)
  have GD : FnOk P w K mg base (L2.CX P w) (k + 6) p5 q5 ["frame", "limit"] (spDictsOf K CG) := ok_dictsOf T.dO (k := k + 2)
  refine T.FLacksOf.ok scLacksOf (fun vs H Q E h => ?_) (fun cdv A outer s H vs Q E hr h => ?_)
  · obtain ⟨x, y, d, e, rfl, _⟩ := h
    rfl
  · obtain ⟨x, y, d, e, rfl, hx, hy, h⟩ := h
    refine ⟨_, (Evl.pss_cut (ps_set (i := 2) scLacksOf.nd rfl (.inl rfl) (pe_call GM hr (by rfl) T.frm.gNeedMachine T.frm.FNeedMachine.kp T.frm.bNeedMachine .nil (passes_call (takes_of rfl rfl rfl rfl) (fun _ _ _ _ h => h)) (pa_cons (pv 0) (pa_cons pe_str pa_nil))))
 (Evl.pss_cut (ps_expr (pe_call GL hr (by rfl) T.gNeedLimit T.FNeedLimit.kp T.bNeedLimit .nil (passes_call (takes_of rfl rfl rfl rfl) (fun _ _ _ _ h => h)) (pa_cons (pv 1) (pa_cons (pe_glob (v := .int 300) (by rfl) T.mDicts ⟨_, rfl⟩) pa_nil))))
 (pss_one (ps_ret (pe_ix ix_tup (pe_call GD hr (by rfl) T.dO.gDictsOf T.dO.FDictsOf.kp T.dO.bDictsOf .nil (passes_call (takes_of rfl rfl rfl rfl) (fun _ _ _ _ h => h)) (pa_cons (pv 2) (pa_cons (pv 1) pa_nil))) pe_int (fun _ _ => rfl)))))), ?_⟩
    have nml : ("machine" : Str).length ≤ 100 := by decide +kernel
    rcases h with ⟨z1, z2, q⟩ | ⟨M, hF, h⟩
    · refine ⟨fun _ _ => False, ?_, fun _ _ z => z.elim⟩
      exact ⟨_, rfl, x, d, _, rfl, hx, nml, .inr (.inr ⟨z1, z2, fun H' s' => q H' s'⟩)⟩
    have hM := hF.1
    refine ⟨fun σ H1 => ∃ v, σ = [some x, some y, some v] ∧ Same H H1 ∧ Rp K H1 v (eM M), ?_, ?_⟩
    · exact ⟨_, rfl, frame_need hF hx nml fun H1 v s1 r1 => ⟨v, rfl, s1, r1⟩⟩
    rintro σ H1 ⟨v, rfl, s1, r1⟩
    rcases h with ⟨hb, q⟩ | ⟨L, rfl, L1, L3, qE, q⟩
    · refine ⟨fun _ _ => False, ?_, fun _ _ z => z.elim⟩
      exact ⟨_, rfl, y, e, rfl, hy.go s1, .inr ⟨hb, q H1 s1⟩⟩
    obtain rfl := hy.isInt
    refine ⟨fun σ H2 => σ = [some x, some (.int L), some v] ∧ H2 = H1, ?_, ?_⟩
    · exact ⟨_, rfl, _, _, rfl, .int L, .inl ⟨betD_ok L1 L3, rfl, rfl⟩⟩
    rintro σ H2 ⟨rfl, rfl⟩
    refine ⟨_, rfl, _, rfl, v, M, L, rfl, r1, hM, L1, L3, fun n H' l s' => qE n H' l (s1.trans s'), fun n H' t dl st rs cl l s' ht nd hdl nr hst => ?_⟩
    exact ⟨t, _, 0, .ref dl, rfl, rfl, SqT.of ht, rfl, q n _ dl rs cl l (s1.trans s') (s1.free nd) hdl fun r hr => s1.free (nr r hr)⟩
theorem led_binds (T : LeTxt K mg m1 m2 m3 m4 m5 m6 m7 m8 m9 m10 m11 m12 n1 n2 n3 n4 n5 n6 n7 n8 n9 n10 n11 n12 t1 t2 t3 t4 t5 t6 CM a1 a3 b1 b3 p1 p2 p3 p4 p5 p6 p7 p8 q1 q2 q3 q4 q5 q6 q7 q8 CG CI) : ∃ ds, Vals [V.int 300] ds ∧ Binds K q7 ["machine", "limit"] ds :=
  T.FLed.binds0 1 (by simp) rfl (fun D doc pm an cdv ct us ks h1 h2 => match us, ks, h1, h2 with
    | [_], [_], _, _ => ⟨_, _, _, _, _, _, rfl, rfl, rfl⟩)
theorem led_kbinds (T : LeTxt K mg m1 m2 m3 m4 m5 m6 m7 m8 m9 m10 m11 m12 n1 n2 n3 n4 n5 n6 n7 n8 n9 n10 n11 n12 t1 t2 t3 t4 t5 t6 CM a1 a3 b1 b3 p1 p2 p3 p4 p5 p6 p7 p8 q1 q2 q3 q4 q5 q6 q7 q8 CG CI) : KBn K q7 ["machine", "limit"] 1 ["limit"] (fun us ws => us ++ ws) (fun vs zs => vs ++ zs) := by
  obtain ⟨mv, h⟩ := T.FLed.kbinds0 (ps := ["machine", "limit"]) 1 ["limit"] [] (fun us _ ws => us ++ ws) (by simp) (fun _ h => nomatch h) (fun r1 _ r3 => r1.append r3) (fun D doc pm an cdv ct us mv ws h1 h2 h3 => match us, mv, ws, h1, h2, h3 with
    | [_], [], [_], _, _, _ => rfl)
  exact h
theorem lof_binds (T : LeTxt K mg m1 m2 m3 m4 m5 m6 m7 m8 m9 m10 m11 m12 n1 n2 n3 n4 n5 n6 n7 n8 n9 n10 n11 n12 t1 t2 t3 t4 t5 t6 CM a1 a3 b1 b3 p1 p2 p3 p4 p5 p6 p7 p8 q1 q2 q3 q4 q5 q6 q7 q8 CG CI) : ∃ ds, Vals [V.int 300] ds ∧ Binds K q8 ["machine", "limit"] ds :=
  T.FLacksOf.binds0 1 (by simp) rfl (fun D doc pm an cdv ct us ks h1 h2 => match us, ks, h1, h2 with
    | [_], [_], _, _ => ⟨_, _, _, _, _, _, rfl, rfl, rfl⟩)
theorem lof_kbinds (T : LeTxt K mg m1 m2 m3 m4 m5 m6 m7 m8 m9 m10 m11 m12 n1 n2 n3 n4 n5 n6 n7 n8 n9 n10 n11 n12 t1 t2 t3 t4 t5 t6 CM a1 a3 b1 b3 p1 p2 p3 p4 p5 p6 p7 p8 q1 q2 q3 q4 q5 q6 q7 q8 CG CI) : KBn K q8 ["machine", "limit"] 1 ["limit"] (fun us ws => us ++ ws) (fun vs zs => vs ++ zs) := by
  obtain ⟨mv, h⟩ := T.FLacksOf.kbinds0 (ps := ["machine", "limit"]) 1 ["limit"] [] (fun us _ ws => us ++ ws) (by simp) (fun _ h => nomatch h) (fun r1 _ r3 => r1.append r3) (fun D doc pm an cdv ct us mv ws h1 h2 h3 => match us, mv, ws, h1, h2, h3 with
    | [_], [], [_], _, _, _ => rfl)
  exact h
end
end My
/-! ### new pairs -/
namespace My
open PySem PySem.Spec PyProof.Rows L2 PySem.Builtin.Str
/-- new pairs on the heap -/
def Prs (H : Hp) (vs : List V) (D : Dk) : Prop := vs.length = D.length ∧ ∀ (i : Nat) (kv : Int × Int), D[i]? = some kv → ∃ t : Addr, vs[i]? = some (V.ref t) ∧ H t = some (HO.tup [V.int kv.1, V.int kv.2])
theorem prs_go {H H' : Hp} {vs : List V} {D : Dk} (h : Prs H vs D) (s : ∀ t xs, H t = some (.tup xs) → H' t = some (.tup xs)) : Prs H' vs D := ⟨h.1, fun i kv e => by
  obtain ⟨t, a, b⟩ := h.2 i kv e
  exact ⟨t, a, s _ _ b⟩⟩
theorem prs_snoc {H : Hp} {vs : List V} {D : Dk} {kv : Int × Int} {t : Addr} (h : Prs H vs D) (ht : H t = some (.tup [.int kv.1, .int kv.2])) : Prs H (vs ++ [.ref t]) (D ++ [kv]) := by
  refine ⟨by rw [List.length_append, List.length_append, h.1]; rfl, fun i q e => ?_⟩
  by_cases l : i < D.length
  · rw [List.getElem?_append_left l] at e
    obtain ⟨u, a, b⟩ := h.2 i q e
    exact ⟨u, by rw [List.getElem?_append_left (by rw [h.1]; exact l)]; exact a, b⟩
  · have hi : i = D.length := by
      have := (List.getElem?_eq_some_iff.mp e).1
      rw [List.length_append, List.length_singleton] at this
      omega
    subst hi
    rw [List.getElem?_append_right (Nat.le_refl _), Nat.sub_self] at e
    obtain rfl : kv = q := Option.some.inj e
    exact ⟨t, by rw [List.getElem?_append_right (by rw [h.1]; exact Nat.le_refl _), h.1, Nat.sub_self]; rfl, ht⟩
theorem prs_tail {H : Hp} {v : V} {vs : List V} {kv : Int × Int} {D : Dk} (h : Prs H (v :: vs) (kv :: D)) : Prs H vs D := ⟨Nat.succ.inj h.1, fun i q e => h.2 (i + 1) q e⟩
theorem prs_rp {K : PySem.W.Frag} {H : Hp} : ∀ {vs : List V} {D : Dk}, Prs H vs D → RpAll K H vs (D.map eP)
  | [], [], _ => .nil
  | [], _ :: _, h => nomatch h.1
  | _ :: _, [], h => nomatch h.1
  | v :: vs, kv :: D, h => by
    obtain ⟨t, a, b⟩ := h.2 0 kv rfl
    obtain rfl : v = .ref t := Option.some.inj a
    exact .cons (.tup (SqT.of b) (.cons (.int _) (.cons (.int _) .nil))) (prs_rp (prs_tail h))
def pairOf (H : Hp) : V → Int × Int
  | .ref t => match H t with
    | some (.tup [.int a, .int b]) => (a, b)
    | _ => (0, 0)
  | _ => (0, 0)
theorem pair_of {H : Hp} {t : Addr} {a b : Int} (h : H t = some (.tup [.int a, .int b])) : pairOf H (.ref t) = (a, b) := by
  show (match H t with
    | some (HO.tup [V.int a, V.int b]) => (a, b)
    | _ => ((0 : Int), (0 : Int))) = (a, b)
  rw [h]
theorem prs_srt {H : Hp} {vs : List V} {D : Dk} (h : Prs H vs D) (a : Asc D) : SrtO.Srtd (ltP (pairOf H)) vs := by
  refine List.pairwise_iff_getElem.mpr fun i j hi hj ij => ?_
  have hi2 : i < D.length := by rw [← h.1]; exact hi
  have hj2 : j < D.length := by rw [← h.1]; exact hj
  obtain ⟨t, e1, b1⟩ := h.2 i _ (List.getElem?_eq_getElem hi2)
  obtain ⟨u, e2, b2⟩ := h.2 j _ (List.getElem?_eq_getElem hj2)
  have f1 : vs[i] = .ref t := Option.some.inj ((List.getElem?_eq_getElem hi).symm.trans e1)
  have f2 : vs[j] = .ref u := Option.some.inj ((List.getElem?_eq_getElem hj).symm.trans e2)
  have lt := List.pairwise_iff_getElem.mp a i j hi2 hj2 ij
  show SrtO.lexB (pairOf H vs[j]) (pairOf H vs[i]) = false
  rw [f1, f2, pair_of b1, pair_of b2]
  refine SrtO.lexB_no.mpr ?_
  show ¬ (D[j].1 < D[i].1 ∨ (D[j].1 = D[i].1 ∧ D[j].2 < D[i].2))
  omega
end My
/-! ### the law's own led machine -/
namespace My
open PySem PySem.Spec PyProof.Rows L2 PySem.Builtin.Str
abbrev sXLed : Stmt := topS 56
theorem scXLed : FnScope ["machine", "pays", "dicts", "keys", "states", "row", "at", "pay", "lacks", "key", "state"] ["machine"] (defScope sXLed) := ⟨rfl, rfl, rfl, by decide +kernel, rfl, by decide +kernel, by decide +kernel⟩
structure XlTxt (K : PySem.W.Frag) (mg : Str → Option Value) (x1 x2 x3 x4 : Addr) (y1 y2 y3 y4 : FuncData) : Prop where
  f2 : Lf2 K mg x1 x2 x3 y1 y2 y3
  FXLed : Fun K "_law_x_led" "_law_x_led" sXLed x4 y4
  bXLed : Binds K y4 ["machine"] []
  gXLed : mg "_law_x_led" = some (.ref x4)
theorem zero_nd {P : Program} {w : World} {K : PySem.W.Frag} {M : Mc} {H H1 : Hp} {r0 dl pl b1 b2 : Addr} (s1 : Same H H1) (n0 : H1 r0 = none) (nd : (upd (upd H1 r0 (.dK [])) r0 (.dK (kd [(0, 0)]))) dl = none)
    (np : (upd (upd (upd H1 r0 (.dK [])) r0 (.dK (kd [(0, 0)]))) dl (.lst [V.ref r0])) pl = none)
    (h1 : (upd (upd (upd (upd H1 r0 (.dK [])) r0 (.dK (kd [(0, 0)]))) dl (.lst [V.ref r0])) pl (NdO P w pl [])) b1 = none)
    (h2 : (upd (upd (upd (upd (upd H1 r0 (.dK [])) r0 (.dK (kd [(0, 0)]))) dl (.lst [V.ref r0])) pl (NdO P w pl [])) b1 (.tup [V.int 0, .int 0])) b2 = none) :
    Rp K (upd (upd (upd (upd (upd (upd H1 r0 (.dK [])) r0 (.dK (kd [(0, 0)]))) dl (.lst [V.ref r0])) pl (NdO P w pl [])) b1 (.tup [V.int 0, .int 0])) b2 (.tup [.ref b1])) (.ref b2) (kyD [(0, 0)]) ∧
    (upd (upd (upd (upd (upd (upd H1 r0 (.dK [])) r0 (.dK (kd [(0, 0)]))) dl (.lst [V.ref r0])) pl (NdO P w pl [])) b1 (.tup [V.int 0, .int 0])) b2 (.tup [.ref b1])) pl = some (NdO P w pl []) ∧
    ∀ sl, (upd (upd (upd (upd (upd (upd (upd H1 r0 (.dK [])) r0 (.dK (kd [(0, 0)]))) dl (.lst [V.ref r0])) pl (NdO P w pl [])) b1 (.tup [V.int 0, .int 0])) b2 (.tup [.ref b1])) pl (NdO P w pl [(keyN (kyD [(0, 0)]), b2, .int 0)])) sl = none →
      ∀ t o, (upd (upd (upd (upd (upd (upd (upd (upd H1 r0 (.dK [])) r0 (.dK (kd [(0, 0)]))) dl (.lst [V.ref r0])) pl (NdO P w pl [])) b1 (.tup [V.int 0, .int 0])) b2 (.tup [.ref b1])) pl (NdO P w pl [(keyN (kyD [(0, 0)]), b2, .int 0)])) sl (.lst [])) t = none →
        Wk P w K H (upd (upd (upd (upd (upd (upd (upd (upd (upd H1 r0 (.dK [])) r0 (.dK (kd [(0, 0)]))) dl (.lst [V.ref r0])) pl (NdO P w pl [])) b1 (.tup [V.int 0, .int 0])) b2 (.tup [.ref b1])) pl (NdO P w pl [(keyN (kyD [(0, 0)]), b2, .int 0)])) sl (.lst [])) t o) dl pl sl [r0] [(keyN (kyD [(0, 0)]), b2, .int 0)] [] (runE M 0) ∧
        Same H1 (upd (upd (upd (upd (upd (upd (upd (upd (upd H1 r0 (.dK [])) r0 (.dK (kd [(0, 0)]))) dl (.lst [V.ref r0])) pl (NdO P w pl [])) b1 (.tup [V.int 0, .int 0])) b2 (.tup [.ref b1])) pl (NdO P w pl [(keyN (kyD [(0, 0)]), b2, .int 0)])) sl (.lst [])) t o) := by
  have x1 : Same H1 (upd (upd H1 r0 (.dK [])) r0 (.dK (kd [(0, 0)]))) := same_new (same_upd n0) n0
  have e1 : (upd (upd H1 r0 (.dK [])) r0 (.dK (kd [(0, 0)]))) r0 = some (.dK (kd [(0, 0)])) := upd_same
  generalize upd (upd H1 r0 (.dK [])) r0 (.dK (kd [(0, 0)])) = H2 at x1 e1 nd np h1 h2 ⊢
  have x2 := same_upd (o := HO.lst [V.ref r0]) nd
  have e2 : (upd H2 dl (.lst [V.ref r0])) dl = some (.lst [V.ref r0]) := upd_same
  generalize upd H2 dl (.lst [V.ref r0]) = H3 at x2 e2 np h1 h2 ⊢
  have x30 := same_upd (o := NdO P w pl []) np
  have x31 := same_upd (o := HO.tup [V.int 0, .int 0]) h1
  have x32 := same_upd (o := HO.tup [V.ref b1]) h2
  have rp : Rp K (upd (upd (upd H3 pl (NdO P w pl [])) b1 (.tup [V.int 0, .int 0])) b2 (.tup [.ref b1])) (.ref b2) (kyD [(0, 0)]) := .tup (SqT.of upd_same) (.cons (.tup (SqT.of (x32 _ _ upd_same)) (.cons (.int 0) (.cons (.int 0) .nil))) .nil)
  have hp := x32 _ _ (x31 _ _ (upd_same (H := H3) (a := pl) (o := NdO P w pl [])))
  have nd0 : ND P w K _ pl [] := ⟨hp, fun _ h => nomatch h⟩
  have nd1 : ND P w K (upd (upd (upd (upd H3 pl (NdO P w pl [])) b1 (.tup [V.int 0, .int 0])) b2 (.tup [.ref b1])) pl (NdO P w pl [(keyN (kyD [(0, 0)]), b2, .int 0)])) pl [(keyN (kyD [(0, 0)]), b2, .int 0)] := nd0.put (v := .int 0) rp (tO_kyD _) (ky_depth _)
  have x4 : Same H3 (upd (upd (upd (upd H3 pl (NdO P w pl [])) b1 (.tup [V.int 0, .int 0])) b2 (.tup [.ref b1])) pl (NdO P w pl [(keyN (kyD [(0, 0)]), b2, .int 0)])) := same_new ((x30.trans x31).trans x32) np
  refine ⟨rp, hp, fun sl nsl t o nt => ?_⟩
  generalize upd (upd (upd (upd H3 pl (NdO P w pl [])) b1 (.tup [V.int 0, .int 0])) b2 (.tup [.ref b1])) pl (NdO P w pl [(keyN (kyD [(0, 0)]), b2, .int 0)]) = H4 at x4 nd1 nsl nt ⊢
  have x5 := same_upd (o := HO.lst []) nsl
  have e5 : (upd H4 sl (.lst [])) sl = some (.lst []) := upd_same
  generalize upd H4 sl (.lst []) = H5 at x5 e5 nt ⊢
  have x6 := same_upd (o := o) nt
  have s2 := s1.trans x1
  have s3 := s2.trans x2
  have s4 := s3.trans x4
  refine ⟨⟨(s4.trans x5).trans x6, s2.free nd, s3.free np, s4.free nsl, ne_of_none (x4 _ _ e2) nsl, fun r hr => ?_, ⟨x6 _ _ (x5 _ _ (x4 _ _ e2)), .cons (x6 _ _ (x5 _ _ (x4 _ _ (x2 _ _ e1)))) .nil⟩, ⟨rfl, fun i e D a b => ?_⟩, nd1.same (x5.trans x6), x6 _ _ e5, .nil⟩, (x1.trans x2).trans (x4.trans (x5.trans x6))⟩
  · rw [List.mem_singleton.mp hr]
    exact s1.free n0
  · match i, a, b with
    | 0, a, b =>
      cases a
      cases b
      exact ⟨rfl, rfl⟩
    | i + 1, a, _ => simp at a
section
variable {P : Program} {w : World} {K : PySem.W.Frag} {mg : Str → Option Value} {base : Heap} {x1 x2 x3 x4 : Addr} {y1 y2 y3 y4 : FuncData}
def spXLed (K : PySem.W.Frag) : Sp := fun vs H Q _ => ∃ (x : V) (d : PyData) (M : Mc), vs = [x] ∧ Rp K H x d ∧ Side d M ∧
  (∀ n H', 300 < (runE M n).1.length → Same H H' → Q .non H') ∧
  (∀ n H' t u dl rs, Closed M n → (runE M n).1.length ≤ 300 → Same H H' → H t = none → H' t = some (.tup [.ref u, .ref dl]) → Rp K H' (.ref u) (.tuple [.int M.b, .str M.z, stD (runE M n).2]) → H dl = none → DL H' dl rs (runE M n).1 → (∀ r ∈ rs, H r = none) → Q (.ref t) H')
theorem ok_xLed (T : XlTxt K mg x1 x2 x3 x4 y1 y2 y3 y4) {k : Nat} : FnOk P w K mg base CX0 (k + 3) x4 y4 ["machine"] (spXLed K) := by
  have GP : FnOk P w K mg base CX0 (k + 2) x2 y2 ["machine"] (spPays K) := ok_xPays T.f2.f1
  have GS : FnOk P w K mg base CX0 (k + 2) x3 y3 ["machine", "pays", "lacks", "at"] (spStep K) := ok_xStep T.f2
  refine T.FXLed.ok scXLed (fun vs H Q E h => by
    obtain ⟨x, d, M, rfl, _⟩ := h
    rfl) (fun cdv A outer s H vs Q E hr h => ?_)
  obtain ⟨x, d, M, rfl, hx, hsd, qN, q⟩ := h
  have hu : (A.deeper (envOfC "_law_x_led" (defScope sXLed) s.heap.objs.size x4 cdv)).units + 9 < cLine := by have := hr.un; omega
  refine ⟨_, (Evl.pss_cut (ps_asg (pe_tup (pa_cons (pe_call GP hr (by rfl) T.f2.f1.gXPays T.f2.f1.FXPays.kp T.f2.f1.bXPays .nil pass0 (pa_cons (pv 0) pa_nil)) (pa_cons (pe_lst (pa_cons (pe_disp (pps_cons pe_int pe_int pps_nil) (by rfl) (by rfl) (fun z => by cases z) (by decide)) pa_nil)) (pa_cons (pe_ndisp hu (pe_tup (pa_cons (pe_tup (pa_cons pe_int (pa_cons pe_int pa_nil))) pa_nil)) pe_int) (pa_cons (pe_lst pa_nil) pa_nil))))) (pg_tup rfl (pgs_cons (pg_name (i := 1) scXLed.nd rfl (.inl rfl)) (pgs_cons (pg_name (i := 2) scXLed.nd rfl (.inl rfl)) (pgs_cons (pg_name (i := 3) scXLed.nd rfl (.inl rfl)) (pgs_cons (pg_name (i := 4) scXLed.nd rfl (.inl rfl)) pgs_nil))))))
 (Evl.pss_cut (ps_while PassesOwn.never (pt_cmpR op_lt (pe_callB call_len_seq (by rfl) T.f2.f1.len PySem.boot_len (pa_cons (pv 4) pa_nil)) (pe_callB call_len_seq (by rfl) T.f2.f1.len PySem.boot_len (pa_cons (pv 2) pa_nil)) (nomark _))
 (Evl.pss_cut (ps_set (i := 5) scXLed.nd rfl (.inl rfl) (pe_lst pa_nil))
 (Evl.pss_cut (ps_for PassesOwn.never rfl (pi_range1 (by rfl) T.f2.f1.range (pa_cons (pe_callB call_len_str (by rfl) T.f2.f1.len PySem.boot_len (pa_cons (pe_ix ix_tup (pv 0) pe_int (fun _ _ => rfl)) pa_nil)) pa_nil)) (pg_name (i := 6) scXLed.nd rfl (.inl rfl))
 (Evl.pss_cut (ps_asg (pe_call GS hr (by rfl) T.f2.gXStep T.f2.FXStep.kp T.f2.bXStep .nil pass0 (pa_cons (pv 0) (pa_cons (pv 1) (pa_cons (pe_ix ix_list (pv 2) (pe_callB call_len_seq (by rfl) T.f2.f1.len PySem.boot_len (pa_cons (pv 4) pa_nil)) (fun _ _ => rfl)) (pa_cons (pv 6) pa_nil))))) (pg_tup rfl (pgs_cons (pg_name (i := 7) scXLed.nd rfl (.inl rfl)) (pgs_cons (pg_name (i := 8) scXLed.nd rfl (.inr rfl)) pgs_nil))))
 (Evl.pss_cut (ps_set (i := 9) scXLed.nd rfl (.inl rfl) (pe_callTy call_tuple_of (by rfl) T.f2.f1.tuple (by decide +kernel) (pa_cons (pe_callB cr_sortedPO (by rfl) T.f2.sorted (by decide +kernel) (pa_cons (pe_lock (pe_lc (own := [("state", 10)]) (g := gName 10) (tt := tYes) (by rfl) scXLed.nd (pi_keys (pv 8)) (blkOk_by (N := ["machine", "pays", "dicts", "keys", "states", "row", "at", "pay", "lacks", "key", "state"]) (sc := defScope sXLed) (by decide +kernel)) (fun _ _ _ _ _ => pg_name (i := 10) scXLed.nd rfl (Or.inl rfl)) (fun _ _ _ _ _ => pts_nil) (fun _ _ _ _ _ => pe_tup (pa_cons (pv 10) (pa_cons (pe_dget (hu_of hr) (pv 8) (pv 10) (fun _ _ => rfl)) pa_nil))))) pa_nil)) pa_nil)))
 (Evl.pss_cut (ps_if (pt_cmp (pc_nnotin hu (pv 9) (pv 3))) (Evl.pss_cut (ps_nput hu (pv 3) (pv 9) (pe_callB call_len_seq (by rfl) T.f2.f1.len PySem.boot_len (pa_cons (pv 2) pa_nil)) rfl)
 (pss_one (ps_expr (pe_bm PySem.F.plainAttrs_list PySem.F.slot_list_append PySem.F.type_list_append mt_append (pv 2) (pa_cons (pv 8) pa_nil))))) pss_nil)
 (pss_one (ps_expr (pe_bm PySem.F.plainAttrs_list PySem.F.slot_list_append PySem.F.type_list_append mt_append (pv 5) (pa_cons (pe_tup (pa_cons (pv 7) (pa_cons (pe_nget hu (pv 3) (pv 9) (fun _ _ => rfl)) pa_nil))) pa_nil))))))))
 (Evl.pss_cut (ps_expr (pe_bm PySem.F.plainAttrs_list PySem.F.slot_list_append PySem.F.type_list_append mt_append (pv 4) (pa_cons (pe_callTy call_tuple_of (by rfl) T.f2.f1.tuple (by decide +kernel) (pa_cons (pv 5) pa_nil)) pa_nil)))
 (pss_one (ps_if (pt_cmpR op_gt (pe_callB call_len_seq (by rfl) T.f2.f1.len PySem.boot_len (pa_cons (pv 2) pa_nil)) pe_int (nomark _)) (pss_one (ps_ret pe_non)) pss_nil))))))
 (pss_one (ps_ret (pe_tup (pa_cons (pe_tup (pa_cons (pe_ix ix_tup (pv 0) pe_int (fun _ _ => rfl)) (pa_cons (pe_ix ix_tup (pv 0) pe_int (fun _ _ => rfl)) (pa_cons (pe_callTy call_tuple_of (by rfl) T.f2.f1.tuple (by decide +kernel) (pa_cons (pv 4) pa_nil)) pa_nil)))) (pa_cons (pv 2) pa_nil))))))), ?_⟩
  have hM := hsd.1.ok
  have zp := ltr_pos hM.ltr
  have zs : M.z.length ≤ sizeLine := Nat.le_trans zp.2 (by decide)
  obtain ⟨a0, sa, xs0, rfl, hS, _, _, _⟩ := side_top hsd hx
  have hroom : ∀ {m : Nat}, m ≤ 400 → m < sizeLine := fun h => Nat.lt_of_le_of_lt h (by decide)
  refine ⟨fun σ H' => ∃ pt dl pl sl r0 xs, σ = [some (.ref a0), some (.ref pt), some (.ref dl), some (.ref pl), some (.ref sl), none, none, none, none, none, none] ∧ Wk P w K H H' dl pl sl [r0] xs [] (runE M 0) ∧ SqT K H' pt [.int (minL (paysL M)), .int (maxL (paysL M))], ?_, ?_⟩
  · refine ⟨_, rfl, .ref a0, d, M, rfl, hx, hsd, fun H1 pt s1 npt hpt => fun r0 n0 => ⟨upd_same, [(Sum.inl 0, .int 0)], rfl, by decide, (by show 1 ≤ sizeLine; decide), fun dl nd => fun pl np => ⟨(by show 2 ≤ sizeLine; decide), fun b1 h1 => ⟨(by show 1 ≤ sizeLine; decide), fun b2 h2 => ?_⟩⟩⟩⟩
    obtain ⟨z1, z2, z3⟩ := zero_nd (K := K) (P := P) (w := w) s1 (r0 := r0) n0 nd np h1 h2
    refine ⟨b2, kyD [(0, 0)], rfl, z1, tO_kyD _, ky_depth _, z2, (by show 0 ≤ sizeLine; decide), fun sl nsl => ⟨(by show 4 ≤ sizeLine; decide), fun t nt => ?_⟩⟩
    obtain ⟨k1, k2⟩ := z3 sl nsl t _ nt
    exact ⟨t, _, rfl, SqT.of upd_same, rfl, _, _, rfl, _, _, rfl, _, _, rfl, _, _, rfl, rfl, pt, dl, pl, sl, r0, _, rfl, k1, SqT.of (k2 _ _ hpt)⟩
  rintro σ H4 ⟨pt, dl, pl, sl, r0, xs, rfl, k4, hpt⟩
  refine ⟨fun σ H' => ∃ n rs xs us l5 l6 l7 l8 l9 l10, σ = [some (.ref a0), some (.ref pt), some (.ref dl), some (.ref pl), some (.ref sl), l5, l6, l7, l8, l9, l10] ∧ Wk P w K H H' dl pl sl rs xs us (runE M n) ∧ Closed M n ∧ (runE M n).1.length ≤ 300, ?_, ?_⟩
  · refine while_by (fun σ H' => ∃ n rs xs us l5 l6 l7 l8 l9 l10, σ = [some (.ref a0), some (.ref pt), some (.ref dl), some (.ref pl), some (.ref sl), l5, l6, l7, l8, l9, l10] ∧ Wk P w K H H' dl pl sl rs xs us (runE M n) ∧ SqT K H' pt [.int (minL (paysL M)), .int (maxL (paysL M))] ∧ (runE M n).2.length = n ∧ (runE M n).1.length ≤ 300) (fun _ H' => 301 - lenL H' sl)
      ⟨0, [r0], xs, [], none, none, none, none, none, none, rfl, k4, hpt, rfl, (by show 1 ≤ 300; decide)⟩ ?_ ?_
    · rintro σ H5 ⟨n, rs, xs, us, l5, l6, l7, l8, l9, l10, rfl, k5, hpt5, hn, hL⟩
      have usl : us.length = n := by rw [k5.sT.len, List.length_map, hn]
      have rsl : rs.length = (runE M n).1.length := Paired.length k5.dL.2
      refine ⟨_, rfl, sl, us, rfl, .inl (SqL.of k5.sL), _, rfl, dl, _, rfl, .inl (SqL.of k5.dL.1), _, _, rfl, rfl, _, rfl, ?_⟩
      rw [usl, List.length_map, rsl]
      by_cases lt : (n : Int) < ((runE M n).1.length : Int)
      · rw [decide_eq_true lt]
        refine iteT ?_
        obtain ⟨D, hD⟩ : ∃ D, (runE M n).1[n]? = some D := ⟨_, List.getElem?_eq_getElem (by omega)⟩
        obtain ⟨rn, hrn⟩ : ∃ rn, rs[n]? = some rn := ⟨_, List.getElem?_eq_getElem (by omega)⟩
        have hrD : H5 rn = some (.dK (kd D)) := by
          obtain ⟨D', e1, e2⟩ := LiI.paired_get k5.dL.2 hrn
          rw [hD] at e1
          cases e1
          exact e2
        have okD := run_ok hM n D (List.mem_of_getElem? hD)
        have nxt := run_next (M := M) (n := n) (D := D) (by rw [hn]; exact hD)
        refine ⟨fun σ H' => ∃ rl, σ = [some (.ref a0), some (.ref pt), some (.ref dl), some (.ref pl), some (.ref sl), some (.ref rl), l6, l7, l8, l9, l10] ∧ Wk P w K H H' dl pl sl rs xs us (runE M n) ∧ SqT K H' pt [.int (minL (paysL M)), .int (maxL (paysL M))] ∧ H' rl = some (.lst []) ∧ rl ≠ dl ∧ rl ≠ sl ∧ H rl = none ∧ H' rn = some (.dK (kd D)), ?_, ?_⟩
        · exact ⟨(by show 0 ≤ sizeLine; decide), fun rl nrl => ⟨rl, rfl, k5.same (same_upd nrl), same_tup (same_upd nrl) hpt5, upd_same, (ne_of_none k5.dL.1 nrl).symm, (ne_of_none k5.sL nrl).symm, k5.sm.free nrl, same_upd nrl _ _ hrD⟩⟩
        rintro σ H6 ⟨rl, rfl, k6, hpt6, hrl, ne1, ne2, nH, hrn6⟩
        refine ⟨fun σ H' => ∃ rs xs vs l6 l7 l8 l9, σ = [some (.ref a0), some (.ref pt), some (.ref dl), some (.ref pl), some (.ref sl), some (.ref rl), l6, l7, l8, l9, l10] ∧ Wk P w K H H' dl pl sl rs xs us ((rowE M D (runE M n).1 M.z.length).1, (runE M n).2) ∧ SqT K H' pt [.int (minL (paysL M)), .int (maxL (paysL M))] ∧ H' rl = some (.lst vs) ∧ RpAll K H' vs ((rowE M D (runE M n).1 M.z.length).2.map eP), ?_, ?_⟩
        · refine ⟨_, rfl, a0, _, 1, _, rfl, rfl, same_tup k6.sm hS, rfl, M.z, rfl, zs, _, rfl, by omega, by omega, ?_⟩
          refine for_range (lo := 0) (n := (M.z.length : Int).toNat) (fun j σ H' => ∃ rs xs vs l6 l7 l8 l9, σ = [some (.ref a0), some (.ref pt), some (.ref dl), some (.ref pl), some (.ref sl), some (.ref rl), l6, l7, l8, l9, l10] ∧ Wk P w K H H' dl pl sl rs xs us ((rowE M D (runE M n).1 j).1, (runE M n).2) ∧ SqT K H' pt [.int (minL (paysL M)), .int (maxL (paysL M))] ∧ H' rl = some (.lst vs) ∧ RpAll K H' vs ((rowE M D (runE M n).1 j).2.map eP) ∧ rs[n]? = some rn ∧ H' rn = some (.dK (kd D)) ∧ (rowE M D (runE M n).1 j).1.length ≤ 300 + j)
            ⟨rs, xs, [], l6, l7, l8, l9, rfl, k6, hpt6, hrl, .nil, hrn, hrn6, hL⟩ ?_ ?_
          · rintro j σ H7 hj ⟨rs, xs, vs, l6, l7, l8, l9, rfl, k7, hpt7, hrl7, hvs, hrsn, hrn7, hL7⟩
            have jz : j < M.z.length := by omega
            have okN := dok_step hM okD jz
            have nN := okN.lok.kin.nd
            refine ⟨fun σ H' => ∃ r2, σ = [some (.ref a0), some (.ref pt), some (.ref dl), some (.ref pl), some (.ref sl), some (.ref rl), some (.int (0 + (j : Int))), some (.int (mostOn M j D)), some (.ref r2), l9, l10] ∧ Same H7 H' ∧ H7 r2 = none ∧ H' r2 = some (.dK (kd (lackOn M j D))), ?_, ?_⟩
            · refine ⟨_, rfl, _, rfl, _, rfl, _, rfl, sl, us, rfl, .inl (SqL.of k7.sL), dl, _, (us.length : Int), .ref rn, rfl, rfl, SqL.of k7.dL.1, ?_, ?_⟩
              · rw [usl]
                exact atI_nat (by rw [List.getElem?_map, hrsn]; rfl)
              refine ⟨_, rfl, .ref a0, d, M, pt, rn, D, j, (by show [V.ref a0, V.ref pt, V.ref rn, V.int (0 + (j : Int))] = [V.ref a0, V.ref pt, V.ref rn, V.int (j : Nat)]; rw [Int.zero_add (j : Int)]), hx.go k7.sm, hsd, hpt7, hrn7, okD.lok, jz, fun H8 t r2 s8 ht hr2 nr2 nt => ?_⟩
              exact ⟨t, _, rfl, SqT.of ht, rfl, _, _, rfl, _, _, rfl, rfl, r2, rfl, s8, nr2, hr2⟩
            rintro σ H8 ⟨r2, rfl, s8, nr2, hr2⟩
            refine ⟨fun σ H' => ∃ kp, σ = [some (.ref a0), some (.ref pt), some (.ref dl), some (.ref pl), some (.ref sl), some (.ref rl), some (.int (0 + (j : Int))), some (.int (mostOn M j D)), some (.ref r2), some (.ref kp), l10] ∧ Same H8 H' ∧ Rp K H' (.ref kp) (kyD (lackOn M j D)), ?_, ?_⟩
            · refine ⟨r2, .dK (kd (lackOn M j D)), hr2, trivial, fun od => ?_⟩
              refine ⟨_, rfl, r2, od, rfl, .inl ⟨kd (lackOn M j D), upd_same, fun Lx nL => ?_⟩⟩
              have Ld : Lx ≠ r2 := fun z => by rw [z, upd_same] at nL; cases nL
              have nL3 : H8 Lx = none := by rw [upd_ne Ld] at nL; exact nL
              refine lc_it walk_keys (fun i H' => Same (upd H8 r2 (.frz od (.dK (kd (lackOn M j D))))) H' ∧ ∃ vs, H' Lx = some (.lst vs) ∧ Prs H' vs ((lackOn M j D).take i)) ⟨same_upd nL, [], upd_same, rfl, fun i kv e => by simp at e⟩ (fun i H' _ h => h.1 _ _ upd_same) ?_ ?_
              · rintro i u H' H2' hi ⟨sm, vs, hLx, hP⟩ ⟨rfl, kk, vv, hkv, rfl⟩
                obtain ⟨st, val, hd, rfl, rfl⟩ := kd_at hkv
                refine ⟨rfl, ?_⟩
                refine ⟨_, rfl, _, rfl, _, rfl, r2, .int val, rfl, ?_, (by show 2 ≤ sizeLine; decide), fun t nt => ⟨vs, ?_, ?_, ?_, vs ++ [.ref t], upd_same, ?_⟩⟩
                · have := kd_get (d := lackOn M j D) (k := st) (.inr ⟨od, sm _ _ upd_same⟩)
                  rw [kd_mem nN hd] at this
                  exact this
                · rw [upd_ne (ne_of_none hLx nt)]
                  exact hLx
                · rw [hP.1]
                  have l1 := List.length_take_le' i (lackOn M j D)
                  have l4 := okN.lok.few
                  exact hroom (by omega)
                · exact same_new (sm.trans (same_upd nt)) nL
                · have tL : t ≠ Lx := fun z => by rw [z, hLx] at nt; cases nt
                  rw [List.take_succ, hd]
                  refine prs_snoc (prs_go hP fun b xs e => ?_) ?_
                  · rw [upd_ne (fun z => by rw [z, hLx] at e; cases e), upd_ne (ne_of_none e nt)]
                    exact e
                  · rw [upd_ne tL, upd_same]
                    rfl
              · rintro H' ⟨sm, vs, hLx, hP⟩
                rw [kd_len, List.take_length] at hP
                have sr : Same H8 (upd H' r2 (.dK (kd (lackOn M j D)))) := fun b o e => by
                  by_cases z : b = r2
                  · rw [z, upd_same, ← hr2, ← z, e]
                  · rw [upd_ne z]
                    exact sm _ _ (by rw [upd_ne z]; exact e)
                have hf := sm _ _ upd_same
                have hP2 : Prs (upd H' r2 (.dK (kd (lackOn M j D)))) vs (lackOn M j D) := prs_go hP fun b xs e => by
                  rw [upd_ne (fun z => by rw [z, hf] at e; cases e)]
                  exact e
                refine ⟨hf, Lx, vs, pairOf (upd H' r2 (.dK (kd (lackOn M j D)))), rfl, SqL.of (by rw [upd_ne Ld]; exact hLx), fun x hx => ?_, fun ys p srt stb np => ?_⟩
                · obtain ⟨i, hi, rfl⟩ := List.getElem_of_mem hx
                  obtain ⟨t, a, b⟩ := hP2.2 i _ (List.getElem?_eq_getElem (by rw [← hP2.1]; exact hi))
                  rw [List.getElem?_eq_getElem hi] at a
                  rw [Option.some.inj a, pair_of b]
                  exact ⟨t, rfl, b⟩
                · have ey : ys = vs := SrtO.stb_uniq (ltP_swo _) srt (prs_srt hP2 okN.asc) stb
                  subst ey
                  have sp := same_upd (o := HO.lst ys) np
                  refine ⟨p, ys, rfl, .inl ⟨SqL.of upd_same, fun kp nk => ?_⟩⟩
                  have sk := same_upd (o := HO.tup ys) nk
                  exact ⟨kp, rfl, (sr.trans sp).trans sk, .tup (SqT.of upd_same) (prs_rp (prs_go hP2 fun b xs e => sk _ _ (sp _ _ e)))⟩
            rintro σ H9 ⟨kp, rfl, s9, hkp⟩
            have s79 := s8.trans s9
            have k9 := k7.same s79
            have hr29 := s9 _ _ hr2
            have n2H : H r2 = none := k7.sm.free nr2
            have hrl9 := s79 _ _ hrl7
            have hrn9 := s79 _ _ hrn7
            have hpt9 := same_tup s79 hpt7
            have hvs9 := rpAll_ts (ts_same s79) hvs (tOs_map tO_eP _)
            have rsl9 : rs.length = (rowE M D (runE M n).1 j).1.length := Paired.length k9.dL.2
            have xsl9 : xs.length = (rowE M D (runE M n).1 j).1.length := k9.pL.1
            refine ⟨fun σ H' => ∃ rs xs, σ = [some (.ref a0), some (.ref pt), some (.ref dl), some (.ref pl), some (.ref sl), some (.ref rl), some (.int (0 + (j : Int))), some (.int (mostOn M j D)), some (.ref r2), some (.ref kp), l10] ∧ Wk P w K H H' dl pl sl rs xs us (addD (rowE M D (runE M n).1 j).1 (lackOn M j D), (runE M n).2) ∧ SqT K H' pt [.int (minL (paysL M)), .int (maxL (paysL M))] ∧ H' rl = some (.lst vs) ∧ RpAll K H' vs ((rowE M D (runE M n).1 j).2.map eP) ∧ rs[n]? = some rn ∧ H' rn = some (.dK (kd D)) ∧ Rp K H' (.ref kp) (kyD (lackOn M j D)) ∧ (addD (rowE M D (runE M n).1 j).1 (lackOn M j D)).length ≤ 300 + (j + 1), ?_, ?_⟩
            · refine ⟨_, rfl, _, rfl, pl, kp, xs, kyD (lackOn M j D), ⟨rfl, rfl, k9.nD, hkp, tO_kyD _, ky_depth _⟩, _, rfl, ?_⟩
              rw [pl_val k9.pL]
              by_cases m : lackOn M j D ∈ (rowE M D (runE M n).1 j).1
              · rw [if_pos m]
                have ea : addD (rowE M D (runE M n).1 j).1 (lackOn M j D) = (rowE M D (runE M n).1 j).1 := by
                  unfold addD
                  rw [if_pos m]
                refine iteF ⟨rs, xs, rfl, ?_, hpt9, hrl9, hvs9, hrsn, hrn9, hkp, by rw [ea]; omega⟩
                rw [ea]
                exact k9
              · rw [if_neg m]
                have ea : addD (rowE M D (runE M n).1 j).1 (lackOn M j D) = (rowE M D (runE M n).1 j).1 ++ [lackOn M j D] := by
                  unfold addD
                  rw [if_neg m]
                refine iteT ?_
                have pd : pl ≠ dl := fun z => by
                  have := k9.nD.here
                  rw [z, k9.dL.1] at this
                  exact nomatch (Option.some.inj this)
                refine ⟨fun σ H' => σ = [some (.ref a0), some (.ref pt), some (.ref dl), some (.ref pl), some (.ref sl), some (.ref rl), some (.int (0 + (j : Int))), some (.int (mostOn M j D)), some (.ref r2), some (.ref kp), l10] ∧ H' = upd H9 pl (NdO P w pl (putN xs (keyN (kyD (lackOn M j D))) kp (.int ((rowE M D (runE M n).1 j).1.length : Nat)))), ?_, ?_⟩
                · refine ⟨_, rfl, dl, _, rfl, .inl (SqL.of k9.dL.1), _, rfl, _, rfl, pl, kp, xs, kyD (lackOn M j D), ⟨rfl, rfl, k9.nD, hkp, tO_kyD _, ky_depth _⟩, hroom (by omega), rfl, ?_⟩
                  rw [List.length_map, rsl9]
                  rfl
                rintro σ H10 ⟨rfl, rfl⟩
                have hdl10 : (upd H9 pl (NdO P w pl (putN xs (keyN (kyD (lackOn M j D))) kp (.int ((rowE M D (runE M n).1 j).1.length : Nat))))) dl = some (.lst (rs.map V.ref)) := by
                  rw [upd_ne pd.symm]
                  exact k9.dL.1
                have ts1 : TStay K H9 (upd H9 pl (NdO P w pl (putN xs (keyN (kyD (lackOn M j D))) kp (.int ((rowE M D (runE M n).1 j).1.length : Nat))))) := ts_upd k9.nD.here (fun _ z => nomatch z) (fun _ _ z => nomatch z)
                have ts2 := ts1.trans (ts_upd (o' := HO.lst (rs.map V.ref ++ [.ref r2])) hdl10 (fun _ z => nomatch z) (fun _ _ z => nomatch z))
                have nrp : rl ≠ pl := fun z => by
                  rw [z, k9.nD.here] at hrl9
                  exact nomatch (Option.some.inj hrl9)
                have nnp : rn ≠ pl := fun z => by
                  rw [z, k9.nD.here] at hrn9
                  exact nomatch (Option.some.inj hrn9)
                have nnd : rn ≠ dl := fun z => by
                  rw [z, k9.dL.1] at hrn9
                  exact nomatch (Option.some.inj hrn9)
                refine ⟨_, rfl, .inl ⟨rfl, _, SqL.of hdl10⟩, _, rfl, dl, _, _, rfl, rfl, hdl10, (by rw [List.length_map]; exact hroom (by omega)), rs ++ [r2], putN xs (keyN (kyD (lackOn M j D))) kp (.int ((rowE M D (runE M n).1 j).1.length : Nat)), rfl, ?_, ts2 _ _ hpt9, ?_, rpAll_ts ts2 hvs9 (tOs_map tO_eP _), ?_, ?_, rp_ts ts2 hkp (tO_kyD _), ?_⟩
                · rw [ea]
                  exact k9.add hr29 n2H hkp m
                · rw [upd_ne ne1, upd_ne nrp]
                  exact hrl9
                · rw [List.getElem?_append_left (List.getElem?_eq_some_iff.mp hrsn).1]
                  exact hrsn
                · rw [upd_ne nnd, upd_ne nnp]
                  exact hrn9
                · rw [ea, List.length_append]
                  show _ + 1 ≤ _
                  omega
            rintro σ H10 ⟨rs2, xs2, rfl, k10, hpt10, hrl10, hvs10, hrsn10, hrn10, hkp10, hL10⟩
            have vl : vs.length = j := by rw [hvs10.len, List.length_map, row_len]
            have val := pl_val k10.pL (lackOn M j D)
            rw [if_pos (mem_addD.mpr (.inr rfl))] at val
            refine ⟨_, rfl, .inl ⟨rfl, _, SqL.of hrl10⟩, _, rfl, _, rfl, _, rfl, pl, kp, xs2, kyD (lackOn M j D), _, ⟨rfl, rfl, k10.nD, hkp10, tO_kyD _, ky_depth _⟩, val, (by show 2 ≤ sizeLine; decide), fun t nt => ?_⟩
            have xt := same_upd (o := HO.tup [V.int (mostOn M j D), .int ((addD (rowE M D (runE M n).1 j).1 (lackOn M j D)).idxOf (lackOn M j D) : Nat)]) nt
            have ht : (upd H10 t (.tup [V.int (mostOn M j D), .int ((addD (rowE M D (runE M n).1 j).1 (lackOn M j D)).idxOf (lackOn M j D) : Nat)])) t = some (.tup [V.int (mostOn M j D), .int ((addD (rowE M D (runE M n).1 j).1 (lackOn M j D)).idxOf (lackOn M j D) : Nat)]) := upd_same
            generalize upd H10 t (.tup [V.int (mostOn M j D), .int ((addD (rowE M D (runE M n).1 j).1 (lackOn M j D)).idxOf (lackOn M j D) : Nat)]) = H11 at xt ht ⊢
            have k11 := k10.same xt
            have hrl11 := xt _ _ hrl10
            have bt : But rl H11 (upd H11 rl (.lst (vs ++ [.ref t]))) := fun b o nb e => by rw [upd_ne nb]; exact e
            have tsr : TStay K H11 (upd H11 rl (.lst (vs ++ [.ref t]))) := ts_upd hrl11 (fun _ z => nomatch z) (fun _ _ z => nomatch z)
            have nrl : rn ≠ rl := fun z => by
              rw [z, hrl10] at hrn10
              exact nomatch (Option.some.inj hrn10)
            refine ⟨rl, vs, .ref t, rfl, rfl, hrl11, (by rw [vl]; exact hroom (by omega)), rs2, xs2, vs ++ [.ref t], _, _, _, _, rfl, ?_, tsr _ _ (same_tup xt hpt10), upd_same, ?_, hrsn10, ?_, hL10⟩
            · exact k11.go bt (fun o e => by rw [hrl11] at e; exact ⟨_, (Option.some.inj e).symm⟩) ne1 ne2 nH
            · show RpAll K _ (vs ++ [.ref t]) (((rowE M D (runE M n).1 j).2 ++ [_]).map eP)
              rw [List.map_append]
              refine rp_snoc (rpAll_ts ((ts_same xt).trans tsr) hvs10 (tOs_map tO_eP _)) ?_
              exact rp_ts tsr (.tup (SqT.of ht) (.cons (.int _) (.cons (.int _) .nil))) (tO_eP _)
            · rw [upd_ne nrl]
              exact xt _ _ hrn10
          · rintro σ H7 ⟨rs, xs, vs, l6, l7, l8, l9, rfl, k7, hpt7, hrl7, hvs, _, _, _⟩
            rw [show (M.z.length : Int).toNat = M.z.length by omega] at k7 hvs
            exact ⟨rs, xs, vs, l6, l7, l8, l9, rfl, k7, hpt7, hrl7, hvs⟩
        rintro σ H7 ⟨rs, xs, vs, l6, l7, l8, l9, rfl, k7, hpt7, hrl7, hvs⟩
        have vl : vs.length = M.z.length := by rw [hvs.len, List.length_map, row_len]
        refine ⟨fun σ H' => σ = [some (.ref a0), some (.ref pt), some (.ref dl), some (.ref pl), some (.ref sl), some (.ref rl), l6, l7, l8, l9, l10] ∧ ∃ us', us'.length = n + 1 ∧ Wk P w K H H' dl pl sl rs xs us' (runE M (n + 1)) ∧ SqT K H' pt [.int (minL (paysL M)), .int (maxL (paysL M))], ?_, ?_⟩
        · refine ⟨_, rfl, .inl ⟨rfl, _, SqL.of k7.sL⟩, _, rfl, rl, vs, rfl, .inl ⟨SqL.of hrl7, fun st nst => ?_⟩⟩
          have xt := same_upd (o := HO.tup vs) nst
          have k8 := k7.same xt
          have rst : Rp K (upd H7 st (.tup vs)) (.ref st) (rwD (rowE M D (runE M n).1 M.z.length).2) := .tup (SqT.of upd_same) (rpAll_ts (ts_same xt) hvs (tOs_map tO_eP _))
          have k9 := k8.push rst
          have ts : TStay K (upd H7 st (.tup vs)) (upd (upd H7 st (.tup vs)) sl (.lst (us ++ [.ref st]))) := ts_upd k8.sL (fun _ z => nomatch z) (fun _ _ z => nomatch z)
          refine ⟨sl, us, .ref st, rfl, rfl, k8.sL, hroom (by omega), rfl, us ++ [.ref st], by rw [List.length_append, usl]; rfl, ?_, ts _ _ (same_tup xt hpt7)⟩
          rw [nxt]
          exact k9
        rintro σ H8 ⟨rfl, us', ul', k8, hpt8⟩
        have rsl8 : rs.length = (runE M (n + 1)).1.length := Paired.length k8.dL.2
        refine ⟨_, rfl, dl, _, rfl, .inl (SqL.of k8.dL.1), _, _, rfl, rfl, _, rfl, ?_⟩
        rw [List.length_map, rsl8]
        by_cases big : (300 : Int) < ((runE M (n + 1)).1.length : Int)
        · rw [decide_eq_true big]
          exact iteT (qN (n + 1) _ (by omega) k8.sm)
        · rw [decide_eq_false big]
          refine iteF ⟨⟨n + 1, rs, xs, us', _, _, _, _, _, _, rfl, k8, hpt8, ?_, by omega⟩, ?_⟩
          · rw [nxt, List.length_append, hn]
            rfl
          · rw [lenL_of k5.sL, lenL_of k8.sL, ul', usl]
            omega
      · rw [decide_eq_false lt]
        refine iteF ⟨n, rs, xs, us, l5, l6, l7, l8, l9, l10, rfl, k5, ?_, hL⟩
        unfold Closed
        omega
    · intro σ H' Q1 Q2 hq hc
      obtain ⟨v, hv, p1, y1, e1, s1, v2, hv2, p2, y2, e2, s2, i, j, e3, e4, k', hk, q'⟩ := hc
      exact ⟨v, hv, p1, y1, e1, s1, v2, hv2, p2, y2, e2, s2, i, j, e3, e4, k', hk, hq _ _ q'⟩
  rintro σ H5 ⟨n, rs, xs, us, l5, l6, l7, l8, l9, l10, rfl, k5, cl, hL⟩
  refine ⟨_, rfl, a0, _, 0, _, rfl, rfl, same_tup k5.sm hS, rfl, _, rfl, a0, _, 1, _, rfl, rfl, same_tup k5.sm hS, rfl, _, rfl, sl, us, rfl, .inl ⟨SqL.of k5.sL, fun st nst => ⟨(by show 3 ≤ sizeLine; decide), fun u nu => ⟨_, rfl, (by show 2 ≤ sizeLine; decide), fun t nt => ?_⟩⟩⟩⟩
  have x1 := same_upd (o := HO.tup us) nst
  have x2 := same_upd (o := HO.tup [V.int M.b, .str M.z, .ref st]) nu
  have x3 := same_upd (o := HO.tup [V.ref u, .ref dl]) nt
  have k6 := k5.same ((x1.trans x2).trans x3)
  exact q n _ t u dl rs cl hL k6.sm ((k5.sm.trans (x1.trans x2)).free nt) upd_same (.tup (SqT.of (x3 _ _ upd_same)) (.cons (.int _) (.cons (.str _ zs) (.cons (.tup (SqT.of (x3 _ _ (x2 _ _ upd_same))) k6.sT) .nil)))) k5.nd k6.dL k5.nr
end
end My
/-! ### the led machine of a led machine -/
namespace My
open PySem PySem.Spec PyProof.Rows L2 PySem.Builtin.Str
def plM (b : Int) (z : Str) (rows : List (List (Int × Int))) : Mc := ⟨b, z, rows.map (List.map fun p => [p])⟩
def sgl (m : Nat) : List Dk := (List.range m).map fun i : Nat => [((i : Int), (0 : Int))]
theorem sgl_len (m : Nat) : (sgl m).length = m := by simp [sgl]
theorem sgl_at {m i : Nat} (h : i < m) : (sgl m)[i]? = some [((i : Int), (0 : Int))] := by
  simp [sgl, h]
theorem sgl_mem {m : Nat} {t : Int} : [(t, (0 : Int))] ∈ sgl m ↔ 0 ≤ t ∧ t < (m : Int) := by
  unfold sgl
  rw [List.mem_map]
  constructor
  · rintro ⟨i, hi, e⟩
    have := List.mem_range.mp hi
    cases e
    omega
  · rintro ⟨h0, h1⟩
    refine ⟨t.toNat, List.mem_range.mpr (by omega), ?_⟩
    rw [show ((t.toNat : Nat) : Int) = t by omega]
theorem sgl_nd (m : Nat) : (sgl m).Nodup := by
  unfold sgl
  refine List.Pairwise.map _ (fun a b hab e => hab ?_) List.nodup_range
  injection e with e _
  injection e with e _
  omega
theorem sgl_ix {m i : Nat} (h : i < m) : (sgl m).idxOf [((i : Int), (0 : Int))] = i := by
  have e := sgl_at h
  have h1 : i < (sgl m).length := by rw [sgl_len]; exact h
  rw [List.getElem?_eq_getElem h1] at e
  have := List.Nodup.idxOf_getElem (sgl_nd m) i h1
  rw [Option.some.inj e] at this
  exact this
theorem sgl_succ (m : Nat) : sgl (m + 1) = sgl m ++ [[((m : Int), (0 : Int))]] := by
  unfold sgl
  rw [List.range_succ, List.map_append]
  rfl
theorem sgl_add {m : Nat} {ds : List Dk} {d : Dk} (hl : ds.length = m) : addD (sgl m) [(((addD ds d).idxOf d : Nat), 0)] = sgl (addD ds d).length ∧ (addD ds d).idxOf d < (addD ds d).length := by
  have lt : (addD ds d).idxOf d < (addD ds d).length := List.idxOf_lt_length_of_mem (mem_addD.mpr (.inr rfl))
  refine ⟨?_, lt⟩
  by_cases h : d ∈ ds
  · have e : addD ds d = ds := by
      unfold addD
      rw [if_pos h]
    rw [e] at lt ⊢
    unfold addD
    rw [if_pos (sgl_mem.mpr (by omega)), hl]
  · have e : addD ds d = ds ++ [d] := by
      unfold addD
      rw [if_neg h]
    have ix : (ds ++ [d]).idxOf d = m := by
      rw [List.idxOf_append, if_neg h, hl]
      simp
    rw [e, ix, List.length_append, hl]
    unfold addD
    rw [if_neg (fun z => by have := sgl_mem.mp z; omega)]
    exact (sgl_succ m).symm
theorem one_gain (pay t i : Int) (P : Int → List (Int × Int)) (h : P i = [(pay, t)]) : gainOf P [(i, 0)] = [(t, pay)] := by
  show bestOn P (fun v p => p - v) [(i, 0)] [] = _
  simp [bestOn, bestIn, h, upMax, putI, getI]
theorem one_later (b sp t pay : Int) : laterOf b sp [(t, pay)] = [(t, 0)] := by
  have hm : maxL [pay] = pay := by simp [maxL]
  simp [laterOf, keysI, sortI, insI, hm, getI, hopes]
/-- along a row both machines go alike -/
theorem twin_row {M : Mc} {D : Dk} {ds : List Dk} {rows : List (List (Int × Int))} {i : Nat} {n : Nat} (hr : rows[i]? = some (rowE M D ds n).2) : ∀ j, j ≤ n → rowE (plM M.b M.z rows) [((i : Int), (0 : Int))] (sgl ds.length) j = (sgl (rowE M D ds j).1.length, (rowE M D ds j).2)
  | 0, _ => rfl
  | j + 1, h => by
    have ih := twin_row (M := M) (D := D) (ds := ds) (rows := rows) (i := i) (n := n) hr j (by omega)
    obtain ⟨A, lt⟩ := sgl_add (ds := (rowE M D ds j).1) (d := lackOn M j D) rfl
    -- what stands in the row
    have at_ : ∀ m, j < m → m ≤ n → (rowE M D ds m).2[j]? = some (mostOn M j D, (((rowE M D ds (j + 1)).1.idxOf (lackOn M j D) : Nat) : Int)) := fun m => by
      induction m with
      | zero => intro h; omega
      | succ m ihm =>
        intro h1 h2
        show ((rowE M D ds m).2 ++ [_])[j]? = _
        by_cases e : j = m
        · subst e
          rw [List.getElem?_append_right (by rw [row_len]; exact Nat.le_refl _), row_len, Nat.sub_self]
          rfl
        · rw [List.getElem?_append_left (by rw [row_len]; omega)]
          exact ihm (by omega) (by omega)
    have hj := at_ n (by omega) (Nat.le_refl _)
    have ch : chP (plM M.b M.z rows) j (i : Int) = [(mostOn M j D, (((rowE M D ds (j + 1)).1.idxOf (lackOn M j D) : Nat) : Int))] := by
      unfold chP plM
      show ((rows.map (List.map fun p => [p])).getD ((i : Int).toNat) []).getD j [] = _
      rw [Int.toNat_natCast, List.getD_eq_getElem?_getD (l := rows.map (List.map fun p => [p])), List.getElem?_map, hr, Option.map_some, Option.getD_some, List.getD_eq_getElem?_getD, List.getElem?_map, hj]
      rfl
    have g := one_gain (mostOn M j D) ((((rowE M D ds (j + 1)).1.idxOf (lackOn M j D) : Nat) : Int)) (i : Int) (chP (plM M.b M.z rows) j) ch
    have lk : lackOn (plM M.b M.z rows) j [((i : Int), (0 : Int))] = [(((((rowE M D ds (j + 1)).1.idxOf (lackOn M j D) : Nat) : Int)), 0)] := by
      unfold lackOn
      rw [g]
      exact one_later _ _ _ _
    have mo : mostOn (plM M.b M.z rows) j [((i : Int), (0 : Int))] = mostOn M j D := by
      show maxL ((gainOf (chP (plM M.b M.z rows) j) [((i : Int), (0 : Int))]).map (·.2)) = _
      rw [g]
      rfl
    show (addD (rowE (plM M.b M.z rows) [((i : Int), (0 : Int))] (sgl ds.length) j).1 (lackOn (plM M.b M.z rows) j [((i : Int), (0 : Int))]), (rowE (plM M.b M.z rows) [((i : Int), (0 : Int))] (sgl ds.length) j).2 ++ [_]) = _
    rw [ih, lk, mo]
    have A2 : addD (sgl (rowE M D ds j).1.length) [(((((rowE M D ds (j + 1)).1.idxOf (lackOn M j D) : Nat) : Int)), 0)] = sgl (rowE M D ds (j + 1)).1.length := A
    rw [A2]
    have ix : (sgl (rowE M D ds (j + 1)).1.length).idxOf [(((((rowE M D ds (j + 1)).1.idxOf (lackOn M j D) : Nat) : Int)), 0)] = (rowE M D ds (j + 1)).1.idxOf (lackOn M j D) := sgl_ix lt
    rw [ix]
    rfl
theorem pre_at {α : Type} {l m : List α} (h : l <+: m) {i : Nat} {x : α} (e : l[i]? = some x) : m[i]? = some x := by
  obtain ⟨t, rfl⟩ := h
  rw [List.getElem?_append_left (List.getElem?_eq_some_iff.mp e).1]
  exact e
theorem states_pre (M : Mc) (n : Nat) : (runE M n).2 <+: (runE M (n + 1)).2 := by
  show _ <+: (stepE M (runE M n)).2
  unfold stepE
  split
  · exact List.prefix_rfl
  · exact List.prefix_append _ _
theorem states_le (M : Mc) {n m : Nat} (h : n ≤ m) : (runE M n).2 <+: (runE M m).2 := by
  induction h with
  | refl => exact List.prefix_rfl
  | step _ ih => exact ih.trans (states_pre M _)
/-- the dicts of a led machine are those of its states alone, and it is led by itself -/
theorem twin_run {M : Mc} {N : Nat} (cl : Closed M N) : ∀ n, runE (plM M.b M.z (runE M N).2) n = (sgl (runE M n).1.length, (runE M n).2)
  | 0 => rfl
  | n + 1 => by
    have ih := twin_run cl n
    cases e : (runE M n).1[(runE M n).2.length]? with
    | none =>
      have e2 : runE M (n + 1) = runE M n := by
        show stepE M (runE M n) = _
        unfold stepE
        rw [e]
      have l := List.getElem?_eq_none_iff.mp e
      show stepE (plM M.b M.z (runE M N).2) (runE (plM M.b M.z (runE M N).2) n) = _
      rw [ih, e2]
      unfold stepE
      rw [List.getElem?_eq_none (by rw [sgl_len]; exact l)]
    | some D =>
      have nx := run_next e
      have l := (List.getElem?_eq_some_iff.mp e).1
      have rw1 : (runE M (n + 1)).2[(runE M n).2.length]? = some (rowE M D (runE M n).1 M.z.length).2 := by
        rw [nx, List.getElem?_append_right (Nat.le_refl _), Nat.sub_self]
        rfl
      have rw2 : (runE M N).2[(runE M n).2.length]? = some (rowE M D (runE M n).1 M.z.length).2 := by
        rcases Nat.le_total (n + 1) N with h | h
        · exact pre_at (states_le M h) rw1
        · obtain ⟨k, hk⟩ := Nat.exists_eq_add_of_le h
          rw [hk, closed_stay cl k] at rw1
          exact rw1
      show stepE (plM M.b M.z (runE M N).2) (runE (plM M.b M.z (runE M N).2) n) = _
      rw [ih]
      unfold stepE
      rw [sgl_at l]
      show ((rowE (plM M.b M.z (runE M N).2) [(((runE M n).2.length : Int), (0 : Int))] (sgl (runE M n).1.length) M.z.length).1, (runE M n).2 ++ [(rowE (plM M.b M.z (runE M N).2) [(((runE M n).2.length : Int), (0 : Int))] (sgl (runE M n).1.length) M.z.length).2]) = _
      rw [twin_row rw2 M.z.length (Nat.le_refl _), nx]
theorem twin_closed {M : Mc} {N : Nat} (cl : Closed M N) : Closed (plM M.b M.z (runE M N).2) N := by
  unfold Closed
  rw [twin_run cl N, sgl_len]
  exact cl
/-- what the led machine pays, where it goes -/
theorem row_rg {M : Mc} (h : Mok M) {D : Dk} {ds : List Dk} (okD : Dok M D) : ∀ j, j ≤ M.z.length → ∀ q ∈ (rowE M D ds j).2, -wideN ≤ q.1 ∧ q.1 ≤ wideN ∧ 0 ≤ q.2 ∧ q.2 < ((rowE M D ds j).1.length : Int)
  | 0, _ => fun q hq => nomatch hq
  | j + 1, hj => fun q hq => by
    rcases List.mem_append.mp (show q ∈ (rowE M D ds j).2 ++ [_] from hq) with m | m
    · have := row_rg h okD j (by omega) q m
      have l := (row_pre M D ds j).length_le
      omega
    · rw [List.mem_singleton.mp m]
      obtain ⟨_, lt⟩ := sgl_add (ds := (rowE M D ds j).1) (d := lackOn M j D) rfl
      have gne := on_ne h (f := fun v p => p - v) okD.lok.kin okD.lok.ne (show j < M.z.length by omega)
      have jz : j < M.z.length := by omega
      have nG := (gain_kin h (at_ := j) (D := D)).nd
      have mx := maxL_mem (l := (gainOf (chP M j) D).map (·.2)) (fun z => gne (List.map_eq_nil_iff.mp z))
      obtain ⟨q0, hq0, e0⟩ := List.mem_map.mp mx
      have up : mostOn M j D ≤ wideN := by
        show maxL ((gainOf (chP M j) D).map (·.2)) ≤ wideN
        rw [← e0]
        rcases bestOn_from (P := chP M j) (f := fun v p => p - v) D [] (mem_getI nG (k := q0.1) (v := q0.2) hq0) with e | ⟨s, v, p, hm, hp, e⟩
        · cases e
        · have r := ch_rg h hp
          have v0 := (okD.val _ hm).1
          rw [e]
          show p - v ≤ wideN
          have r1 := r.2.1
          have v1 : 0 ≤ v := v0
          have r2 : p ≤ wideN := r1
          omega
      have low : -wideN ≤ mostOn M j D := by
        obtain ⟨s0, hs0⟩ := okD.top
        have k0 := okD.lok.kin.rg s0 (getI_mem.mp (by rw [hs0]; rfl))
        obtain ⟨p, hp⟩ := ch_some h k0.1 k0.2 jz
        obtain ⟨u, hu, lu⟩ := bestOn_has (P := chP M j) (f := fun v p => p - v) (p := p.1) (k := p.2) D [] (getI_some_mem hs0) hp
        have le := le_maxL (List.mem_map_of_mem (f := (·.2)) (getI_some_mem hu))
        have r := (ch_rg h hp).1
        show -wideN ≤ maxL ((gainOf (chP M j) D).map (·.2))
        have lu2 : p.1 - 0 ≤ u := lu
        have le2 : u ≤ maxL ((gainOf (chP M j) D).map (·.2)) := le
        omega
      have lt2 : ((((addD (rowE M D ds j).1 (lackOn M j D)).idxOf (lackOn M j D) : Nat) : Int)) < ((rowE M D ds (j + 1)).1.length : Int) := by
        show _ < ((addD (rowE M D ds j).1 (lackOn M j D)).length : Int)
        omega
      exact ⟨low, up, by show (0 : Int) ≤ (((addD (rowE M D ds j).1 (lackOn M j D)).idxOf (lackOn M j D) : Nat) : Int); omega, lt2⟩
theorem run_rows {M : Mc} (h : Mok M) : ∀ n, ∀ r ∈ (runE M n).2, r.length = M.z.length ∧ ∀ q ∈ r, -wideN ≤ q.1 ∧ q.1 ≤ wideN ∧ 0 ≤ q.2 ∧ q.2 < ((runE M n).1.length : Int)
  | 0 => fun r hr => nomatch hr
  | n + 1 => fun r hr => by
    cases e : (runE M n).1[(runE M n).2.length]? with
    | none =>
      have e2 : runE M (n + 1) = runE M n := by
        show stepE M (runE M n) = _
        unfold stepE
        rw [e]
      rw [e2] at hr ⊢
      exact run_rows h n r hr
    | some D =>
      have nx := run_next e
      rw [nx] at hr ⊢
      rcases List.mem_append.mp hr with m | m
      · obtain ⟨a, b⟩ := run_rows h n r m
        have l := (row_le M D (runE M n).1 (Nat.zero_le M.z.length)).length_le
        have l2 : (runE M n).1.length ≤ (rowE M D (runE M n).1 M.z.length).1.length := l
        exact ⟨a, fun q hq => by
          have := b q hq
          show _ ∧ _ ∧ _ ∧ q.2 < ((rowE M D (runE M n).1 M.z.length).1.length : Int)
          omega⟩
      · rw [List.mem_singleton.mp m]
        exact ⟨row_len _ _ _ _, row_rg h (run_ok h n D (List.mem_of_getElem? e)) M.z.length (Nat.le_refl _)⟩
theorem closed_len {M : Mc} {n : Nat} (h : Closed M n) : (runE M n).2.length = (runE M n).1.length := by
  have a : ∀ n, (runE M n).2.length ≤ (runE M n).1.length := fun n => by
    induction n with
    | zero => exact Nat.zero_le _
    | succ n ih =>
      cases e : (runE M n).1[(runE M n).2.length]? with
      | none =>
        have e2 : runE M (n + 1) = runE M n := by
          show stepE M (runE M n) = _
          unfold stepE
          rw [e]
        rw [e2]
        exact ih
      | some D =>
        have nx := run_next e
        have l := (List.getElem?_eq_some_iff.mp e).1
        have l2 := (row_le M D (runE M n).1 (Nat.zero_le M.z.length)).length_le
        have l3 : (runE M n).1.length ≤ (rowE M D (runE M n).1 M.z.length).1.length := l2
        rw [nx, List.length_append]
        show _ + 1 ≤ (rowE M D (runE M n).1 M.z.length).1.length
        omega
  exact Nat.le_antisymm (a n) h
/-- a led machine of at most 130 states as a side -/
theorem led_side {K : PySem.W.Frag} {M : Mc} (h : Mok M) {n : Nat} (cl : Closed M n) (few : (runE M n).1.length ≤ 130) : Side (ledD M n) (plM M.b M.z (runE M n).2) := by
  have hl := closed_len cl
  have ps := run_pos M n
  have r := run_rows h n
  obtain ⟨s, e⟩ := pln_made (K := K) (b := M.b) (z := M.z) (rows := (runE M n).2) h.b2 h.b9 h.ltr (by omega) (by omega) (fun qs hq => (r qs hq).1) (fun qs hq q m => by
    have := (r qs hq).2 q m
    rw [hl]
    omega)
  have e2 : ledD M n = fM (plM M.b M.z (runE M n).2) := e.symm
  rw [e2]
  exact s
end My
/-! ### the law's long machines -/
namespace My
open PySem PySem.Spec PyProof.Rows L2 PySem.Builtin.Str
abbrev sXLong : Stmt := topS 60
theorem scXLong : FnScope ["pen", "base", "letters", "many", "factor", "more", "states", "state", "row", "at"] ["pen", "base", "letters"] (defScope sXLong) := ⟨rfl, rfl, rfl, by decide +kernel, rfl, by decide +kernel, by decide +kernel⟩
structure LnTxt (K : PySem.W.Frag) (mg : Str → Option Value) (xg : Addr) (yg : FuncData) : Prop where
  range : mg "range" = none
  len : mg "len" = none
  tuple : mg "tuple" = none
  int : mg "int" = none
  FXLong : Fun K "_law_x_long" "_law_x_long" sXLong xg yg
  bXLong : Binds K yg ["pen", "base", "letters"] []
  gXLong : mg "_law_x_long" = some (.ref xg)
theorem cmul_small {a b : Int} (h1 : 0 ≤ a) (h2 : a ≤ 129) (_ : 0 ≤ b) (_ : b ≤ 129) : CMul a b := by
  have e : (2 : Int) ^ 64 = 18446744073709551616 := by decide +kernel
  refine .inl ⟨?_, ?_⟩
  · rw [e]
    omega
  · rw [e]
    omega
section
variable {P : Program} {w : World} {K : PySem.W.Frag} {mg : Str → Option Value} {base : Heap} {f1 f2 f3 f4 : Addr} {d1 d2 d3 d4 : FuncData} {xg : Addr} {yg : FuncData}
theorem ok_long (TP : PenTxt K mg f1 f2 f3 f4 d1 d2 d3 d4) (T : LnTxt K mg xg yg) {k : Nat} : FnOk P w K mg base CX0 (k + 5) xg yg ["pen", "base", "letters"] (spSide K) := by
  have GT : FnOk P w K mg base CX0 (k + 4) f3 d3 ["pen", "many"] spTake := ok_take TP (k := k + 2)
  refine T.FXLong.ok scXLong (fun vs H Q E h => ?_) (fun cdv A outer s H vs Q E hr h => ?_)
  · obtain ⟨p, n, b, z, rfl, _⟩ := h
    rfl
  · obtain ⟨p, n, b, z, rfl, hP, hn, hl, b2, b9, q⟩ := h
    refine ⟨_, (Evl.pss_cut (ps_set (i := 3) scXLong.nd rfl (.inl rfl) (pe_op op_add pe_int (pe_call GT hr (by rfl) TP.gTake TP.FTake.kp TP.bTake .nil pass0 (pa_cons (pv 0) (pa_cons pe_int pa_nil)))))
 (Evl.pss_cut (ps_par3 (i := 4) (j := 5) (l := 6) (by rfl) scXLong.nd rfl rfl rfl (by decide) (by decide) (by decide) rfl rfl rfl (pa_cons (pe_op op_add pe_int (pe_call GT hr (by rfl) TP.gTake TP.FTake.kp TP.bTake .nil pass0 (pa_cons (pv 0) (pa_cons (pe_op op_sub (pv 3) pe_int) pa_nil)))) (pa_cons (pe_call GT hr (by rfl) TP.gTake TP.FTake.kp TP.bTake .nil pass0 (pa_cons (pv 0) (pa_cons (pv 3) pa_nil))) (pa_cons (pe_lst pa_nil) pa_nil))) (by rfl))
 (pss_cons (ps_for PassesOwn.never rfl (pi_range1 (by rfl) T.range (pa_cons (pv 3) pa_nil)) (pg_name (i := 7) scXLong.nd rfl (.inl rfl))
 (Evl.pss_cut (ps_set (i := 8) scXLong.nd rfl (.inl rfl) (pe_lst pa_nil))
 (pss_cons (ps_for PassesOwn.never rfl (pi_range1 (by rfl) T.range (pa_cons (pe_callB call_len_str (by rfl) T.len PySem.boot_len (pa_cons (pv 2) pa_nil)) pa_nil)) (pg_name (i := 9) scXLong.nd rfl (.inl rfl))
 (pss_one (ps_expr (pe_bm PySem.F.plainAttrs_list PySem.F.slot_list_append PySem.F.type_list_append mt_append (pv 8) (pa_cons (pe_tup (pa_cons (pe_op op_sub (pe_op op_mod (pe_callTy call_int1 (by rfl) T.int (by decide +kernel) (pa_cons (pe_op op_add (pe_op op_mul (pv 7) pe_int) (pe_op op_mul (pv 9) pe_int)) pa_nil)) pe_int) pe_int) (pa_cons (pe_op op_mod (pe_callTy call_int1 (by rfl) T.int (by decide +kernel) (pa_cons (pe_op op_add (pe_op op_add (pe_op op_mul (pv 7) (pv 4)) (pv 5)) (pe_op op_mul (pv 9) pe_int)) pa_nil)) (pv 3)) pa_nil))) pa_nil)))))
 (pss_one (ps_expr (pe_bm PySem.F.plainAttrs_list PySem.F.slot_list_append PySem.F.type_list_append mt_append (pv 6) (pa_cons (pe_callTy call_tuple_of (by rfl) T.tuple (by decide +kernel) (pa_cons (pv 8) pa_nil)) pa_nil)))))))
 (pss_one (ps_ret (pe_tup (pa_cons (pv 1) (pa_cons (pv 2) (pa_cons (pe_callTy call_tuple_of (by rfl) T.tuple (by decide +kernel) (pa_cons (pv 6) pa_nil)) pa_nil))))))))), ?_⟩
    have zp := ltr_pos hl
    have zs : z.length ≤ sizeLine := Nat.le_trans zp.2 (by decide)
    refine ⟨fun σ H' => ∃ mi : Int, σ = [some (.ref p), some (.int b), some (.str z), some (.int mi), none, none, none, none, none, none] ∧ 70 ≤ mi ∧ mi ≤ 129 ∧ But p H H' ∧ Pen H' p (n + 1), ?_, ?_⟩
    · exact ⟨_, rfl, p, 60, _, rfl, hP, by omega, by decide, by decide, fun H1 k1 b1 hP1 k10 k11 => ⟨_, _, rfl, rfl, 70 + k1, rfl, by omega, by omega, b1, hP1⟩⟩
    rintro σ H1 ⟨mi, rfl, m1, m2, b1, hP1⟩
    refine ⟨fun σ H' => ∃ (fa mo : Int) (S c : Addr), σ = [some (.ref p), some (.int b), some (.str z), some (.int mi), some (.int fa), some (.int mo), some (.ref S), none, none, none] ∧ 1 ≤ fa ∧ fa ≤ 129 ∧ 0 ≤ mo ∧ mo ≤ 129 ∧ But p H H' ∧ PenC H' p c (n + 3) ∧ H' S = some (.lst []) ∧ H S = none ∧ S ≠ p ∧ S ≠ c, ?_, ?_⟩
    · refine ⟨_, rfl, _, rfl, _, _, rfl, rfl, p, mi - 1, _, rfl, hP1, by omega, by omega, log_small (m := 128) (by omega) (by decide), fun H2 k2 b2' hP2 k20 k21 => ⟨_, _, rfl, rfl, _, rfl, _, rfl, p, mi, _, rfl, hP2, by omega, by omega, log_small (m := 129) (by omega) (by decide), fun H3 k3 b3 hP3 k30 k31 => ⟨(by show 0 ≤ sizeLine; decide), fun S hS => ?_⟩⟩⟩
      have x1 := same_upd (o := HO.lst []) hS
      have b := b1.trans (b2'.trans b3)
      have nSp := new_ne hP3 hS
      obtain ⟨c, hPc⟩ := hP3.at
      obtain ⟨_, _, _, _, hcc, _⟩ := hPc.ex
      exact ⟨_, _, _, rfl, 1 + k2, k3, S, c, rfl, by omega, by omega, by omega, by omega, b.trans (But.of x1), hPc.same x1, upd_same, butNone b nSp hS, nSp, (ne_of_none hcc hS).symm⟩
    rintro σ H2 ⟨fa, mo, S, c, rfl, fa1, fa2, o0, o1, b2', hP2, hS, S0, nSp, nSc⟩
    refine ⟨_, rfl, _, rfl, by omega, by omega, ?_⟩
    refine for_range (lo := 0) (n := mi.toNat) (fun i σ H' => ∃ v7 v8 v9 vs rows, σ = [some (.ref p), some (.int b), some (.str z), some (.int mi), some (.int fa), some (.int mo), some (.ref S), v7, v8, v9] ∧ But p H H' ∧ PenC H' p c (n + 3) ∧ H' S = some (.lst vs) ∧ RpAll K H' vs (List.map rowD rows) ∧ vs.length = i ∧ ∀ qs ∈ rows, qs.length = z.length ∧ ∀ q ∈ qs, -20 ≤ q.1 ∧ q.1 ≤ 20 ∧ 0 ≤ q.2 ∧ q.2 ≤ mi - 1)
      ⟨none, none, none, [], [], rfl, b2', hP2, hS, .nil, rfl, fun _ h => nomatch h⟩ ?_ ?_
    · rintro i σ H3 hi ⟨v7, v8, v9, vs, rows, rfl, b3, hP3, hS3, hV, lv, ok⟩
      refine ⟨fun σ H' => ∃ R, σ = [some (.ref p), some (.int b), some (.str z), some (.int mi), some (.int fa), some (.int mo), some (.ref S), some (.int (0 + (i : Int))), some (.ref R), v9] ∧ But p H H' ∧ PenC H' p c (n + 3) ∧ H' S = some (.lst vs) ∧ RpAll K H' vs (List.map rowD rows) ∧ H' R = some (.lst []) ∧ R ≠ p ∧ R ≠ S ∧ R ≠ c ∧ H R = none, ?_, ?_⟩
      · refine ⟨(by show 0 ≤ sizeLine; decide), fun R hR => ?_⟩
        have x1 := same_upd (o := HO.lst []) hR
        have nRp := new_ne hP3.pen hR
        obtain ⟨_, _, _, _, hcc, _⟩ := hP3.ex
        exact ⟨R, rfl, b3.trans (But.of x1), hP3.same x1, x1 _ _ hS3, goR (ts_same x1) hV, upd_same, nRp, (ne_of_none hS3 hR).symm, (ne_of_none hcc hR).symm, butNone b3 nRp hR⟩
      rintro σ H4 ⟨R, rfl, b4, hP4, hS4, hV4, hR4, nRp, nRS, nRc, R0⟩
      refine ⟨_, rfl, z, rfl, zs, _, rfl, by omega, by omega, ?_⟩
      refine for_range (lo := 0) (n := (z.length : Int).toNat) (fun j σ H' => ∃ v9 us qs, σ = [some (.ref p), some (.int b), some (.str z), some (.int mi), some (.int fa), some (.int mo), some (.ref S), some (.int (0 + (i : Int))), some (.ref R), v9] ∧ But p H H' ∧ PenC H' p c (n + 3) ∧ H' S = some (.lst vs) ∧ RpAll K H' vs (List.map rowD rows) ∧ H' R = some (.lst us) ∧ RpAll K H' us (List.map eP qs) ∧ us.length = j ∧ ∀ q ∈ qs, -20 ≤ q.1 ∧ q.1 ≤ 20 ∧ 0 ≤ q.2 ∧ q.2 ≤ mi - 1)
        ⟨v9, [], [], rfl, b4, hP4, hS4, hV4, hR4, .nil, rfl, fun _ h => nomatch h⟩ ?_ ?_
      · rintro j σ H5 hj ⟨v9, us, qs, rfl, b5, hP5, hS5, hV5, hR5, hU, lu, oku⟩
        have jz : j < z.length := by omega
        have ii : i < 129 := by omega
        have mul : ∀ {a b : Int}, 0 ≤ a → a ≤ 129 → 0 ≤ b → b ≤ 129 → CMul a b := fun {a b} h1 h2 h3 h4 => cmul_small h1 h2 h3 h4
        refine ⟨_, rfl, .inl ⟨rfl, _, SqL.of hR5⟩, _, rfl, _, _, rfl, rfl, mul (by omega) (by omega) (by decide) (by decide), _, rfl, _, _, rfl, rfl, mul (by omega) (by omega) (by decide) (by decide), _, _, rfl, rfl, .inl ⟨_, rfl, _, _, rfl, rfl, (by show (0 : Int) < 41; decide), _, _, rfl, rfl, ?_⟩⟩
        refine ⟨_, rfl, _, rfl, _, _, rfl, rfl, mul (by omega) (by omega) (by omega) (by omega), _, rfl, _, _, rfl, rfl, _, rfl, _, _, rfl, rfl, mul (by omega) (by omega) (by decide) (by decide), _, _, rfl, rfl, .inl ⟨_, rfl, _, rfl, _, _, rfl, rfl, (by show (0 : Int) < mi; omega), (by show 2 ≤ sizeLine; decide), fun t ht => ?_⟩⟩
        let g1 : Int := ((0 + (i : Int)) * 31 + (0 + (j : Int)) * 5) % 41
        let g2 : Int := ((0 + (i : Int)) * fa + mo + (0 + (j : Int)) * 7) % mi
        have r1 : 0 ≤ g1 := Int.emod_nonneg _ (by decide)
        have r2 : g1 < 41 := Int.emod_lt_of_pos _ (by decide)
        have r3 : 0 ≤ g2 := Int.emod_nonneg _ (by omega)
        have r4 : g2 < mi := Int.emod_lt_of_pos _ (by omega)
        have xt : Same H5 (upd H5 t (.tup [V.int (g1 - 20), .int g2])) := same_upd ht
        have ht2 : (upd H5 t (.tup [V.int (g1 - 20), .int g2])) t = some (.tup [V.int (g1 - 20), .int g2]) := upd_same
        have hR6 := xt _ _ hR5
        have bt : TStay K (upd H5 t (.tup [V.int (g1 - 20), .int g2])) (upd (upd H5 t (.tup [V.int (g1 - 20), .int g2])) R (.lst (us ++ [.ref t]))) := ts_lst hR6
        refine ⟨R, us, .ref t, rfl, rfl, hR6, Nat.lt_of_le_of_lt (show us.length ≤ 3 by omega) (by decide), _, us ++ [.ref t], qs ++ [(g1 - 20, g2)], rfl, ?_, ?_, ?_, goR ((ts_same xt).trans bt) hV5, upd_same, ?_, by rw [List.length_append, lu]; rfl, all_snoc oku ⟨by show -20 ≤ g1 - 20; omega, by show g1 - 20 ≤ 20; omega, r3, by show g2 ≤ mi - 1; omega⟩⟩
        · intro c o nc e
          rw [upd_ne (ne_of_none e R0)]
          exact xt _ _ (b5 _ _ nc e)
        · exact (hP5.same xt).keep (fun o e => by rw [upd_ne nRp.symm]; exact e) (fun o e => by rw [upd_ne nRc.symm]; exact e)
        · rw [upd_ne nRS.symm]
          exact xt _ _ hS5
        · rw [map_snoc]
          exact rp_snoc (goP ((ts_same xt).trans bt) hU) (.tup (bt _ _ (SqT.of ht2)) (.cons (.int _) (.cons (.int _) .nil)))
      · rintro σ H5 ⟨v9, us, qs, rfl, b5, hP5, hS5, hV5, hR5, hU, lu, oku⟩
        have lu3 : us.length ≤ 3 := by omega
        refine ⟨_, rfl, .inl ⟨rfl, _, SqL.of hS5⟩, _, rfl, R, _, rfl, .inl ⟨SqL.of hR5, fun t ht => ?_⟩⟩
        have xt := same_upd (o := HO.tup us) ht
        refine ⟨S, _, _, rfl, rfl, xt _ _ hS5, Nat.lt_of_le_of_lt (show vs.length ≤ 129 by omega) (by decide), ?_⟩
        have bt : TStay K (upd H5 t (HO.tup us)) (upd (upd H5 t (HO.tup us)) S (HO.lst (vs ++ [V.ref t]))) := ts_lst (xt _ _ hS5)
        have luq : us.length = qs.length := by rw [hU.len, List.length_map]
        refine ⟨_, _, _, vs ++ [V.ref t], rows ++ [qs], rfl, ?_, ?_, upd_same, ?_, by rw [List.length_append, lv]; rfl, all_snoc ok ⟨by omega, oku⟩⟩
        · intro b o nb e
          rw [upd_ne (ne_of_none e S0)]
          exact xt _ _ (b5 _ _ nb e)
        · exact (hP5.same xt).keep (fun o e => by rw [upd_ne nSp.symm]; exact e) (fun o e => by rw [upd_ne nSc.symm]; exact e)
        · rw [map_snoc]
          exact rp_snoc (goR ((ts_same xt).trans bt) hV5) (.tup (bt _ _ (SqT.of upd_same)) (goP ((ts_same xt).trans bt) hU))
    · rintro σ H3 ⟨v7, v8, v9, vs, rows, rfl, b3, hP3, hS3, hV, lv, ok⟩
      refine ⟨_, rfl, _, rfl, _, rfl, S, _, rfl, .inl ⟨SqL.of hS3, fun t ht => ⟨(by show 3 ≤ sizeLine; decide), fun u hu => ?_⟩⟩⟩
      have xt := same_upd (o := HO.tup vs) ht
      have xu := same_upd (o := HO.tup [V.int b, V.str z, V.ref t]) hu
      have x2 := xt.trans xu
      have lvr : vs.length = rows.length := by rw [hV.len, List.length_map]
      have w20 : (20 : Int) ≤ wideN := by decide +kernel
      obtain ⟨sd, rp⟩ := pln_made (K := K) b2 b9 hl (by omega) (by omega) (fun qs hqs => (ok qs hqs).1) (fun qs hqs q hq => by
        obtain ⟨h1, h2, h3, h4⟩ := (ok qs hqs).2 q hq
        exact ⟨by omega, by omega, h3, by omega⟩)
      refine q _ u _ ⟨b, z, rows.map (List.map fun p => [p])⟩ (b3.trans (But.of x2)) ((hP3.same x2).mono (by omega)).pen (new_ne (hP3.same xt).pen hu) ?_ sd rfl rfl
      rw [rp]
      exact .tup (SqT.of upd_same) (.cons (.int b) (.cons (.str z zs) (.cons (.tup (SqT.of (xu _ _ upd_same)) (goR (ts_same x2) hV)) .nil)))
end
end My
/-! ### the law's rich machines -/
namespace My
open PySem PySem.Spec PyProof.Rows L2 PySem.Builtin.Str
abbrev sXRich : Stmt := topS 59
abbrev sXSome : Stmt := topS 61
theorem scXRich : FnScope ["pen", "base", "letters", "wide", "many", "states", "state", "row", "letter", "keep", "other"] ["pen", "base", "letters"] (defScope sXRich) := ⟨rfl, rfl, rfl, by decide +kernel, rfl, by decide +kernel, by decide +kernel⟩
theorem scXSome : FnScope ["pen", "base", "letters", "way"] ["pen", "base", "letters"] (defScope sXSome) := ⟨rfl, rfl, rfl, by decide +kernel, rfl, by decide +kernel, by decide +kernel⟩
structure RiTxt (K : PySem.W.Frag) (mg : Str → Option Value) (xg xc xo : Addr) (yg yc yo : FuncData) : Prop where
  ln : LnTxt K mg xg yg
  FXRich : Fun K "_law_x_rich" "_law_x_rich" sXRich xc yc
  bXRich : Binds K yc ["pen", "base", "letters"] []
  gXRich : mg "_law_x_rich" = some (.ref xc)
  FXSome : Fun K "_law_x_some" "_law_x_some" sXSome xo yo
  bXSome : Binds K yo ["pen", "base", "letters"] []
  gXSome : mg "_law_x_some" = some (.ref xo)
section
variable {P : Program} {w : World} {K : PySem.W.Frag} {mg : Str → Option Value} {base : Heap} {f1 f2 f3 f4 : Addr} {d1 d2 d3 d4 : FuncData} {xg xc xo : Addr} {yg yc yo : FuncData}
theorem ok_rich (TP : PenTxt K mg f1 f2 f3 f4 d1 d2 d3 d4) (T : RiTxt K mg xg xc xo yg yc yo) {k : Nat} : FnOk P w K mg base CX0 (k + 5) xc yc ["pen", "base", "letters"] (spSide K) := by
  have GTC : FnOk P w K mg base CX0 (k + 4) f3 d3 ["pen", "many"] spTakeC := ok_takeC TP (k := k + 2)
  have GP : FnOk P w K mg base CX0 (k + 4) f4 d4 ["pen", "some"] (spPickC K) := ok_pickC TP (k := k + 1)
  refine T.FXRich.ok scXRich (fun vs H Q E h => ?_) (fun cdv A outer s H vs Q E hr h => ?_)
  · obtain ⟨p, n, b, z, rfl, _⟩ := h
    rfl
  · obtain ⟨p, n, b, z, rfl, hP, hn, hl, b2', b9', q⟩ := h
    have hu : (A.deeper (envOfC "_law_x_rich" (defScope sXRich) s.heap.objs.size xc cdv)).units + 64 < cLine := by have := hr.un; omega
    refine ⟨_, (Evl.pss_cut (ps_set (i := 3) scXRich.nd rfl (.inl rfl) (pe_call GP hr (by rfl) TP.gPick TP.FPick.kp TP.bPick .nil pass0 (pa_cons (pv 0) (pa_cons (pe_lst (pa_cons pe_int (pa_cons pe_int (pa_cons pe_int (pa_cons pe_int pa_nil))))) pa_nil))))
 (Evl.pss_cut (ps_par (i := 4) (j := 5) (by rfl) scXRich.nd rfl rfl (by decide) rfl rfl (pa_cons (pe_op op_add pe_int (pe_call GTC hr (by rfl) TP.gTake TP.FTake.kp TP.bTake .nil pass0 (pa_cons (pv 0) (pa_cons pe_int pa_nil)))) (pa_cons (pe_lst pa_nil) pa_nil)) (by rfl))
 (pss_cons (ps_for PassesOwn.never rfl (pi_range1 (by rfl) T.ln.range (pa_cons (pv 4) pa_nil)) (pg_name (i := 6) scXRich.nd rfl (.inl rfl))
 (Evl.pss_cut (ps_set (i := 7) scXRich.nd rfl (.inl rfl) (pe_lst pa_nil))
 (pss_cons (ps_for PassesOwn.never rfl (pi_str (pv 2)) (pg_name (i := 8) scXRich.nd rfl (.inl rfl))
 (Evl.pss_cut (ps_set (i := 9) scXRich.nd rfl (.inl rfl) (pe_tup (pa_cons (pe_op op_sub (pe_call GTC hr (by rfl) TP.gTake TP.FTake.kp TP.bTake .nil pass0 (pa_cons (pv 0) (pa_cons (pe_op op_add (pe_op op_mul pe_int (pv 3)) pe_int) pa_nil))) (pv 3)) (pa_cons (pv 6) pa_nil))))
 (Evl.pss_cut (ps_set (i := 10) scXRich.nd rfl (.inl rfl) (pe_tup (pa_cons (pe_op op_sub (pe_call GTC hr (by rfl) TP.gTake TP.FTake.kp TP.bTake .nil pass0 (pa_cons (pv 0) (pa_cons (pe_op op_add (pe_op op_mul pe_int (pv 3)) pe_int) pa_nil))) (pv 3)) (pa_cons (pe_call GTC hr (by rfl) TP.gTake TP.FTake.kp TP.bTake .nil pass0 (pa_cons (pv 0) (pa_cons (pv 4) pa_nil))) pa_nil))))
 (pss_one (ps_expr (pe_bm PySem.F.plainAttrs_list PySem.F.slot_list_append PySem.F.type_list_append mt_append (pv 7) (pa_cons (pe_ifExp (pt_cmpR (op_neD hu) (pv 9) (pv 10) (nomark _)) (pe_tup (pa_cons (pv 9) (pa_cons (pv 10) pa_nil))) (pe_tup (pa_cons (pv 9) pa_nil))) pa_nil)))))))
 (pss_one (ps_expr (pe_bm PySem.F.plainAttrs_list PySem.F.slot_list_append PySem.F.type_list_append mt_append (pv 5) (pa_cons (pe_callTy call_tuple_of (by rfl) T.ln.tuple (by decide +kernel) (pa_cons (pv 7) pa_nil)) pa_nil)))))))
 (pss_one (ps_ret (pe_tup (pa_cons (pv 1) (pa_cons (pv 2) (pa_cons (pe_callTy call_tuple_of (by rfl) T.ln.tuple (by decide +kernel) (pa_cons (pv 5) pa_nil)) pa_nil))))))))), ?_⟩
    obtain ⟨c, hP⟩ := hP.at
    have zp := ltr_pos hl
    have z3 : z.cps.size ≤ 3 := zp.2
    have zs : z.length ≤ sizeLine := Nat.le_trans zp.2 (by decide)
    have sl3 : ∀ {m : Nat}, m ≤ 100 → m < sizeLine := fun h => Nat.lt_of_le_of_lt h (by decide)
    refine ⟨fun σ H' => ∃ wi : Int, σ = [some (.ref p), some (.int b), some (.str z), some (.int wi), none, none, none, none, none, none, none] ∧ 2 ≤ wi ∧ wi ≤ 20 ∧ But p H H' ∧ PenC H' p c (n + 1), ?_, ?_⟩
    · refine ⟨_, rfl, (by show 4 ≤ sizeLine; decide), fun L hL => ?_⟩
      have xL := same_upd (o := HO.lst [.int 2, .int 5, .int 20, .int 20]) hL
      have hPL := hP.same xL
      refine ⟨p, c, L, _, _, rfl, hPL, by omega, SqL.of upd_same, new_ne hP.pen hL, (by show 0 < 4; decide), (by show 4 ≤ 1000; decide), fun H4 m v b4 hP4 hm => ?_⟩
      have hv : ∃ g : Int, v = .int g ∧ 2 ≤ g ∧ g ≤ 20 := by
        match m, hm with
        | 0, hm => exact ⟨2, (Option.some.inj hm).symm, by omega, by omega⟩
        | 1, hm => exact ⟨5, (Option.some.inj hm).symm, by omega, by omega⟩
        | 2, hm => exact ⟨20, (Option.some.inj hm).symm, by omega, by omega⟩
        | 3, hm => exact ⟨20, (Option.some.inj hm).symm, by omega, by omega⟩
        | m + 4, hm => exact absurd hm (by simp)
      obtain ⟨g, rfl, g1, g3⟩ := hv
      exact ⟨g, rfl, g1, g3, (But.of xL).trans b4, hP4⟩
    rintro σ H0 ⟨wi, rfl, w2, w20, b0, hP0⟩
    refine ⟨fun σ H' => ∃ (mi : Int) (S : Addr), σ = [some (.ref p), some (.int b), some (.str z), some (.int wi), some (.int mi), some (.ref S), none, none, none, none, none] ∧ 2 ≤ mi ∧ mi ≤ 4 ∧ But p H H' ∧ PenC H' p c (n + 2) ∧ H' S = some (.lst []) ∧ S ≠ p ∧ S ≠ c ∧ H S = none, ?_, ?_⟩
    · refine ⟨_, rfl, p, c, 3, _, rfl, hP0, by omega, by decide, by decide, fun H1 k1 b1 hP1 k10 k11 => ⟨_, _, rfl, rfl, (by show 0 ≤ sizeLine; decide), fun S hS => ?_⟩⟩
      have x1 := same_upd (o := HO.lst []) hS
      obtain ⟨c1, _, _, hp1, hc1, _⟩ := hP1.ex
      exact ⟨_, _, rfl, 2 + k1, S, rfl, by omega, by omega, (b0.trans b1).trans (But.of x1), hP1.same x1, upd_same, (ne_of_none hp1 hS).symm, (ne_of_none hc1 hS).symm, butNone (b0.trans b1) (ne_of_none hp1 hS).symm hS⟩
    rintro σ H1 ⟨mi, S, rfl, i1, i4, b1, hP1, hS, nSp, nSc, S0⟩
    refine ⟨_, rfl, _, rfl, by omega, by omega, ?_⟩
    refine for_range (lo := 0) (n := mi.toNat) (fun i σ H' => ∃ v6 v7 v8 v9 v10 vs css, σ = [some (.ref p), some (.int b), some (.str z), some (.int wi), some (.int mi), some (.ref S), v6, v7, v8, v9, v10] ∧ But p H H' ∧ PenC H' p c (n + 2 + 9 * i) ∧ H' S = some (.lst vs) ∧ RpAll K H' vs (List.map eS css) ∧ vs.length = i ∧ ∀ cs ∈ css, cs.length = z.length ∧ ∀ ps ∈ cs, 1 ≤ ps.length ∧ Ck mi ps)
      ⟨none, none, none, none, none, [], [], rfl, b1, hP1, hS, .nil, rfl, fun _ h => nomatch h⟩ ?_ ?_
    · rintro i σ H2 hi ⟨v6, v7, v8, v9, v10, vs, css, rfl, b2, hP2, hS2, hV, lv, ok⟩
      refine ⟨fun σ H' => ∃ R, σ = [some (.ref p), some (.int b), some (.str z), some (.int wi), some (.int mi), some (.ref S), some (.int (0 + (i : Int))), some (.ref R), v8, v9, v10] ∧ But p H H' ∧ PenC H' p c (n + 2 + 9 * i) ∧ H' S = some (.lst vs) ∧ RpAll K H' vs (List.map eS css) ∧ H' R = some (.lst []) ∧ R ≠ p ∧ R ≠ S ∧ R ≠ c ∧ H R = none, ?_, ?_⟩
      · refine ⟨(by show 0 ≤ sizeLine; decide), fun R hR => ?_⟩
        have x1 := same_upd (o := HO.lst []) hR
        have nRp := new_ne hP2.pen hR
        obtain ⟨_, _, _, _, hcc, _⟩ := hP2.ex
        exact ⟨R, rfl, b2.trans (But.of x1), hP2.same x1, x1 _ _ hS2, goS (ts_same x1) hV, upd_same, nRp, (ne_of_none hS2 hR).symm, (ne_of_none hcc hR).symm, butNone b2 nRp hR⟩
      rintro σ H3 ⟨R, rfl, b3, hP3, hS3, hV3, hR3, nRp, nRS, nRc, R0⟩
      refine ⟨_, rfl, z, rfl, ?_⟩
      refine for_it walk_str (fun j σ H' => ∃ v8 v9 v10 us pss, σ = [some (.ref p), some (.int b), some (.str z), some (.int wi), some (.int mi), some (.ref S), some (.int (0 + (i : Int))), some (.ref R), v8, v9, v10] ∧ But p H H' ∧ PenC H' p c (n + 2 + 9 * i + 3 * j) ∧ H' S = some (.lst vs) ∧ RpAll K H' vs (List.map eS css) ∧ H' R = some (.lst us) ∧ RpAll K H' us (List.map eC pss) ∧ us.length = j ∧ ∀ ps ∈ pss, 1 ≤ ps.length ∧ Ck mi ps)
        ⟨v8, v9, v10, [], [], rfl, b3, hP3, hS3, hV3, hR3, .nil, rfl, fun _ h => nomatch h⟩ (fun _ _ _ _ _ => trivial) ?_ ?_
      · rintro j u σ H4 H4' hj ⟨v8, v9, v10, us, pss, rfl, b4, hP4, hS4, hV4, hR4, hU4, lu, oku⟩ ⟨rfl, cc, hcc, rfl⟩
        have i5 : (i : Int) ≤ mi - 1 := by omega
        have takes : ∀ {H' : Hp} {m : Nat}, PenC H' p c m → But p H4' H' → TStay K H4' H' := fun _ b => ts_but hP4.pen b
        refine ⟨fun σ H' => ∃ (g : Int) (T : Addr), σ = [some (.ref p), some (.int b), some (.str z), some (.int wi), some (.int mi), some (.ref S), some (.int (0 + (i : Int))), some (.ref R), some (.str ⟨#[cc]⟩), some (.ref T), v10] ∧ But p H4' H' ∧ PenC H' p c (n + 2 + 9 * i + 3 * j + 1) ∧ -20 ≤ g ∧ g ≤ 20 ∧ H' T = some (.tup [.int g, .int (i : Nat)]), ?_, ?_⟩
        · refine ⟨_, rfl, _, rfl, _, _, rfl, rfl, .inl ⟨by decide, by decide⟩, _, _, rfl, rfl, p, c, 2 * wi + 1, _, rfl, hP4, by omega, by omega, log_small (m := 41) (by omega) (by decide), fun H6 k6 b6 hP6 k60 k61 => ?_⟩
          refine ⟨_, rfl, _, _, rfl, rfl, _, rfl, (by show 2 ≤ sizeLine; decide), fun T hT => ?_⟩
          have xT : Same H6 (upd H6 T (.tup [.int (k6 - wi), .int (0 + (i : Int))])) := same_upd hT
          refine ⟨k6 - wi, T, rfl, b6.trans (But.of xT), hP6.same xT, by omega, by omega, ?_⟩
          have e : (upd H6 T (.tup [.int (k6 - wi), .int (0 + (i : Int))])) T = some (.tup [.int (k6 - wi), .int (i : Nat)]) := by rw [upd_same, Int.zero_add]
          exact e
        rintro σ H5 ⟨g1, T1, rfl, b5, hP5, g11, g12, hT1⟩
        have nT1 : T1 ≠ p := fun zz => by
          obtain ⟨ys, hp⟩ := hP5.pen.ls
          rw [zz, hp] at hT1
          exact nomatch (Option.some.inj hT1)
        refine ⟨fun σ H' => ∃ (g k : Int) (T : Addr), σ = [some (.ref p), some (.int b), some (.str z), some (.int wi), some (.int mi), some (.ref S), some (.int (0 + (i : Int))), some (.ref R), some (.str ⟨#[cc]⟩), some (.ref T1), some (.ref T)] ∧ But p H5 H' ∧ PenC H' p c (n + 2 + 9 * i + 3 * j + 3) ∧ -20 ≤ g ∧ g ≤ 20 ∧ 0 ≤ k ∧ k ≤ mi - 1 ∧ H' T = some (.tup [.int g, .int k]), ?_, ?_⟩
        · refine ⟨_, rfl, _, rfl, _, _, rfl, rfl, .inl ⟨by decide, by decide⟩, _, _, rfl, rfl, p, c, 2 * wi + 1, _, rfl, hP5, by omega, by omega, log_small (m := 41) (by omega) (by decide), fun H6 k6 b6 hP6 k60 k61 => ?_⟩
          refine ⟨_, rfl, _, _, rfl, rfl, _, rfl, _, rfl, p, c, mi, _, rfl, hP6, by omega, by omega, log_small (m := 4) (by omega) (by decide), fun H7 k7 b7 hP7 k70 k71 => ⟨(by show 2 ≤ sizeLine; decide), fun T hT => ?_⟩⟩
          have xT : Same H7 (upd H7 T (.tup [.int (k6 - wi), .int k7])) := same_upd hT
          exact ⟨k6 - wi, k7, T, rfl, (b6.trans b7).trans (But.of xT), hP7.same xT, by omega, by omega, k70, by omega, upd_same⟩
        rintro σ H6 ⟨g2, k2, T2, rfl, b6, hP6, g21, g22, k20, k21, hT2⟩
        have hT16 := b6 _ _ nT1 hT1
        have b46 := b5.trans b6
        have ts46 : TStay K H4' H6 := ts_but hP4.pen b46
        have hR6 := b46 _ _ nRp hR4
        have hS6 := b46 _ _ nSp hS4
        have rp1 : Rp K H6 (.ref T1) (eP (g1, (i : Int))) := .tup (SqT.of hT16) (.cons (.int _) (.cons (.int _) .nil))
        have rp2 : Rp K H6 (.ref T2) (eP (g2, k2)) := .tup (SqT.of hT2) (.cons (.int _) (.cons (.int _) .nil))
        -- a choice is put into the row
        have fin : ∀ (t : Addr) (ws : List V) (ps : List (Int × Int)), H6 t = none → RpAll K H6 ws (ps.map eP) → 1 ≤ ps.length ∧ Ck mi ps → ∃ (l : Addr) (xs : List V) (v : V), V.ref R = V.ref l ∧ [V.ref t] = [v] ∧ (upd H6 t (.tup ws)) l = some (.lst xs) ∧ xs.length < sizeLine ∧ ∃ v8 v9 v10 us pss, ([some (V.ref p), some (V.int b), some (V.str z), some (V.int wi), some (V.int mi), some (V.ref S), some (V.int (0 + (i : Int))), some (V.ref R), some (V.str ⟨#[cc]⟩), some (V.ref T1), some (V.ref T2)] : L2.St) = [some (.ref p), some (.int b), some (.str z), some (.int wi), some (.int mi), some (.ref S), some (.int (0 + (i : Int))), some (.ref R), v8, v9, v10] ∧ But p H (upd (upd H6 t (.tup ws)) l (.lst (xs ++ [v]))) ∧ PenC (upd (upd H6 t (.tup ws)) l (.lst (xs ++ [v]))) p c (n + 2 + 9 * i + 3 * (j + 1)) ∧ (upd (upd H6 t (.tup ws)) l (.lst (xs ++ [v]))) S = some (.lst vs) ∧ RpAll K (upd (upd H6 t (.tup ws)) l (.lst (xs ++ [v]))) vs (List.map eS css) ∧ (upd (upd H6 t (.tup ws)) l (.lst (xs ++ [v]))) R = some (.lst us) ∧ RpAll K (upd (upd H6 t (.tup ws)) l (.lst (xs ++ [v]))) us (List.map eC pss) ∧ us.length = j + 1 ∧ ∀ ps ∈ pss, 1 ≤ ps.length ∧ Ck mi ps := fun t ws ps ht hw okp => by
          have xt := same_upd (o := HO.tup ws) ht
          have bt : TStay K (upd H6 t (HO.tup ws)) (upd (upd H6 t (HO.tup ws)) R (HO.lst (us ++ [V.ref t]))) := ts_lst (xt _ _ hR6)
          have z9 : z.cps.size ≤ 3 := z3
          refine ⟨R, us, .ref t, rfl, rfl, xt _ _ hR6, sl3 (by omega), _, _, _, us ++ [V.ref t], pss ++ [ps], rfl, ?_, ?_, ?_, ?_, upd_same, ?_, by rw [List.length_append, lu]; rfl, all_snoc oku okp⟩
          · intro b o nb e
            rw [upd_ne (ne_of_none e R0)]
            exact xt _ _ (b46 _ _ nb (b4 _ _ nb e))
          · exact ((hP6.same xt).keep (fun o e => by rw [upd_ne nRp.symm]; exact e) (fun o e => by rw [upd_ne nRc.symm]; exact e)).mono (by omega)
          · rw [upd_ne nRS.symm]
            exact xt _ _ hS6
          · exact goS ((ts46.trans (ts_same xt)).trans bt) hV4
          · rw [map_snoc]
            exact rp_snoc (goC ((ts46.trans (ts_same xt)).trans bt) hU4) (.tup (bt _ _ (SqT.of upd_same)) (goP ((ts_same xt).trans bt) hw))
        refine ⟨_, rfl, .inl ⟨rfl, _, SqL.of hR6⟩, _, rfl, _, rfl, eP (g1, (i : Int)), eP (g2, k2), rp1.dp (by simp [eP, PyData.hasDict, PyData.hasDictAll]), rp2.dp (by simp [eP, PyData.hasDict, PyData.hasDictAll]), shaped_eP _, shaped_eP _, _, rfl, ?_⟩
        rw [eqv_eP]
        by_cases e : (g1, (i : Int)) = (g2, k2)
        · rw [decide_eq_true e]
          refine iteF ⟨_, rfl, (by show 1 ≤ sizeLine; decide), fun t ht => ?_⟩
          exact fin t [.ref T1] [(g1, (i : Int))] ht (.cons rp1 .nil) ⟨by simp, ⟨by simp, by simp, fun q hq => by
            rw [List.mem_singleton.mp hq]
            exact ⟨g11, g12, by show (0 : Int) ≤ (i : Int); omega, i5⟩⟩⟩
        · rw [decide_eq_false e]
          refine iteT ⟨_, rfl, _, rfl, (by show 2 ≤ sizeLine; decide), fun t ht => ?_⟩
          refine fin t [.ref T1, .ref T2] [(g1, (i : Int)), (g2, k2)] ht (.cons rp1 (.cons rp2 .nil)) ⟨by simp, ⟨by simp [e], by simp, fun q hq => ?_⟩⟩
          rcases List.mem_cons.mp hq with rfl | hq
          · exact ⟨g11, g12, by show (0 : Int) ≤ (i : Int); omega, i5⟩
          · rw [List.mem_singleton.mp hq]
            exact ⟨g21, g22, k20, k21⟩
      · rintro σ H4 ⟨v8, v9, v10, us, pss, rfl, b4, hP4, hS4, hV4, hR4, hU4, lu, oku⟩
        have lu3 : us.length ≤ 3 := by rw [lu]; exact z3
        refine ⟨_, rfl, .inl ⟨rfl, _, SqL.of hS4⟩, _, rfl, R, _, rfl, .inl ⟨SqL.of hR4, fun t ht => ?_⟩⟩
        have xt := same_upd (o := HO.tup us) ht
        refine ⟨S, _, _, rfl, rfl, xt _ _ hS4, sl3 (by omega), ?_⟩
        have bt : TStay K (upd H4 t (HO.tup us)) (upd (upd H4 t (HO.tup us)) S (HO.lst (vs ++ [V.ref t]))) := ts_lst (xt _ _ hS4)
        have lup : us.length = pss.length := by rw [hU4.len, List.length_map]
        refine ⟨_, _, _, _, _, vs ++ [V.ref t], css ++ [pss], rfl, ?_, ?_, upd_same, ?_, by rw [List.length_append, lv]; rfl, all_snoc ok ⟨lup.symm.trans lu, oku⟩⟩
        · intro b o nb e
          rw [upd_ne (ne_of_none e S0)]
          exact xt _ _ (b4 _ _ nb e)
        · exact ((hP4.same xt).keep (fun o e => by rw [upd_ne nSp.symm]; exact e) (fun o e => by rw [upd_ne nSc.symm]; exact e)).mono (by have : z.cps.size ≤ 3 := z3; omega)
        · rw [map_snoc]
          exact rp_snoc (goS ((ts_same xt).trans bt) hV4) (.tup (bt _ _ (SqT.of upd_same)) (goC ((ts_same xt).trans bt) hU4))
    · rintro σ H2 ⟨v6, v7, v8, v9, v10, vs, css, rfl, b2, hP2, hS2, hV, lv, ok⟩
      refine ⟨_, rfl, _, rfl, _, rfl, S, _, rfl, .inl ⟨SqL.of hS2, fun t ht => ⟨(by show 3 ≤ sizeLine; decide), fun u hu => ?_⟩⟩⟩
      have xt := same_upd (o := HO.tup vs) ht
      have xu := same_upd (o := HO.tup [V.int b, V.str z, V.ref t]) hu
      have x2 := xt.trans xu
      have lvr : vs.length = css.length := by rw [hV.len, List.length_map]
      have emi : mi = (css.length : Int) := by omega
      have sd := mch_made b2' b9' hl (by omega) (by omega) (fun cs hcs => (ok cs hcs).1) (fun cs hcs ps hps => by
        obtain ⟨h1, h2⟩ := (ok cs hcs).2 ps hps
        exact ⟨h1, emi ▸ h2⟩)
      exact q _ u _ ⟨b, z, css⟩ (b2.trans (But.of x2)) ((hP2.same x2).mono (by omega)).pen (new_ne (hP2.same xt).pen hu) (.tup (SqT.of upd_same) (.cons (.int b) (.cons (.str z zs) (.cons (.tup (SqT.of (xu _ _ upd_same)) (goS (ts_same x2) hV)) .nil)))) sd rfl rfl
def spSome (K : PySem.W.Frag) : Sp := fun vs H Q _ => ∃ (p : Addr) (n : Nat) (b : Int) (z : Str), vs = [.ref p, .int b, .str z] ∧ Pen H p n ∧ n < 1044000 ∧ lettersL z.cps.toList = true ∧ 2 ≤ b ∧ b ≤ 9 ∧
  ∀ (H' : Hp) (t : Addr) (d : PyData) (M : Mc), But p H H' → Pen H' p (n + 120) → t ≠ p → Rp K H' (.ref t) d → Side d M → M.b = b → M.z = z → Q (.ref t) H'
theorem ok_some (TP : PenTxt K mg f1 f2 f3 f4 d1 d2 d3 d4) {xm xp xf xs : Addr} {ym yp yf ys : FuncData} (TB : BlTxt K mg xm xp xf xs ym yp yf ys) (T : RiTxt K mg xg xc xo yg yc yo) {k : Nat} : FnOk P w K mg base CX0 (k + 6) xo yo ["pen", "base", "letters"] (spSome K) := by
  have GT : FnOk P w K mg base CX0 (k + 5) f3 d3 ["pen", "many"] spTake := ok_take TP (k := k + 3)
  have GS : FnOk P w K mg base CX0 (k + 5) xs ys ["pen", "base", "letters"] (spSide K) := ok_side TP TB
  have GL : FnOk P w K mg base CX0 (k + 5) xg yg ["pen", "base", "letters"] (spSide K) := ok_long TP T.ln
  have GR : FnOk P w K mg base CX0 (k + 5) xc yc ["pen", "base", "letters"] (spSide K) := ok_rich TP T
  refine T.FXSome.ok scXSome (fun vs H Q E h => ?_) (fun cdv A outer s H vs Q E hr h => ?_)
  · obtain ⟨p, n, b, z, rfl, _⟩ := h
    rfl
  · obtain ⟨p, n, b, z, rfl, hP, hn, hl, b2', b9', q⟩ := h
    refine ⟨_, (Evl.pss_cut (ps_set (i := 3) scXSome.nd rfl (.inl rfl) (pe_call GT hr (by rfl) TP.gTake TP.FTake.kp TP.bTake .nil pass0 (pa_cons (pv 0) (pa_cons pe_int pa_nil))))
 (pss_cons (ps_if (pt_cmpR op_lt (pv 3) pe_int (nomark _)) (pss_one (ps_ret (pe_call GR hr (by rfl) T.gXRich T.FXRich.kp T.bXRich .nil pass0 (pa_cons (pv 0) (pa_cons (pv 1) (pa_cons (pv 2) pa_nil)))))) pss_nil)
 (pss_one (ps_ret (pe_ifExp (pt_cmpR op_eq (pv 3) pe_int (nomark _)) (pe_call GL hr (by rfl) T.ln.gXLong T.ln.FXLong.kp T.ln.bXLong .nil pass0 (pa_cons (pv 0) (pa_cons (pv 1) (pa_cons (pv 2) pa_nil)))) (pe_call GS hr (by rfl) TB.gXSide TB.FXSide.kp TB.bXSide .nil pass0 (pa_cons (pv 0) (pa_cons (pv 1) (pa_cons (pv 2) pa_nil))))))))), ?_⟩
    refine ⟨fun σ H' => ∃ g : Int, σ = [some (.ref p), some (.int b), some (.str z), some (.int g)] ∧ But p H H' ∧ Pen H' p (n + 1), ?_, ?_⟩
    · exact ⟨_, rfl, p, 6, _, rfl, hP, by omega, by decide, by decide, fun H1 k1 b1 hP1 k10 k11 => ⟨k1, rfl, b1, hP1⟩⟩
    rintro σ H1 ⟨g, rfl, b1, hP1⟩
    have call : ∀ E', spSide K [.ref p, .int b, .str z] H1 Q E' := fun _ => ⟨p, _, b, z, rfl, hP1, by omega, hl, b2', b9', fun H' t d M b2 hP2 nt r sd e1 e2 => q H' t d M (b1.trans b2) (hP2.mono (by omega)) nt r sd e1 e2⟩
    exact ⟨_, rfl, _, _, rfl, rfl, _, rfl, ite2 (fun _ => ⟨_, rfl, _, rfl, _, rfl, call E0⟩) (fun _ => ⟨_, rfl, rfl, _, rfl, ite2 (fun _ => ⟨_, rfl, _, rfl, _, rfl, call E0⟩) (fun _ => ⟨_, rfl, _, rfl, _, rfl, call E0⟩)⟩)⟩
end
end My
/-! ### the law's lines of a dict -/
namespace My
open PySem PySem.Spec PyProof.Rows L2 PySem.Builtin.Str
abbrev sXLines : Stmt := topS 58
theorem scXLines : FnScope ["some", "key"] ["some"] (defScope sXLines) := ⟨rfl, rfl, rfl, by decide +kernel, rfl, by decide +kernel, by decide +kernel⟩
structure LsTxt (K : PySem.W.Frag) (mg : Str → Option Value) (x7 : Addr) (y7 : FuncData) : Prop where
  repr : mg "repr" = none
  sorted : mg "sorted" = none
  FXLines : Fun K "_law_x_lines" "_law_x_lines" sXLines x7 y7
  bXLines : Binds K y7 ["some"] []
  gXLines : mg "_law_x_lines" = some (.ref x7)
theorem sd_pair {p : Int × Int} (h : p.1.natAbs < 10 ^ 39) (h2 : p.2.natAbs < 10 ^ 39) : Sd 1 262 (eP p) := by
  refine (sd_tup (ds := [.int p.1, .int p.2]) (n := 2) (D := 0) (W := 130) (fun d hd => ?_) (Nat.le_refl _))
  rcases List.mem_cons.mp hd with rfl | hd
  · exact sd_int h
  · rw [List.mem_singleton.mp hd]
    exact sd_int h2
theorem pair_nodict : ∀ D : Dk, PyData.hasDictAll (D.map eP) = false
  | [] => by simp [PyData.hasDictAll]
  | p :: D => by
    rw [List.map_cons, PyData.hasDictAll, pair_nodict D]
    simp [eP, PyData.hasDict, PyData.hasDictAll]
theorem lst_nodict (D : Dk) : (PyData.list (D.map eP)).hasDict = false := by
  rw [PyData.hasDict]
  exact pair_nodict D
def linesD (D : Dk) : Str := (PyData.list (D.map eP)).shown
def spLines : Sp := fun vs H Q _ => ∃ (dl : Addr) (D : Dk), vs = [.ref dl] ∧ H dl = some (.dK (kd D)) ∧ (keysI D).Nodup ∧ Asc D ∧ D.length ≤ 10 ∧ (∀ kv ∈ D, kv.1.natAbs < 10 ^ 39 ∧ kv.2.natAbs < 10 ^ 39) ∧ ∀ H', Same H H' → Q (.str (linesD D)) H'
section
variable {P : Program} {w : World} {K : PySem.W.Frag} {mg : Str → Option Value} {base : Heap} {x7 : Addr} {y7 : FuncData}
theorem ok_xLines (T : LsTxt K mg x7 y7) {k : Nat} : FnG P w K mg base CX0 (k + 1) x7 y7 ["some"] spLines := by
  refine Fun.okG T.FXLines scXLines (fun vs H Q E h => ?_) (fun cdv A outer s H vs Q E hgd hr h => ?_)
  · obtain ⟨dl, D, rfl, _⟩ := h
    rfl
  · obtain ⟨dl, D, rfl, hdl, nd, asc, few, bd, q⟩ := h
    have hu : (A.deeper (envOfC "_law_x_lines" (defScope sXLines) s.heap.objs.size x7 cdv)).units + 64 < cLine := by have := hr.un; omega
    refine ⟨_, (pss_one (ps_ret (pe_callB (call_reprR hgd hu) (by rfl) T.repr (by decide +kernel) (pa_cons (pe_callB cr_sortedPO (by rfl) T.sorted (by decide +kernel) (pa_cons (pe_lock (pe_lc (own := [("key", 1)]) (g := gName 1) (tt := tYes) (by rfl) scXLines.nd (pi_keys (pv 0)) (blkOk_by (N := ["some", "key"]) (sc := defScope sXLines) (by decide +kernel)) (fun _ _ _ _ _ => pg_name (i := 1) scXLines.nd rfl (Or.inl rfl)) (fun _ _ _ _ _ => pts_nil) (fun _ _ _ _ _ => pe_tup (pa_cons (pv 1) (pa_cons (pe_dget (hu_of hr) (pv 0) (pv 1) (fun _ _ => rfl)) pa_nil))))) pa_nil)) pa_nil)))), ?_⟩
    refine ⟨dl, .dK (kd D), hdl, trivial, fun od => ?_⟩
    refine ⟨_, rfl, dl, od, rfl, .inl ⟨kd D, upd_same, fun L nL => ?_⟩⟩
    have Ld : L ≠ dl := fun z => by rw [z, upd_same] at nL; cases nL
    have nL3 : H L = none := by rw [upd_ne Ld] at nL; exact nL
    refine lc_it walk_keys (fun i H' => Same (upd H dl (.frz od (.dK (kd D)))) H' ∧ ∃ vs, H' L = some (.lst vs) ∧ Prs H' vs (D.take i)) ⟨same_upd nL, [], upd_same, rfl, fun i kv e => by simp at e⟩ (fun i H' _ h => h.1 _ _ upd_same) ?_ ?_
    · rintro i u H' H2' hi ⟨sm, vs, hL, hP⟩ ⟨rfl, kk, vv, hkv, rfl⟩
      obtain ⟨st, val, hd, rfl, rfl⟩ := kd_at hkv
      refine ⟨rfl, ?_⟩
      refine ⟨_, rfl, _, rfl, _, rfl, dl, .int val, rfl, ?_, (by show 2 ≤ sizeLine; decide), fun t nt => ⟨vs, ?_, ?_, ?_, vs ++ [.ref t], upd_same, ?_⟩⟩
      · have := kd_get (d := D) (k := st) (.inr ⟨od, sm _ _ upd_same⟩)
        rw [kd_mem nd hd] at this
        exact this
      · rw [upd_ne (ne_of_none hL nt)]
        exact hL
      · rw [hP.1]
        have l1 := List.length_take_le' i D
        exact Nat.lt_of_le_of_lt (show _ ≤ 10 by omega) (by decide)
      · exact same_new (sm.trans (same_upd nt)) nL
      · have tL : t ≠ L := fun z => by rw [z, hL] at nt; cases nt
        rw [List.take_succ, hd]
        refine prs_snoc (prs_go hP fun b xs e => ?_) ?_
        · rw [upd_ne (fun z => by rw [z, hL] at e; cases e), upd_ne (ne_of_none e nt)]
          exact e
        · rw [upd_ne tL, upd_same]
          rfl
    · rintro H' ⟨sm, vs, hL, hP⟩
      rw [kd_len, List.take_length] at hP
      have sr : Same H (upd H' dl (.dK (kd D))) := fun b o e => by
        by_cases z : b = dl
        · rw [z, upd_same, ← hdl, ← z, e]
        · rw [upd_ne z]
          exact sm _ _ (by rw [upd_ne z]; exact e)
      have hf := sm _ _ upd_same
      have hP2 : Prs (upd H' dl (.dK (kd D))) vs D := prs_go hP fun b xs e => by
        rw [upd_ne (fun z => by rw [z, hf] at e; cases e)]
        exact e
      refine ⟨hf, L, vs, pairOf (upd H' dl (.dK (kd D))), rfl, SqL.of (by rw [upd_ne Ld]; exact hL), fun x hx => ?_, fun ys p srt stb np => ?_⟩
      · obtain ⟨i, hi, rfl⟩ := List.getElem_of_mem hx
        obtain ⟨t, a, b⟩ := hP2.2 i _ (List.getElem?_eq_getElem (by rw [← hP2.1]; exact hi))
        rw [List.getElem?_eq_getElem hi] at a
        rw [Option.some.inj a, pair_of b]
        exact ⟨t, rfl, b⟩
      · have ey : ys = vs := SrtO.stb_uniq (ltP_swo _) srt (prs_srt hP2 asc) stb
        subst ey
        have sp := same_upd (o := HO.lst ys) np
        have sd : Sd 2 (10 * 263) (PyData.list (D.map eP)) := sd_lst (fun d hd => by
          obtain ⟨kv, hk, rfl⟩ := List.mem_map.mp hd
          exact sd_pair (bd kv hk).1 (bd kv hk).2) (by rw [List.length_map]; exact few)
        have rp : Rp K (upd (upd H' dl (.dK (kd D))) p (.lst ys)) (.ref p) (PyData.list (D.map eP)) := .lst (SqL.of upd_same) (prs_rp (prs_go hP2 fun b xs e => sp _ _ e))
        exact ⟨_, _, rfl, rp, .inr (lst_nodict D), sd.sh, Nat.le_trans sd.dp (by decide), sd.fits (by decide), q _ (sr.trans sp)⟩
end
end My
/-! ### lists of dicts compared -/
namespace My
open PySem PySem.Spec PyProof.Rows L2
theorem pairs_any {P P' : Program} {w w' : World} {es : List DictEntry} {va : List (Key × Value)} (h : Pairs (mixKind P w) es va) : Pairs (mixKind P' w') es va := by
  induction h with
  | nil => exact .nil
  | cons h1 hv _ ih => exact .cons h1 hv ih
theorem pairs_mem {P : Program} {w : World} {es : List DictEntry} {va : List (Key × Value)} (h : Pairs (mixKind P w) es va) : ∀ e ∈ es, ∃ k ∈ va.map (·.1), keyIs k e.key = true := by
  induction h with
  | nil => exact fun _ h => nomatch h
  | cons h1 _ _ ih =>
    intro e he
    rcases List.mem_cons.mp he with rfl | he
    · exact ⟨_, .head _, h1⟩
    · obtain ⟨k, hk, q⟩ := ih e he
      exact ⟨k, .tail _ hk, q⟩
/-- a dict of ints is one in any program -/
theorem dict_any {P P' : Program} {w w' : World} {h : Heap} {a : Addr} {D : Dk} {va : List (Key × Value)} (kv : KV (kd D) va) (d : h.DictOf (mixKind P w) a va) : h.DictOf (mixKind P' w') a va := by
  obtain ⟨o, es, ep, h1, h2, h3, h4, h5, h6⟩ := d
  refine ⟨o, es, ep, h1, h2, h3, fun e he => ?_, pairs_any h5, h6⟩
  obtain ⟨k, hk, q⟩ := pairs_mem h5 e (Array.mem_toList_iff.mpr he)
  obtain ⟨k', q', e'⟩ := h4 e he
  obtain rfl : k = k' := (mixKind P w).inj _ _ _ q q'
  rw [← kv.keys, kd_keys] at hk
  obtain ⟨i, _, rfl⟩ := List.mem_map.mp hk
  exact ⟨Sum.inl i, q, e'⟩
theorem kd_self {D : Dk} (nd : (keysI D).Nodup) : ∀ p ∈ kd D, valV (kd D) p.1 = some p.2 ∧ flatB p.2 = true := fun p hp => by
  unfold kd at hp
  obtain ⟨kv, hk, rfl⟩ := List.mem_map.mp hp
  refine ⟨?_, rfl⟩
  show valV (kd D) (Sum.inl kv.1) = some (V.int kv.2)
  rw [kd_val, mem_getI nd hk]
  rfl
theorem dict_eqAt {X : Cx} {pins : List (Addr × Obj)} {σ : L2.St} {H : Hp} {s : Shared} {a b : Addr} {D : Dk} {A : Around} (hu : A.units < cLine) (I : Inv X pins σ H s) (ea : H a = some (.dK (kd D))) (eb : H b = some (.dK (kd D))) (nd : (keysI D).Nodup) : SeqAt.EqAt A s (.ref a) (.ref b) true := by
  by_cases e : a = b
  · subst e
    exact SeqAt.EqAt.same _
  · refine SeqAt.EqAt.of_refs e fun prog w E Q h => ?_
    obtain ⟨_, ya, va, ra, da⟩ := (show ObjOk X.prog X.w H s.heap a (.dK (kd D)) from I.hok a _ ea)
    obtain ⟨_, yb, vb, rb, db⟩ := (show ObjOk X.prog X.w H s.heap b (.dK (kd D)) from I.hok b _ eb)
    have hl : va.length = vb.length := by rw [← ra.length, ← rb.length]
    exact PySem.W.keq_eq (knd := mixKind prog w) (r := true) ya yb (dict_any ra da) (dict_any rb db) hu (fun _ => hits_all rb ra (kd_self nd)) (by simpa [hl] using h)
/-- xs != ys, lists of equal dicts of ints -/
def rNeLD (K : PySem.W.Frag) : R2 := fun x y H Q => ∃ a b rs ts ds, x = .ref a ∧ y = .ref b ∧ SqL K H a (rs.map V.ref) ∧ SqL K H b (ts.map V.ref) ∧ Paired (fun (r : Addr) (D : Dk) => H r = some (.dK (kd D))) rs ds ∧ Paired (fun (r : Addr) (D : Dk) => H r = some (.dK (kd D))) ts ds ∧ (∀ D ∈ ds, (keysI D).Nodup) ∧ Q (.bl false) H
theorem vals_ref : ∀ {rs : List Addr} {us : List Value}, Vals (rs.map V.ref) us → us = rs.map Value.ref
  | [], _, h => by
    cases h
    rfl
  | r :: rs, _, h => by
    cases h with
    | cons h1 h2 =>
      rw [vals_ref h2, List.map_cons]
      congr 1
theorem op_neLD {X : Cx} (hu : X.A.units + 2 < cLine) : OpR X (compareOp .NotEq) (rNeLD X.K) := by
  intro pins s σ H x y v u Q I rx ry h
  obtain ⟨a, b, rs, ts, ds, rfl, rfl, ha, hb, pa, pb, nd, q⟩ := h
  obtain rfl : v = Value.ref a := rx
  obtain rfl : u = Value.ref b := ry
  obtain ⟨ia, va, la, za⟩ := I.list ha
  obtain ⟨ib, vb, lb, zb⟩ := I.list hb
  obtain rfl := vals_ref va
  obtain rfl := vals_ref vb
  have l1 := Paired.length pa
  have l2 := Paired.length pb
  have n1 : X.A.in1.units = X.A.units + 1 := rfl
  refine SeqAt.RcNeAt.lists (e := fun _ => true) la.isList lb.isList (by simp [l1, l2]) (by omega) (fun j h1 h2 => ?_) X.prog X.w _ _ ?_
  · have j1 : j < rs.length := by simpa using h1
    have j2 : j < ts.length := by simpa using h2
    obtain ⟨D, e1, e2⟩ := LiI.paired_get pa (List.getElem?_eq_getElem j1)
    obtain ⟨D', e3, e4⟩ := LiI.paired_get pb (List.getElem?_eq_getElem j2)
    rw [e1] at e3
    cases e3
    have := dict_eqAt (A := X.A.in1) (by omega) I e2 e4 (nd D (List.mem_of_getElem? e1))
    simpa using this
  · have : (!(List.range (rs.map Value.ref).toArray.size).all fun _ => true) = false := by simp
    rw [this]
    exact ⟨.bl false, H, I, rfl, q⟩
end My
/-! ### machines that are none; what is shown of one of up to 300 states -/
namespace My
open PySem PySem.Spec PyProof.Rows L2 PySem.Builtin.Str
theorem ts_butN {K : PySem.W.Frag} {p : Addr} {n : Nat} {H H' : Hp} (h : Pen H p n) (b : ButN p H H') : TStay K H H' := fun a xs e => by
  obtain ⟨ys, hp⟩ := h.ls
  have ne : ∀ o, H a = some o → (∃ ks, o = .tup ks) ∨ (∃ u ks, o = .frz u (.tup ks)) → a ≠ p := fun o e ho z => by
    rw [z, hp] at e
    cases e
    rcases ho with ⟨_, ho⟩ | ⟨_, _, ho⟩ <;> cases ho
  rcases e with (e | ⟨u, e⟩) | e
  · exact .inl (.inl (b _ _ (ne _ e (.inl ⟨_, rfl⟩)) e (fun _ z => nomatch z)))
  · exact .inl (.inr ⟨u, b _ _ (ne _ e (.inr ⟨_, _, rfl⟩)) e (fun _ z => nomatch z)⟩)
  · exact .inr e
theorem rs_of {K : PySem.W.Frag} {p : Addr} {n : Nat} {H : Hp} {v : V} {d : PyData} (h : Pen H p n) (hv : Rp K H v d) (t : tO d = true) : Rs p K H v d := fun H' b => rp_ts (ts_butN h b) hv t
theorem rsAll_ofT {K : PySem.W.Frag} {p : Addr} {n : Nat} {H : Hp} {vs : List V} {ds : List PyData} (h : Pen H p n) (hv : RpAll K H vs ds) (t : tOs ds = true) : RsAll p K H vs ds := fun H' b => rpAll_ts (ts_butN h b) hv t
mutual
theorem tO_nodict : ∀ {d : PyData}, tO d = true → d.hasDict = false
  | .none, _ => by simp [PyData.hasDict]
  | .bool _, _ => by simp [PyData.hasDict]
  | .int _, _ => by simp [PyData.hasDict]
  | .str _, _ => by simp [PyData.hasDict]
  | .list _, h => by simp [tO] at h
  | .dict _, h => by simp [tO] at h
  | .tuple xs, h => by
    rw [PyData.hasDict]
    exact tOs_nodict (by simpa only [tO] using h)
theorem tOs_nodict : ∀ {ds : List PyData}, tOs ds = true → PyData.hasDictAll ds = false
  | [], _ => by simp [PyData.hasDictAll]
  | d :: ds, h => by
    rw [tOs, Bool.and_eq_true] at h
    rw [PyData.hasDictAll, tO_nodict h.1, tOs_nodict h.2]
    rfl
end
theorem can_all : ∀ {ds : List PyData}, (∀ d ∈ ds, d.canLay0 = true) → PyData.canLayAll0 ds = true
  | [], _ => by simp [PyData.canLayAll0]
  | d :: ds, h => by rw [PyData.canLayAll0, h d (.head _), can_all fun e he => h e (.tail _ he)]; rfl
theorem can_map {α : Type} {f : α → PyData} {l : List α} (h : ∀ x ∈ l, (f x).canLay0 = true) : PyData.canLayAll0 (l.map f) = true := can_all fun d hd => by
  obtain ⟨x, hx, rfl⟩ := List.mem_map.mp hd
  exact h x hx
theorem can_eP (p : Int × Int) : (eP p).canLay0 = true := by simp [eP, PyData.canLay0, PyData.canLayAll0]
theorem can_eC (ps : List (Int × Int)) : (eC ps).canLay0 = true := by
  rw [eC, PyData.canLay0]
  exact can_map fun p _ => can_eP p
theorem can_eS (cs : List (List (Int × Int))) : (eS cs).canLay0 = true := by
  rw [eS, PyData.canLay0]
  exact can_map fun p _ => can_eC p
theorem can_fS (cs : List (List (Int × Int))) : (fS cs).canLay0 = true := by
  rw [fS, PyData.canLay0]
  exact can_map fun p _ => can_eP _
theorem str_can {z : Str} (h : ∀ c ∈ z.cps.toList, c ≤ 1000) : (PyData.str z).canLay0 = true := by
  rw [PyData.canLay0]
  show z.cps.all (· < 0x110000) = true
  rw [Array.all_eq_true']
  intro c hc
  have := h c (Array.mem_toList_iff.mpr hc)
  exact decide_eq_true (by omega)
structure SideD (d : PyData) (M : Mc) (T : List PyData) : Prop where
  eq : d = .tuple [.int M.b, .str M.z, .tuple T]
  ne : T ≠ []
  tO : tO (.tuple T) = true
  can : PyData.canLayAll0 T = true
  sd : Sd 5 300000 d
  el : ∀ e ∈ T, ∃ xs, e = .tuple xs
theorem sd_P {p : Int × Int} (h1 : -wideN ≤ p.1 ∧ p.1 ≤ wideN) (h2 : 0 ≤ p.2 ∧ p.2 ≤ 300) : Sd 1 262 (eP p) := by
  have w := wide_two
  have w2 : wideN.natAbs < 10 ^ 39 := by decide +kernel
  have t : (300 : Nat) < 10 ^ 39 := by decide +kernel
  exact sd_pair (by omega) (by omega)
theorem sd_three {D Wa Wb Wc : Nat} {a b c : PyData} (ha : Sd D Wa a) (hb : Sd D Wb b) (hc : Sd D Wc c) : Sd (D + 1) (Wa + Wb + Wc + 3) (.tuple [a, b, c]) := by
  obtain ⟨a1, a2, a4, a5⟩ := ha
  obtain ⟨b1, b2, b4, b5⟩ := hb
  obtain ⟨c1, c2, c4, c5⟩ := hc
  refine ⟨?_, ?_, ?_, ?_⟩
  · simp only [PyData.showable, PyData.showableAll, a1, b1, c1, Bool.and_true]
  · simp only [PyData.depth, PyData.depthAll]
    omega
  · simp only [PyData.leavesShort, PyData.leavesShortAll, a4, b4, c4, Bool.and_true]
  · simp only [PyData.weight, PyData.weightAll]
    omega
def Sid (d : PyData) (M : Mc) : Prop := Mok M ∧ (d = eM M ∨ (d = fM M ∧ ∀ cs ∈ M.C, ∀ ps ∈ cs, ps.length = 1))
theorem Side.sid {d : PyData} {M : Mc} (h : Side d M) : Sid d M := ⟨h.1.ok, by
  rcases h.2 with ⟨e, _⟩ | ⟨e, _, _, _, one⟩
  · exact .inl e
  · exact .inr ⟨e, one⟩⟩
theorem side_data {d : PyData} {M : Mc} (h : Sid d M) : ∃ T, SideD d M T := by
  have hM := h.1
  have c3 := hM.c3
  have b2 := hM.b2
  have b9 := hM.b9
  have lz := ltr_pos hM.ltr
  have zs := letters_small hM.ltr
  have t9 : (9 : Nat) < 10 ^ 39 := by decide +kernel
  have sP : ∀ cs ∈ M.C, ∀ ps ∈ cs, ∀ p ∈ ps, Sd 1 262 (eP p) := fun cs hcs ps hps p hp => by
    obtain ⟨h1, h2, h3, h4⟩ := hM.pr cs hcs ps hps p hp
    exact sd_P ⟨h1, h2⟩ ⟨h3, by omega⟩
  have top : ∀ T : List PyData, Sd 4 240000 (.tuple T) → Sd 5 300000 (.tuple [.int M.b, .str M.z, .tuple T]) := fun T hT =>
    (sd_three ((sd_int (by omega)).mono (Nat.zero_le 4) (Nat.le_refl _)) ((sd_str zs lz.2).mono (Nat.zero_le 4) (Nat.le_refl _)) hT).mono (by decide) (by decide)
  have ne : ∀ f : List (List (Int × Int)) → PyData, M.C.map f ≠ [] := fun f z => by
    have := hM.c1
    rw [List.map_eq_nil_iff.mp z] at this
    simp at this
  have sS : ∀ n w : Nat, (∀ cs ∈ M.C, ∀ ps ∈ cs, ps.length ≤ n) → 3 * (n * 263 + 1) ≤ w → ∀ e ∈ M.C.map eS, Sd 3 w e := fun n w hn hw e he => by
    obtain ⟨cs, hcs, rfl⟩ := List.mem_map.mp he
    have row := hM.row cs hcs
    refine (sd_tup (D := 2) (W := n * 263) (n := 3) (fun e he => ?_) (by rw [List.length_map]; omega)).mono (by decide) hw
    obtain ⟨ps, hps, rfl⟩ := List.mem_map.mp he
    refine (sd_tup (D := 1) (W := 262) (n := n) (fun e he => ?_) (by rw [List.length_map]; exact hn cs hcs ps hps)).mono (by decide) (Nat.le_refl _)
    obtain ⟨p, hp, rfl⟩ := List.mem_map.mp he
    exact sP cs hcs ps hps p hp
  rcases h.2 with rfl | ⟨rfl, one⟩
  · refine ⟨M.C.map eS, rfl, ne _, ?_, can_map fun cs _ => can_eS cs, top _ ?_, fun e he => ?_⟩
    · rw [My.tO]
      exact tOs_map tO_eS _
    · rcases hM.few with few | one
      · exact (sd_tup (n := 4) (sS 3 2400 (fun cs hcs ps hps => (hM.ch cs hcs ps hps).2) (by decide)) (by rw [List.length_map]; exact few)).mono (by decide) (by decide)
      · exact (sd_tup (n := 300) (sS 1 792 (fun cs hcs ps hps => Nat.le_of_eq (one cs hcs ps hps)) (by decide)) (by rw [List.length_map]; exact c3)).mono (by decide) (by decide)
    · obtain ⟨cs, _, rfl⟩ := List.mem_map.mp he
      exact ⟨_, rfl⟩
  · refine ⟨M.C.map fS, rfl, ne _, ?_, can_map fun cs _ => can_fS cs, top _ ?_, fun e he => ?_⟩
    · rw [My.tO]
      exact tOs_map tO_fS _
    · refine (sd_tup (D := 3) (W := 792) (n := 300) (fun e he => ?_) (by rw [List.length_map]; exact c3)).mono (by decide) (by decide)
      obtain ⟨cs, hcs, rfl⟩ := List.mem_map.mp he
      have row := hM.row cs hcs
      refine (sd_tup (D := 1) (W := 262) (n := 3) (fun e he => ?_) (by rw [List.length_map]; omega)).mono (by decide) (by decide)
      obtain ⟨ps, hps, rfl⟩ := List.mem_map.mp he
      have l1 := one cs hcs ps hps
      obtain ⟨p, rfl⟩ := List.length_eq_one_iff.mp l1
      exact sP cs hcs _ hps p (.head _)
    · obtain ⟨cs, _, rfl⟩ := List.mem_map.mp he
      exact ⟨_, rfl⟩
theorem sid_tO {d : PyData} {M : Mc} (h : Sid d M) : tO d = true := by
  rcases h.2 with rfl | ⟨rfl, _⟩
  · exact tO_eM M
  · exact tO_fM M
theorem repr_side {K : PySem.W.Frag} {H : Hp} {x : V} {d : PyData} {M : Mc} {Q : VK} (hx : Rp K H x d) (h : Sid d M) (q : Q (.str d.shown) H) : rReprR K [x] H Q := by
  obtain ⟨T, s⟩ := side_data h
  exact ⟨x, d, rfl, hx, .inr (tO_nodict (sid_tO h)), s.sd.sh, Nat.le_trans s.sd.dp (by decide), s.sd.fits (by decide), q⟩
/-- what the law tries as a machine that is none -/
structure OneOk (e : PyData) : Prop where
  sh : SeqAt.shaped e = true
  nd : e.hasDict = false
  m : mchD e = false
  p : plnD e = false
theorem shp {d : PyData} (h : d.canLay0 = true) (l : d.depth ≤ 64) : SeqAt.shaped d = true := by
  unfold SeqAt.shaped
  rw [h, decide_eq_true l]
  rfl
theorem frm_no {e : PyData} (h : ∀ m, frmD m e = false) : mchD e = false ∧ plnD e = false := ⟨mchD_not (by rw [h]; decide), plnD_not (by rw [h]; decide)⟩
section
variable {d : PyData} {M : Mc} {T : List PyData}
theorem SideD.canD (s : SideD d M T) (h : Mok M) : d.canLay0 = true := by
  rw [s.eq, PyData.canLay0]
  have a := str_can (letters_small h.ltr)
  have b := s.can
  simp only [PyData.canLayAll0, PyData.canLay0] at a ⊢
  rw [a, b]
  rfl
theorem SideD.canT (s : SideD d M T) : (PyData.tuple T).canLay0 = true := by
  rw [PyData.canLay0]
  exact s.can
theorem SideD.dpT (s : SideD d M T) : (PyData.tuple T).depth ≤ 5 := by
  have h := s.sd.dp
  rw [s.eq, PyData.depth] at h
  have e : PyData.depthAll [.int M.b, .str M.z, .tuple T] = max (PyData.int M.b).depth (max (PyData.str M.z).depth (max (PyData.tuple T).depth 0)) := by
    simp only [PyData.depthAll]
  rw [e] at h
  omega
theorem SideD.ndT (s : SideD d M T) : (PyData.tuple T).hasDict = false := tO_nodict s.tO
theorem SideD.zc (h : Mok M) : (PyData.str M.z).canLay0 = true := str_can (letters_small h.ltr)
theorem one_non : OneOk .none := ⟨rfl, by simp [PyData.hasDict], rfl, rfl⟩
theorem one_list (s : SideD d M T) (h : Mok M) : OneOk (.list [.int M.b, .str M.z, .tuple T]) := by
  have a := SideD.zc h
  have b := s.canT
  have c := s.dpT
  refine ⟨shp ?_ ?_, ?_, rfl, rfl⟩
  · simp only [PyData.canLay0, PyData.canLayAll0] at a b ⊢
    simp [a, b]
  · rw [PyData.depth]
    simp only [PyData.depthAll]
    simp only [PyData.depth] at c ⊢
    omega
  · have := s.ndT
    simp only [PyData.hasDict, PyData.hasDictAll] at this ⊢
    simp [this]
theorem one_str : OneOk (.str "") := ⟨shp (str_can fun c hc => absurd (show c ∈ ([] : List Nat) from hc) (by simp)) (by simp [PyData.depth]), by simp [PyData.hasDict], rfl, rfl⟩
theorem one_of {e : PyData} (c : e.canLay0 = true) (l : e.depth ≤ 64) (n : e.hasDict = false) (f : ∀ m, frmD m e = false) : OneOk e := ⟨shp c l, n, (frm_no f).1, (frm_no f).2⟩
theorem one_bare {b : Int} {z : Str} (h : lettersL z.cps.toList = true) : OneOk (.tuple [.int b, .str z, .tuple []]) := by
  have a := str_can (letters_small h)
  refine one_of ?_ ?_ ?_ fun m => ?_
  · simp only [PyData.canLay0, PyData.canLayAll0] at a ⊢
    simp [a]
  · simp [PyData.depth, PyData.depthAll]
  · simp [PyData.hasDict, PyData.hasDictAll]
  · simp [frmD, tabD, tupD]
theorem one_one (s : SideD d M T) (h : Mok M) : OneOk (.tuple [.int 1, .str M.z, .tuple T]) := by
  have a := SideD.zc h
  have b := s.canT
  have c := s.dpT
  refine one_of ?_ ?_ ?_ fun m => ?_
  · simp only [PyData.canLay0, PyData.canLayAll0] at a b ⊢
    simp [a, b]
  · rw [PyData.depth]
    simp only [PyData.depthAll]
    simp only [PyData.depth] at c ⊢
    omega
  · have := s.ndT
    simp only [PyData.hasDict, PyData.hasDictAll] at this ⊢
    simp [this]
  · simp [frmD, betD]
theorem one_tab (s : SideD d M T) : OneOk (.tuple T) := by
  refine one_of s.canT (Nat.le_trans s.dpT (by decide)) s.ndT fun m => ?_
  have el := s.el
  rcases T with _ | ⟨a, _ | ⟨b, _ | ⟨c, _ | ⟨e, r⟩⟩⟩⟩ <;> try rfl
  obtain ⟨xs, rfl⟩ := el _ (.head _)
  rfl
theorem one_two (s : SideD d M T) (h : Mok M) : OneOk (.tuple [.int M.b, .str M.z]) := by
  have a := SideD.zc h
  refine ⟨shp ?_ ?_, ?_, rfl, rfl⟩
  · simp only [PyData.canLay0, PyData.canLayAll0] at a ⊢
    simp [a]
  · simp [PyData.depth, PyData.depthAll]
  · simp [PyData.hasDict, PyData.hasDictAll]
end
end My
/-! ### slices and sums of tuples -/
namespace My
open PySem PySem.Spec PyProof.Rows L2
theorem cut_whole (xs : List V) {lo hi : Option Int} (h : HT.sIx xs.length 0 lo = 0 ∧ HT.sIx xs.length xs.length hi = xs.length) : cutV xs lo hi = xs := by
  unfold cutV
  rw [h.1, h.2, List.drop_zero]
  exact List.take_of_length_le (by omega)
theorem sl_any {K : PySem.W.Frag} {a : Addr} {xs : List V} {lo hi : Option Int} {H : Hp} {Q : VK} (hS : SqT K H a xs) (q : ∀ r H', Same H H' → SqT K H' r (cutV xs lo hi) → Q (.ref r) H') : rSlA K (.ref a) lo hi H Q :=
  ⟨a, xs, rfl, hS, fun w => q a H (Same.refl H) (by rw [cut_whole xs w]; exact hS), fun _ p hp => q p _ (same_upd hp) (SqT.of upd_same)⟩
theorem cat_any {K : PySem.W.Frag} {a b : Addr} {xs ys : List V} {H : Hp} {Q : VK} (ha : SqT K H a xs) (hb : SqT K H b ys) (hz : xs.length + ys.length ≤ sizeLine) (q : ∀ r H', Same H H' → SqT K H' r (xs ++ ys) → Q (.ref r) H') : rCatA K (.ref a) (.ref b) H Q :=
  ⟨a, b, xs, ys, rfl, rfl, ha, hb, hz, fun e => q b H (Same.refl H) (by rw [e]; exact hb), fun _ e => q a H (Same.refl H) (by rw [e, List.append_nil]; exact ha), fun _ _ p hp => q p _ (same_upd hp) (SqT.of upd_same)⟩
theorem sl_anyN {K : PySem.W.Frag} {a : Addr} {xs : List V} {lo : Option Int} {σ : L2.St} {H : Hp} {Q : VK} (hS : SqT K H a xs) (q : ∀ r H', Same H H' → SqT K H' r (cutV xs lo none) → Q (.ref r) H') : tNoPart σ H (fun u H3 => rSlA K (.ref a) lo u H3 Q) := sl_any (lo := lo) (hi := none) hS q
end My
/-! ### limits -/
namespace My
open PySem PySem.Spec PyProof.Rows L2 PySem.Builtin.Str
abbrev sLim : Stmt := topS 62
theorem scLim : FnScope ["pen", "machine", "many", "due", "bad", "most"] ["pen", "machine", "many"] (defScope sLim) := ⟨rfl, rfl, rfl, by decide +kernel, rfl, by decide +kernel, by decide +kernel⟩
def qLim : Str := (envOfC "_law_x_limits_right" (defScope sLim) 0 0 .none).qual ++ "<lambda>"
/-- all but the pen stays, the pen stands, the tables stand -/
def Go (TT : List (Addr × Str)) (p : Addr) (n : Nat) (H H' : Hp) : Prop := ButN p H H' ∧ Pen H' p n ∧ LamX.Tabs TT H'
section
variable {TT : List (Addr × Str)} {p : Addr} {n m : Nat} {H H1 H2 : Hp}
theorem Go.pen (g : Go TT p n H H1) : Pen H1 p n := g.2.1
theorem Go.same (g : Go TT p n H H1) (s : Same H1 H2) : Go TT p n H H2 := ⟨g.1.trans (butN_same s), g.2.1.same s, tabs_same g.2.2 s⟩
theorem Go.but (g : Go TT p n H H1) (b : But p H1 H2) (h : Pen H2 p m) : Go TT p m H H2 := ⟨g.1.trans (butN_but b), h, tabs_pen g.2.2 g.pen b⟩
theorem Go.mono (g : Go TT p n H H1) (h : n ≤ m) : Go TT p m H H1 := ⟨g.1, g.2.1.mono h, g.2.2⟩
theorem Go.ext (g : Go TT p n H H1) (s : LamX.ExtN H1 H2) (t : LamX.Tabs TT H2) : Go TT p n H H2 := ⟨g.1.trans (butN_ext s), g.2.1.ext s, t⟩
end
theorem sl_tupK {X : Cx} {K : PySem.W.Frag} (e : X.K = K) : SlR X (rSlA K) := e ▸ sl_tupA
theorem word0 : wordOf 0 = "machine" := by decide +kernel
theorem word9 : wordOf 9 = "great" := by decide +kernel
theorem word10 : wordOf 10 = "limit" := by decide +kernel

def dueS (b : Bool) : Str := if b then "great" else "fine"
section
variable {K : PySem.W.Frag} {C0 C1 C2 C3 C4 C5 C6 C7 C8 C9 C10 C11 : Addr} {H : Hp} {x y : V} {d e : PyData} {M : Mc} {N : Nat} {L : Int} {Q : VK}
/-- an act's ends, as the law's words -/
def wX (C0 C1 C2 C3 C4 C5 C6 C7 C8 C9 C10 C11 : Addr) (Q : VK) : XK := fun cls d H' => ∃ i, i < 12 ∧ cls = .ref ([C0, C1, C2, C3, C4, C5, C6, C7, C8, C9, C10, C11].getD i 0) ∧ d = none ∧ ∀ H'' : Hp, Same H' H'' → Q (.str (wordOf i)) H''
def wQ (Q : VK) : VK := fun _ H' => ∀ H'' : Hp, Same H' H'' → Q (.str "fine") H''
theorem led_word (hx : Rp K H x d) (hF : Frame d M) (hC : Closed M N) (h1 : 1 ≤ L) (h2 : L ≤ 300) (fin : ∀ H3, Same H H3 → Q (.str (dueS (decide (L < ((runE M N).1.length : Int))))) H3) : spLed K C0 C10 C9 [x, .int L] H (wQ Q) (wX C0 C1 C2 C3 C4 C5 C6 C7 C8 C9 C10 C11 Q) := by
  refine ⟨x, .int L, d, .int L, rfl, hx, .int L, .inr ⟨M, hF, .inr ⟨L, rfl, h1, h2, fun n H' g s => ?_, fun n H' t cl g s _ _ => ?_⟩⟩⟩
  · refine ⟨9, by decide, rfl, rfl, fun H3 s3 => ?_⟩
    have := fin H3 (s.trans s3)
    have le := closed_max hC n
    rw [decide_eq_true (by omega)] at this
    rw [word9]
    exact this
  · intro H3 s3
    have := fin H3 (s.trans s3)
    have eq := closed_uniq cl hC
    rw [eq] at g
    rw [decide_eq_false (by omega)] at this
    exact this
theorem lof_word (hx : Rp K H x d) (hF : Frame d M) (hC : Closed M N) (h1 : 1 ≤ L) (h2 : L ≤ 300) (fin : ∀ H3, Same H H3 → Q (.str (dueS (decide (L < ((runE M N).1.length : Int))))) H3) : spLacksOf K C0 C10 C9 [x, .int L] H (wQ Q) (wX C0 C1 C2 C3 C4 C5 C6 C7 C8 C9 C10 C11 Q) := by
  refine ⟨x, .int L, d, .int L, rfl, hx, .int L, .inr ⟨M, hF, .inr ⟨L, rfl, h1, h2, fun n H' g s => ?_, fun n H' t rs cl g s _ _ _ => ?_⟩⟩⟩
  · refine ⟨9, by decide, rfl, rfl, fun H3 s3 => ?_⟩
    have := fin H3 (s.trans s3)
    have le := closed_max hC n
    rw [decide_eq_true (by omega)] at this
    rw [word9]
    exact this
  · intro H3 s3
    have := fin H3 (s.trans s3)
    have eq := closed_uniq cl hC
    rw [eq] at g
    rw [decide_eq_false (by omega)] at this
    exact this
theorem led_limit (hx : Rp K H x d) (hF : Frame d M) (hy : Rp K H y e) (b : betD 1 300 e = false) (fin : ∀ H3, Same H H3 → Q (.str "limit") H3) : spLed K C0 C10 C9 [x, y] H (wQ Q) (wX C0 C1 C2 C3 C4 C5 C6 C7 C8 C9 C10 C11 Q) :=
  ⟨x, y, d, e, rfl, hx, hy, .inr ⟨M, hF, .inl ⟨b, fun H' s => ⟨10, by decide, rfl, rfl, fun H3 s3 => by rw [word10]; exact fin H3 (s.trans s3)⟩⟩⟩⟩
theorem lof_limit (hx : Rp K H x d) (hF : Frame d M) (hy : Rp K H y e) (b : betD 1 300 e = false) (fin : ∀ H3, Same H H3 → Q (.str "limit") H3) : spLacksOf K C0 C10 C9 [x, y] H (wQ Q) (wX C0 C1 C2 C3 C4 C5 C6 C7 C8 C9 C10 C11 Q) :=
  ⟨x, y, d, e, rfl, hx, hy, .inr ⟨M, hF, .inl ⟨b, fun H' s => ⟨10, by decide, rfl, rfl, fun H3 s3 => by rw [word10]; exact fin H3 (s.trans s3)⟩⟩⟩⟩
theorem led_none (hx : Rp K H x d) (hy : Rp K H y e) (b1 : mchD d = false) (b2 : plnD d = false) (fin : ∀ H3, Same H H3 → Q (.str "machine") H3) : spLed K C0 C10 C9 [x, y] H (wQ Q) (wX C0 C1 C2 C3 C4 C5 C6 C7 C8 C9 C10 C11 Q) :=
  ⟨x, y, d, e, rfl, hx, hy, .inl ⟨b1, b2, fun H' s => ⟨0, by decide, rfl, rfl, fun H3 s3 => by rw [word0]; exact fin H3 (s.trans s3)⟩⟩⟩
theorem lof_none (hx : Rp K H x d) (hy : Rp K H y e) (b1 : mchD d = false) (b2 : plnD d = false) (fin : ∀ H3, Same H H3 → Q (.str "machine") H3) : spLacksOf K C0 C10 C9 [x, y] H (wQ Q) (wX C0 C1 C2 C3 C4 C5 C6 C7 C8 C9 C10 C11 Q) :=
  ⟨x, y, d, e, rfl, hx, hy, .inl ⟨b1, b2, fun H' s => ⟨0, by decide, rfl, rfl, fun H3 s3 => by rw [word0]; exact fin H3 (s.trans s3)⟩⟩⟩
/-- the act: x called with one thing and a limit -/
theorem tl_of {sp : Sp} {σ : L2.St} {i j : Nat} (h1 : σ[i]? = some (some x)) (h2 : σ[j]? = some (some y)) (h : sp [x, y] H (wQ Q) (wX C0 C1 C2 C3 C4 C5 C6 C7 C8 C9 C10 C11 Q)) : TTword [C0, C1, C2, C3, C4, C5, C6, C7, C8, C9, C10, C11] (fun E H' Q' => tCallN 1 1 sp (fun vs zs => vs ++ zs) E (tCons (tVar i) tNil) (tCons (tVar j) tNil) σ H' Q') H Q :=
  ⟨x, h1, y, h2, rfl, rfl, h⟩
theorem tl_cut {sp : Sp} {σ : L2.St} {i j : Nat} {a : Addr} {xs : List V} (h1 : σ[i]? = some (some (.ref a))) (h2 : σ[j]? = some (some y)) (hS : SqT K H a xs) (h : ∀ r H', Same H H' → SqT K H' r (cutV xs none (some 2)) → sp [.ref r, y] H' (wQ Q) (wX C0 C1 C2 C3 C4 C5 C6 C7 C8 C9 C10 C11 Q)) : TTword [C0, C1, C2, C3, C4, C5, C6, C7, C8, C9, C10, C11] (fun E H' Q' => tCallN 1 1 sp (fun vs zs => vs ++ zs) E (tCons (tSl (rSlA K) (tVar i) tNoPart (tPart (tC (V.int 2)))) tNil) (tCons (tVar j) tNil) σ H' Q') H Q :=
  ⟨.ref a, h1, 2, rfl, sl_any (K := K) hS fun r H' s hr => ⟨y, h2, rfl, rfl, h r H' s hr⟩⟩
end
structure WT (K : PySem.W.Frag) (mg : Str → Option Value) (fW : Addr) (dW : FuncData) : Prop where
  FWord : Fun K "_law_x_word" "_law_x_word" sWord fW dW
  bWord : Binds K dW ["act"] []
  gWord : mg "_law_x_word" = some (.ref fW)
structure LimTxt (K : PySem.W.Frag) (mg : Str → Option Value) (x9 : Addr) (y9 : FuncData) : Prop where
  FLim : Fun K "_law_x_limits_right" "_law_x_limits_right" sLim x9 y9
  bLim : Binds K y9 ["pen", "machine", "many"] []
  gLim : mg "_law_x_limits_right" = some (.ref x9)
theorem Fun.okC {P : Program} {w : World} {K : PySem.W.Frag} {mg : Str → Option Value} {base : Heap} {x qual : Str} {st : Stmt} {f : Addr} {fd : FuncData} {N ps : List Str} {k : Nat} {sp : Sp} {v : Value} (F : Fun K x qual st f fd) (hv : fd.code = v) (S : FnScope N ps (defScope st)) (len : ∀ vs H Q E, sp vs H Q E → vs.length = ps.length)
    (hbody : ∀ (A : Around) (outer : List Env) (s : Shared) (H : Hp) (vs : List V) (Q : VK) (E : XK), Room k (A.deeper (envOfC qual (defScope st) s.heap.objs.size f v)) → sp vs H Q E → ∃ t, PSs (cxOf CX0 P w K mg base N qual (defScope st) f v A outer s H E).nox (defBody st) t ∧ t { nx := fun _ H' => Q .non H', rt := Q } (start N vs) H) :
    FnOk P w K mg base CX0 (k + 1) f fd ps sp := by
  obtain ⟨oc, od, kV, doc, pm, an, c, ct, osl, hfd, lk, hc⟩ := F.ex
  subst hfd
  obtain rfl : c = v := hv
  refine fn_of lk hc S len fun A outer s H vs Q E hr h => ?_
  obtain ⟨t, d, q⟩ := hbody A outer s H vs Q E hr h
  exact ⟨t, d.nox, q⟩
def spLim (K : PySem.W.Frag) (TT : List (Addr × Str)) : Sp := fun vs H Q _ => ∃ (p : Addr) (n : Nat) (x : V) (d : PyData) (M : Mc) (N : Nat), vs = [.ref p, x, .int ((runE M N).1.length : Int)] ∧ Pen H p n ∧ n < 1044000 ∧ Rs p K H x d ∧ Frame d M ∧ Sid d M ∧ Closed M N ∧ (runE M N).1.length ≤ 300 ∧ LamX.Tabs TT H ∧
  ∀ H' : Hp, ButN p H H' → Pen H' p (n + 3) → LamX.Tabs TT H' → Q (.bl true) H'
section
variable {P : Program} {w : World} {K : PySem.W.Frag} {mg : Str → Option Value} {base : Heap} {f1 f2 f3 f4 : Addr} {d1 d2 d3 d4 : FuncData} {m1 m2 m3 m4 m5 m6 m7 m8 m9 m10 m11 m12 : Addr} {n1 n2 n3 n4 n5 n6 n7 n8 n9 n10 n11 n12 : FuncData} {t1 t2 t3 t4 t5 t6 : Tok} {CM a1 a3 : Addr} {b1 b3 : FuncData} {p1 p2 p3 p4 p5 p6 p7 p8 : Addr} {q1 q2 q3 q4 q5 q6 q7 q8 : FuncData} {CG CI : Addr} {C0 C1 C2 C3 C4 C5 C6 C7 C8 C9 C10 C11 CL : Addr} {fW x9 : Addr} {dW y9 : FuncData} {cL PT : Addr} {TT : List (Addr × Str)}
theorem ok_lim (hcd : y9.code = .ref cL) (TP : PenTxt K mg f1 f2 f3 f4 d1 d2 d3 d4) (TL : LeTxt K mg m1 m2 m3 m4 m5 m6 m7 m8 m9 m10 m11 m12 n1 n2 n3 n4 n5 n6 n7 n8 n9 n10 n11 n12 t1 t2 t3 t4 t5 t6 C0 a1 a3 b1 b3 p1 p2 p3 p4 p5 p6 p7 p8 q1 q2 q3 q4 q5 q6 q7 q8 C9 C10) (TE : WordTxt K mg C0 C1 C2 C3 C4 C5 C6 C7 C8 C9 C10 C11 CL) (TW : WT K mg fW dW) (T : LimTxt K mg x9 y9) (TB : LamX.TabB base mg cL PT) (hT1 : (PT, qLim) ∈ TT) (hT2 : ∀ q ∈ TT, q.1 = PT → q.2 = qLim) : FnOk P w K mg base CX0 11 x9 y9 ["pen", "machine", "many"] (spLim K TT) := by
  have GP : FnOk P w K mg base CX0 10 f4 d4 ["pen", "some"] (spPick K) := ok_pick TP (k := 7)
  have GT : FnOk P w K mg base CX0 10 f3 d3 ["pen", "many"] spTake := ok_take TP (k := 8)
  have GLE : FnOk P w K mg base (L2.CX P w) 8 p7 q7 ["machine", "limit"] (spLed K C0 C10 C9) := ok_led TL (k := 1)
  have GLA : FnOk P w K mg base (L2.CX P w) 8 p8 q8 ["machine", "limit"] (spLacksOf K C0 C10 C9) := ok_lacksOf TL (k := 1)
  obtain ⟨ocW, odW, kVW, docW, pmW, anW, cdW, ctW, slW, rfl, lkW, cgW⟩ := TW.FWord.ex
  refine Fun.okC T.FLim hcd scLim (fun vs H Q E h => ?_) (fun A outer s H vs Q E hr h => ?_)
  · obtain ⟨p, n, x, d, M, N, rfl, _⟩ := h
    rfl
  · obtain ⟨p, n, x, d, M, N, rfl, hP, hn, hx, hF, hsd, hC, few, hT, q⟩ := h
    have hu : (A.deeper (envOfC "_law_x_limits_right" (defScope sLim) s.heap.objs.size x9 (.ref cL))).units + 65 < cLine := by have := hr.un; omega
    have hu4 : (A.deeper (envOfC "_law_x_limits_right" (defScope sLim) s.heap.objs.size x9 (.ref cL))).units + 64 < cLine := by omega
    refine ⟨_, (Evl.pss_cut (ps_for PassesOwn.never rfl (pi_list (pe_lst (pa_cons (pv 2) (pa_cons (pe_op op_sub (pv 2) pe_int) (pa_cons (pe_op op_add pe_int (pe_call GT hr (by rfl) TP.gTake TP.FTake.kp TP.bTake .nil pass0 (pa_cons (pv 0) (pa_cons pe_int pa_nil)))) pa_nil))))) (pg_name (i := 5) scLim.nd rfl (.inr rfl))
 (pss_one (ps_if (pt_cmpR op_gt (pv 5) pe_int (nomark _)) (Evl.pss_cut (ps_set (i := 3) scLim.nd rfl (.inl rfl) (pe_ifExp (pt_cmpR op_lt (pv 5) (pv 2) (nomark _)) pe_str pe_str))
 (pss_cons (ps_if (pt_cmpR op_ne (LamX.pe_lamcall (T := TT) (a := "act") (by rfl) TW.gWord TW.FWord.kp lkW cgW TW.bWord scWord (by rfl) (.inl rfl) (word_gives TE) TB rfl hT1 hT2 hr (show LamX.LamS (defScope sLim) _ from LamX.lamS_by (by decide +kernel)) rfl (fun _ _ _ _ _ => rfl) (fun A outer s H E f c1 hr2 => (pe_callN GLE hr2 (by rfl) TL.gLed TL.FLed.kp (led_kbinds TL) (passes_call (takes_of rfl rfl rfl rfl) (fun _ _ _ _ h => h)) (pa_cons (pv 1) pa_nil) (pk_cons (pv 5) pk_nil)))) (pv 3) (nomark _)) (pss_one (ps_ret pe_bl)) pss_nil)
 (pss_one (ps_if (pt_cmpR op_ne (LamX.pe_lamcall (T := TT) (a := "act") (by rfl) TW.gWord TW.FWord.kp lkW cgW TW.bWord scWord (by rfl) (.inl rfl) (word_gives TE) TB rfl hT1 hT2 hr (show LamX.LamS (defScope sLim) _ from LamX.lamS_by (by decide +kernel)) rfl (fun _ _ _ _ _ => rfl) (fun A outer s H E f c1 hr2 => (pe_callN GLA hr2 (by rfl) TL.gLacksOf TL.FLacksOf.kp (lof_kbinds TL) (passes_call (takes_of rfl rfl rfl rfl) (fun _ _ _ _ h => h)) (pa_cons (pv 1) pa_nil) (pk_cons (pv 5) pk_nil)))) (pv 3) (nomark _)) (pss_one (ps_ret pe_bl)) pss_nil)))) pss_nil)))
 (Evl.pss_cut (ps_set (i := 4) scLim.nd rfl (.inr rfl) (pe_call GP hr (by rfl) TP.gPick TP.FPick.kp TP.bPick .nil pass0 (pa_cons (pv 0) (pa_cons (pe_lst (pa_cons pe_int (pa_cons pe_int (pa_cons (pe_un un_neg pe_int) (pa_cons pe_bl (pa_cons pe_non (pa_cons pe_str (pa_cons (pe_tup (pa_cons pe_int pa_nil)) (pa_cons (pe_op op_pow pe_int pe_int) pa_nil))))))))) pa_nil))))
 (pss_cons (ps_if (pt_cmpR op_ne (LamX.pe_lamcall (T := TT) (a := "act") (by rfl) TW.gWord TW.FWord.kp lkW cgW TW.bWord scWord (by rfl) (.inl rfl) (word_gives TE) TB rfl hT1 hT2 hr (show LamX.LamS (defScope sLim) _ from LamX.lamS_by (by decide +kernel)) rfl (fun _ _ _ _ _ => rfl) (fun A outer s H E f c1 hr2 => (pe_callN GLE hr2 (by rfl) TL.gLed TL.FLed.kp (led_kbinds TL) (passes_call (takes_of rfl rfl rfl rfl) (fun _ _ _ _ h => h)) (pa_cons (pv 1) pa_nil) (pk_cons (pv 4) pk_nil)))) pe_str (nomark _)) (pss_one (ps_ret pe_bl)) pss_nil)
 (pss_cons (ps_if (pt_cmpR op_ne (LamX.pe_lamcall (T := TT) (a := "act") (by rfl) TW.gWord TW.FWord.kp lkW cgW TW.bWord scWord (by rfl) (.inl rfl) (word_gives TE) TB rfl hT1 hT2 hr (show LamX.LamS (defScope sLim) _ from LamX.lamS_by (by decide +kernel)) rfl (fun _ _ _ _ _ => rfl) (fun A outer s H E f c1 hr2 => (pe_callN GLA hr2 (by rfl) TL.gLacksOf TL.FLacksOf.kp (lof_kbinds TL) (passes_call (takes_of rfl rfl rfl rfl) (fun _ _ _ _ h => h)) (pa_cons (pv 1) pa_nil) (pk_cons (pv 4) pk_nil)))) pe_str (nomark _)) (pss_one (ps_ret pe_bl)) pss_nil)
 (pss_one (ps_ret (pe_cmpR op_eq (LamX.pe_lamcall (T := TT) (a := "act") (by rfl) TW.gWord TW.FWord.kp lkW cgW TW.bWord scWord (by rfl) (.inl rfl) (word_gives TE) TB rfl hT1 hT2 hr (show LamX.LamS (defScope sLim) _ from LamX.lamS_by (by decide +kernel)) rfl (fun _ _ _ _ _ => rfl) (fun A outer s H E f c1 hr2 => (pe_callN GLE hr2 (by rfl) TL.gLed TL.FLed.kp (led_kbinds TL) (passes_call (takes_of rfl rfl rfl rfl) (fun _ _ _ _ h => h)) (pa_cons (pe_slice (sl_tupK (K := K) rfl) (pv 1) po_none (po_some pe_int)) pa_nil) (pk_cons (pv 4) pk_nil)))) pe_str (nomark _)))))))), ?_⟩
    have g0 : Go TT p n H H := ⟨ButN.refl p H, hP, hT⟩
    have r1 := run_pos M N
    refine ⟨fun σ H' => ∃ o3 o5 : Option V, σ = [some (.ref p), some x, some (.int ((runE M N).1.length : Int)), o3, none, o5] ∧ Go TT p (n + 1) H H', ?_, ?_⟩
    · refine ⟨_, rfl, _, rfl, _, _, rfl, rfl, _, rfl, p, 300, n, rfl, hP, by omega, by decide, by decide +kernel, fun Ha k0 ba hPa k00 k01 => ⟨_, _, rfl, rfl, by show 3 ≤ sizeLine; decide, fun D hD => ⟨D, rfl, ⟨_, SqL.of upd_same⟩, ?_⟩⟩⟩
      have xD := same_upd (o := HO.lst [V.int ((runE M N).1.length : Int), .int (((runE M N).1.length : Int) - 1), .int (1 + k0)]) hD
      have gD : Go TT p (n + 1) H (upd Ha D (.lst [V.int ((runE M N).1.length : Int), .int (((runE M N).1.length : Int) - 1), .int (1 + k0)])) := (g0.but ba hPa).same xD
      have eD : (upd Ha D (.lst [V.int ((runE M N).1.length : Int), .int (((runE M N).1.length : Int) - 1), .int (1 + k0)])) D = some (.lst [V.int ((runE M N).1.length : Int), .int (((runE M N).1.length : Int) - 1), .int (1 + k0)]) := upd_same
      generalize upd Ha D (.lst [V.int ((runE M N).1.length : Int), .int (((runE M N).1.length : Int) - 1), .int (1 + k0)]) = H1 at gD eD ⊢
      refine for_it (walk_list (K := K) (a := D) (xs := [V.int ((runE M N).1.length : Int), .int (((runE M N).1.length : Int) - 1), .int (1 + k0)])) (fun _ σ H' => (∃ o3 o5 : Option V, σ = [some (.ref p), some x, some (.int ((runE M N).1.length : Int)), o3, none, o5]) ∧ Go TT p (n + 1) H H' ∧ H' D = some (.lst [V.int ((runE M N).1.length : Int), .int (((runE M N).1.length : Int) - 1), .int (1 + k0)])) ⟨⟨none, none, rfl⟩, gD, eD⟩ ?_ ?_ ?_
      · rintro i σ H' _ ⟨_, _, h⟩
        exact SqL.of h
      · rintro i y σ H' H'' hi ⟨⟨o3, o5, rfl⟩, g1, e1⟩ ⟨rfl, hy⟩
        obtain ⟨L, rfl, L3⟩ : ∃ L : Int, y = .int L ∧ L ≤ 300 := by
          rcases List.mem_cons.mp (List.mem_of_getElem? hy) with e | h
          · exact ⟨_, e, by omega⟩
          rcases List.mem_cons.mp h with e | h
          · exact ⟨_, e, by omega⟩
          · exact ⟨_, List.mem_singleton.mp h, by omega⟩
        refine ⟨_, rfl, L, 0, rfl, rfl, ?_⟩
        refine ⟨_, rfl, ite2 (fun u => ?_) (fun u => ?_)⟩
        · have L1 : 1 ≤ L := by
            have := of_decide_eq_true u
            omega
          refine ⟨fun σ H' => σ = [some (.ref p), some x, some (.int ((runE M N).1.length : Int)), some (.str (dueS (decide (L < ((runE M N).1.length : Int))))), none, some (.int L)] ∧ Go TT p (n + 1) H H' ∧ H' D = some (.lst [V.int ((runE M N).1.length : Int), .int (((runE M N).1.length : Int) - 1), .int (1 + k0)]), ?_, ?_⟩
          · refine ⟨_, rfl, _, rfl, L, _, rfl, rfl, _, rfl, ite2 (fun u2 => ?_) (fun u2 => ?_)⟩
            · exact ⟨by rw [u2]; rfl, g1, e1⟩
            · exact ⟨by rw [eq_false_of_ne_true u2]; rfl, g1, e1⟩
          rintro σ H2 ⟨rfl, g2, e2⟩
          refine ⟨g2.2.2, fun Hb eb tb => tl_of rfl rfl (led_word (hx.go (g2.ext eb tb).1).rp hF hC L1 L3 fun H3 s3 => ?_)⟩
          have g3 := (g2.ext eb tb).same s3
          have e3 := s3 _ _ (eb D _ e2 (fun _ z => nomatch z))
          refine ⟨_, rfl, rfl, false, by rw [decide_eq_true rfl]; rfl, iteF ?_⟩
          refine ⟨g3.2.2, fun Hc ec tc => tl_of rfl rfl (lof_word (hx.go (g3.ext ec tc).1).rp hF hC L1 L3 fun H5 s5 => ?_)⟩
          have g5 := (g3.ext ec tc).same s5
          have e5 := s5 _ _ (ec D _ e3 (fun _ z => nomatch z))
          exact ⟨_, rfl, rfl, false, by rw [decide_eq_true rfl]; rfl, iteF ⟨⟨_, _, rfl⟩, g5, e5⟩⟩
        · exact ⟨⟨o3, _, rfl⟩, g1, e1⟩
      · rintro σ H' ⟨⟨o3, o5, rfl⟩, g1, e1⟩
        exact ⟨o3, o5, rfl, g1⟩
    rintro σ H1 ⟨o3, o5, rfl, g1⟩
    refine ⟨fun σ H' => ∃ (y : V) (e : PyData), σ = [some (.ref p), some x, some (.int ((runE M N).1.length : Int)), o3, some y, o5] ∧ Go TT p (n + 2) H H' ∧ Rs p K H' y e ∧ betD 1 300 e = false, ?_, ?_⟩
    · refine ⟨_, rfl, ?_⟩
      refine ⟨1, rfl, by show 1 ≤ sizeLine; decide, fun a3 h3 => ⟨10, 20, rfl, rfl, ⟨by decide, by decide, by decide⟩, by show 8 ≤ sizeLine; decide, fun S hS => ?_⟩⟩
      have x3 := same_upd (o := HO.tup [V.int 3]) h3
      have g3 := g1.same x3
      have e3 : (upd H1 a3 (.tup [V.int 3])) a3 = some (.tup [V.int 3]) := upd_same
      have n3 := new_ne g1.pen h3
      generalize upd H1 a3 (.tup [V.int 3]) = H3 at x3 g3 e3 hS ⊢
      refine ⟨p, S, _, n + 1, rfl, (g3.same (same_upd hS)).pen, by omega, SqL.of upd_same, new_ne g3.pen hS, by simp, by simp, fun H4 m v b4 hP4 hm => ?_⟩
      have g4 := ((g3.same (same_upd hS)).but b4 hP4)
      have e4 : H4 a3 = some (.tup [V.int 3]) := b4 _ _ n3 (same_upd hS _ _ e3)
      have hv := List.mem_of_getElem? hm
      simp only [List.mem_cons, List.not_mem_nil, or_false] at hv
      have fin : ∃ e, Rs p K H4 v e ∧ betD 1 300 e = false := by
        rcases hv with rfl | rfl | rfl | rfl | rfl | rfl | rfl | rfl
        · exact ⟨_, rs_int 0, by decide⟩
        · exact ⟨_, rs_int 301, by decide⟩
        · exact ⟨_, rs_int (-1), by decide⟩
        · exact ⟨_, rs_bl true, rfl⟩
        · exact ⟨_, rs_non, rfl⟩
        · exact ⟨_, rs_str "9" (by decide), rfl⟩
        · exact ⟨_, rs_tup n3 e4 (.cons (rs_int 3) rsNil), rfl⟩
        · exact ⟨_, rs_int _, by decide +kernel⟩
      obtain ⟨e, he, re⟩ := fin
      exact ⟨v, e, rfl, g4, he, re⟩
    rintro σ H2 ⟨y, e, rfl, g2, hy, be⟩
    refine ⟨g2.2.2, fun Hb eb tb => tl_of rfl rfl (led_limit (hx.go (g2.ext eb tb).1).rp hF (hy.go (butN_ext eb)).rp be fun H3 s3 => ?_)⟩
    have g3 := (g2.ext eb tb).same s3
    have y3 := hy.go ((butN_ext eb).trans (butN_same s3))
    refine ⟨rfl, false, by rw [decide_eq_true rfl]; rfl, iteF ?_⟩
    refine ⟨g3.2.2, fun Hc ec tc => tl_of rfl rfl (lof_limit (hx.go (g3.ext ec tc).1).rp hF (y3.go (butN_ext ec)).rp be fun H5 s5 => ?_)⟩
    have g5 := (g3.ext ec tc).same s5
    have y5 := y3.go ((butN_ext ec).trans (butN_same s5))
    refine ⟨rfl, false, by rw [decide_eq_true rfl]; rfl, iteF ?_⟩
    refine ⟨g5.2.2, fun Hd ed td => ?_⟩
    have g6 := g5.ext ed td
    obtain ⟨T0, sD⟩ := side_data hsd
    have h0 := (hx.go g6.1).rp
    rw [sD.eq] at h0
    obtain ⟨a, w3, rfl, hS0, r30⟩ := h0.three
    have ok2 := one_two sD hsd.1
    have zs : M.z.length ≤ sizeLine := Nat.le_trans (ltr_pos hsd.1.ltr).2 (by decide)
    refine tl_cut rfl rfl hS0 fun r H7 s7 hr => led_none (.tup hr (.cons (.int _) (.cons (.str _ zs) .nil))) ((y5.go ((butN_ext ed).trans (butN_same s7))).rp) ok2.m ok2.p fun H8 s8 => ?_
    have g8 := (g6.same s7).same s8
    refine ⟨rfl, ?_⟩
    rw [decide_eq_true rfl]
    exact q H8 g8.1 (g8.pen.mono (by omega)) g8.2.2
end
end My
/-! ### lists of texts compared -/
namespace My
open PySem PySem.Spec PyProof.Rows L2
/-- xs != ys, lists of the same texts -/
def rNeSS (K : PySem.W.Frag) : R2 := fun x y H Q => ∃ (a b : Addr) (zs : List Str), x = .ref a ∧ y = .ref b ∧ SqL K H a (zs.map V.str) ∧ SqL K H b (zs.map V.str) ∧ Q (.bl false) H
theorem vals_two : ∀ {zs : List Str} {us ws : List Value}, Vals (zs.map V.str) us → Vals (zs.map V.str) ws → us.length = ws.length ∧ ∀ (j : Nat) (h1 : j < us.length) (h2 : j < ws.length), ∃ z t1 t2, us[j] = Value.str z t1 ∧ ws[j] = Value.str z t2
  | [], _, _, h, g => by
    cases h
    cases g
    exact ⟨rfl, fun j h => absurd h (by simp)⟩
  | z :: r, _, _, h, g => by
    cases h with
    | cons h1 h2 =>
      cases g with
      | cons g1 g2 =>
        obtain ⟨t1, rfl⟩ := h1
        obtain ⟨t2, rfl⟩ := g1
        obtain ⟨l, f⟩ := vals_two h2 g2
        refine ⟨by simp [l], fun j a b => ?_⟩
        cases j with
        | zero => exact ⟨z, t1, t2, rfl, rfl⟩
        | succ j => exact f j (by simpa using a) (by simpa using b)
theorem op_neSS {X : Cx} (hu : X.A.units + 2 < cLine) : OpR X (compareOp .NotEq) (rNeSS X.K) := by
  intro pins s σ H x y v u Q I rx ry h
  obtain ⟨a, b, zs, rfl, rfl, ha, hb, q⟩ := h
  obtain rfl : v = Value.ref a := rx
  obtain rfl : u = Value.ref b := ry
  obtain ⟨ia, va, la, za⟩ := I.list ha
  obtain ⟨ib, vb, lb, zb⟩ := I.list hb
  obtain ⟨l, f⟩ := vals_two va vb
  refine SeqAt.RcNeAt.lists (e := fun _ => true) la.isList lb.isList (by simp [l]) (by omega) (fun j h1 h2 => ?_) X.prog X.w _ _ ?_
  · obtain ⟨z, t1, t2, e1, e2⟩ := f j (by simpa using h1) (by simpa using h2)
    have := SeqAt.EqAt.str_str (A := X.A.in1) (s := s) z t1 z t2
    simpa [e1, e2] using this
  · have : (!(List.range ia.toArray.size).all fun _ => true) = false := by simp
    rw [this]
    exact ⟨.bl false, H, I, rfl, q⟩
end My
/-! ### the law -/
namespace My
open PySem PySem.Spec PyProof.Rows L2 PySem.Builtin.Str
abbrev sLaw : Stmt := topS 63
theorem scLaw : FnScope ["script", "pen", "turn", "letters", "base", "kept", "due", "told", "lines", "some", "bad", "machine", "one", "state"] ["script"] (defScope sLaw) := ⟨rfl, rfl, rfl, by decide +kernel, rfl, by decide +kernel, by decide +kernel⟩
def qLaw : Str := (envOfC "law" (defScope sLaw) 0 0 .none).qual ++ "<lambda>"
structure LawTxt (K : PySem.W.Frag) (mg : Str → Option Value) : Prop where
  range : mg "range" = none
  repr : mg "repr" = none
  len : mg "len" = none
  list : mg "list" = none
  isi : mg "isinstance" = none
def TL2 (P1 P2 : Addr) : List (Addr × Str) := [(P1, qLaw), (P2, qLim)]
section
variable {K : PySem.W.Frag} {C0 C1 C2 C3 C4 C5 C6 C7 C8 C9 C10 C11 : Addr} {H : Hp} {x y : V} {d e : PyData} {M : Mc} {N : Nat} {Q : VK}
/-- the act: x called with one thing -/
theorem tl_one {sp : Sp} {σ : L2.St} {i : Nat} (h1 : σ[i]? = some (some x)) (h : sp [x, .int 300] H (wQ Q) (wX C0 C1 C2 C3 C4 C5 C6 C7 C8 C9 C10 C11 Q)) : TTword [C0, C1, C2, C3, C4, C5, C6, C7, C8, C9, C10, C11] (fun E H' Q' => tCall sp [V.int 300] E (tCons (tVar i) tNil) σ H' Q') H Q :=
  ⟨x, h1, h⟩
theorem led_great (hx : Rp K H x d) (hF : Frame d M) (g : 300 < (runE M N).1.length) (fin : ∀ H3, Same H H3 → Q (.str "great") H3) : spLed K C0 C10 C9 [x, .int 300] H (wQ Q) (wX C0 C1 C2 C3 C4 C5 C6 C7 C8 C9 C10 C11 Q) := by
  refine ⟨x, .int 300, d, .int 300, rfl, hx, .int 300, .inr ⟨M, hF, .inr ⟨300, rfl, by decide, by decide, fun n H' _ s => ?_, fun n H' t cl g2 s _ _ => ?_⟩⟩⟩
  · refine ⟨9, by decide, rfl, rfl, fun H3 s3 => ?_⟩
    rw [word9]
    exact fin H3 (s.trans s3)
  · have := closed_max cl N
    omega
theorem lof_great (hx : Rp K H x d) (hF : Frame d M) (g : 300 < (runE M N).1.length) (fin : ∀ H3, Same H H3 → Q (.str "great") H3) : spLacksOf K C0 C10 C9 [x, .int 300] H (wQ Q) (wX C0 C1 C2 C3 C4 C5 C6 C7 C8 C9 C10 C11 Q) := by
  refine ⟨x, .int 300, d, .int 300, rfl, hx, .int 300, .inr ⟨M, hF, .inr ⟨300, rfl, by decide, by decide, fun n H' _ s => ?_, fun n H' t rs cl g2 s _ _ _ => ?_⟩⟩⟩
  · refine ⟨9, by decide, rfl, rfl, fun H3 s3 => ?_⟩
    rw [word9]
    exact fin H3 (s.trans s3)
  · have := closed_max cl N
    omega
end
theorem led_tO (M : Mc) (n : Nat) : tO (ledD M n) = true := by
  simp only [ledD, tO, tOs, tO_stD, Bool.and_true]
theorem paired_on {α β : Type} {F G : α → β → Prop} : ∀ {l₁ : List α} {l₂ : List β}, Paired F l₁ l₂ → (∀ a ∈ l₁, ∀ b, F a b → G a b) → Paired G l₁ l₂
  | [], [], _, _ => .nil
  | a :: _, b :: _, .cons h1 h2, g => .cons (g a (.head _) b h1) (paired_on h2 fun x hx => g x (.tail _ hx))
/-- what is due stands: the led machine and the list of its dicts -/
structure Du (p : Addr) (K : PySem.W.Frag) (M : Mc) (N : Nat) (tt u dl : Addr) (rs : List Addr) (H : Hp) : Prop where
  ntt : tt ≠ p
  ndl : dl ≠ p
  nrs : ∀ r ∈ rs, r ≠ p
  ett : H tt = some (.tup [.ref u, .ref dl])
  ru : Rs p K H (.ref u) (ledD M N)
  dL : DL H dl rs (runE M N).1
theorem dl_go {p dl : Addr} {rs : List Addr} {ds : List Dk} {H H' : Hp} (h : DL H dl rs ds) (n1 : dl ≠ p) (n2 : ∀ r ∈ rs, r ≠ p) (b : ButN p H H') : DL H' dl rs ds := ⟨b _ _ n1 h.1 (fun _ z => nomatch z), paired_on h.2 fun r hr D e => b _ _ (n2 r hr) e (fun _ z => nomatch z)⟩
theorem Du.go {p : Addr} {K : PySem.W.Frag} {M : Mc} {N : Nat} {tt u dl : Addr} {rs : List Addr} {H H' : Hp} (h : Du p K M N tt u dl rs H) (b : ButN p H H') : Du p K M N tt u dl rs H' := ⟨h.ntt, h.ndl, h.nrs, b _ _ h.ntt h.ett (fun _ z => nomatch z), h.ru.go b, dl_go h.dL h.ndl h.nrs b⟩
theorem dl_some {dl : Addr} {rs : List Addr} {ds : List Dk} {H : Hp} (h : DL H dl rs ds) {r : Addr} (hr : r ∈ rs) : ∃ D, H r = some (.dK (kd D)) := by
  obtain ⟨i, hi⟩ := List.mem_iff_getElem?.mp hr
  obtain ⟨D, e1, e2⟩ := LiI.paired_get h.2 hi
  exact ⟨D, e2⟩
theorem led_fM (M : Mc) (n : Nat) : ledD M n = fM (plM M.b M.z (runE M n).2) := by
  show _ = fM ⟨M.b, M.z, (runE M n).2.map (List.map fun p => [p])⟩
  unfold fM
  simp only [List.map_map]
  refine congrArg (fun l => PyData.tuple [.int M.b, .str M.z, .tuple l]) (List.map_congr_left fun xs _ => ?_)
  show PyData.tuple (xs.map eP) = .tuple ((xs.map fun p => [p]).map fC)
  rw [List.map_map]
  rfl
/-- a led machine of up to 300 states, as data to be shown -/
theorem led_sid {M : Mc} (h : Mok M) {n : Nat} (cl : Closed M n) (few : (runE M n).1.length ≤ 300) : Sid (ledD M n) (plM M.b M.z (runE M n).2) := by
  have hl := closed_len cl
  have ps := run_pos M n
  have r := run_rows h n
  have in1 : ∀ cs ∈ (plM M.b M.z (runE M n).2).C, ∃ qs ∈ (runE M n).2, cs = qs.map fun p => [p] := fun cs hcs => by
    obtain ⟨qs, hqs, e⟩ := List.mem_map.mp hcs
    exact ⟨qs, hqs, e.symm⟩
  have one : ∀ cs ∈ (plM M.b M.z (runE M n).2).C, ∀ ps ∈ cs, ps.length = 1 := fun cs hcs ps hps => by
    obtain ⟨qs, hqs, rfl⟩ := in1 cs hcs
    obtain ⟨q, _, rfl⟩ := List.mem_map.mp hps
    rfl
  have len : (plM M.b M.z (runE M n).2).C.length = (runE M n).2.length := List.length_map _
  refine ⟨⟨h.b2, h.b9, h.ltr, by omega, by omega, fun cs hcs => ?_, fun cs hcs ps hps => ?_, fun cs hcs ps hps p hp => ?_, .inr one⟩, .inr ⟨led_fM M n, one⟩⟩
  · obtain ⟨qs, hqs, rfl⟩ := in1 cs hcs
    rw [List.length_map]
    exact (r qs hqs).1
  · have := one cs hcs ps hps
    omega
  · obtain ⟨qs, hqs, rfl⟩ := in1 cs hcs
    obtain ⟨q, hq, rfl⟩ := List.mem_map.mp hps
    obtain rfl := List.mem_singleton.mp hp
    have := (r qs hqs).2 p hq
    rw [len, hl]
    omega
theorem dok_lines {M : Mc} (h : Mok M) {D : Dk} (d : Dok M D) : (keysI D).Nodup ∧ Asc D ∧ D.length ≤ 10 ∧ ∀ kv ∈ D, kv.1.natAbs < 10 ^ 39 ∧ kv.2.natAbs < 10 ^ 39 := by
  have lk := d.lok
  refine ⟨lk.kin.nd, d.asc, Nat.le_trans lk.few (by decide), fun kv hkv => ?_⟩
  have r1 := lk.kin.rg kv.1 (List.mem_map_of_mem (f := (·.1)) hkv)
  have r2 := d.val kv hkv
  have c3 := h.c3
  have t1 : (300 : Nat) < 10 ^ 39 := by decide +kernel
  have t2 : (18 * wideN).natAbs < 10 ^ 39 := by decide +kernel
  omega
/-- the lines of a list of dicts -/
def linesV (ds : List Dk) : List V := ds.map fun d => V.str (linesD d)
theorem pen_upd {H : Hp} {p g : Addr} {n : Nat} {o0 o : HO} (h : Pen H p n) (ng : g ≠ p) (hg : H g = some o0) (no : ∀ is : List Int, o0 ≠ .lst (is.map V.int)) : Pen (upd H g o) p n := by
  obtain ⟨c, hPc⟩ := h.at
  obtain ⟨cs, _, _, _, hc, _⟩ := hPc.ex
  have nc : g ≠ c := fun z => by
    rw [← z, hg] at hc
    exact no cs (Option.some.inj hc)
  exact (hPc.keep (fun o e => by rw [upd_ne ng.symm]; exact e) (fun o e => by rw [upd_ne nc.symm]; exact e)).pen
theorem tabs_upd {T : List (Addr × Str)} {H : Hp} {g : Addr} {o0 o : HO} (h : LamX.Tabs T H) (hg : H g = some o0) (no : ∀ ps, o0 ≠ .tbl ps) (no2 : ∀ c q, o0 ≠ LamX.CodeO c q) : LamX.Tabs T (upd H g o) := fun x hx => by
  obtain ⟨ps, h1, h2, h3⟩ := h x hx
  have n1 : x.1 ≠ g := fun z => by
    rw [z, hg] at h1
    exact no ps (Option.some.inj h1)
  refine ⟨ps, by rw [upd_ne n1]; exact h1, h2, fun pos cv hc => ?_⟩
  obtain ⟨c, e1, e2⟩ := h3 pos cv hc
  have n2 : c ≠ g := fun z => by
    rw [z, hg] at e2
    exact no2 _ _ (Option.some.inj e2)
  exact ⟨c, e1, by rw [upd_ne n2]; exact e2⟩
theorem paired_snoc {α β : Type} {F : α → β → Prop} {a : α} {b : β} : ∀ {l : List α} {m : List β}, Paired F l m → F a b → Paired F (l ++ [a]) (m ++ [b])
  | _, _, .nil, h => .cons h .nil
  | _, _, .cons x t, h => .cons x (paired_snoc t h)
theorem Fun.okGC {P : Program} {w : World} {K : PySem.W.Frag} {mg : Str → Option Value} {base : Heap} {CX : CXT} {x qual : Str} {st : Stmt} {f : Addr} {fd : FuncData} {N ps : List Str} {k : Nat} {sp : Sp} {c : Value} (F : Fun K x qual st f fd) (hv : fd.code = c) (S : FnScope N ps (defScope st))
    (len : ∀ vs H Q E, sp vs H Q E → vs.length = ps.length)
    (hbody : ∀ (A : Around) (outer : List Env) (s : Shared) (H : Hp) (vs : List V) (Q : VK) (E : XK), A.guards = some [] → Room k (A.deeper (envOfC qual (defScope st) s.heap.objs.size f c)) → sp vs H Q E →
      ∃ t, PSs (cxOf CX P w K mg base N qual (defScope st) f c A outer s H E) (defBody st) t ∧ t { nx := fun _ H' => Q .non H', rt := Q } (start N vs) H) :
    FnG P w K mg base CX (k + 1) f fd ps sp := by
  obtain ⟨oc, od, kV, doc, pm, an, cdv, ct, osl, hfd, lk, hcode⟩ := F.ex
  subst hfd
  obtain rfl : cdv = c := hv
  refine ⟨len, fun A hgd room out st' G ar uu vv R W e0 hb rv hs => ?_⟩
  have hlen := len _ _ _ _ hs
  have kin := e0.mod.kin.keeps fun b o e => (e0.bs b o e).1
  have nolim := e0.mod.nolimit.keeps fun b o e => (e0.bs b o e).1
  refine codeAny_call_function room.depth (kin _ _ lk) rfl S.co S.gen rfl (PySem.W.codeRec_of kin hcode) (hb _ _ _ _ ?_)
  refine wpAny_newFunctionEnv_cells S.kind (fun ⟨n, v⟩ hmem => ?kinds) fun env' heq s2 x2 => ?_
  case kinds =>
    cases S.par n (List.of_mem_zip hmem).1 with
    | inl q => exact .inl q
    | inr q => exact .inr ⟨q, PySem.W.cellsFrom_some _ _ _ (.inl q)⟩
  subst heq
  refine ⟨nolim.keeps x2.toInCall.keep, codeAny_func ?_⟩
  obtain ⟨t, der, reading⟩ := hbody A out st' G vv R W hgd (room.deeper _) hs
  refine wpAny_mono (der.run [] s2 (start N vv) G _ (inv_start S room.hd e0 hlen rv x2) reading) (fun fl s3 end3 => ?_) fun _ _ end3 => end3
  cases fl with
  | next =>
    obtain ⟨_, G', J, q⟩ := end3
    exact ⟨V.non, G', J.os, J.bare, J.base, J.hok, rfl, q⟩
  | ret u =>
    obtain ⟨v, _, G', J, rv', q⟩ := end3
    exact ⟨v, G', J.os, J.bare, J.base, J.hok, rv', q⟩
  | brk => exact (let ⟨_, _, _, q⟩ := end3; False.elim q)
  | cont => exact (let ⟨_, _, _, q⟩ := end3; False.elim q)
def spLaw (K : PySem.W.Frag) (P1 P2 : Addr) : Sp := fun vs H Q _ => ∃ (a : Addr) (ns : List Int), vs = [.ref a] ∧ SqL K H a (ns.map V.int) ∧ ns.length ≤ 63 ∧ H P1 = some (.tbl #[]) ∧ H P2 = some (.tbl #[]) ∧ ∀ H', Q (.bl true) H'
section
variable {P : Program} {w : World} {K : PySem.W.Frag} {mg : Str → Option Value} {base : Heap} {f1 f2 f3 f4 : Addr} {d1 d2 d3 d4 : FuncData} {m1 m2 m3 m4 m5 m6 m7 m8 m9 m10 m11 m12 : Addr} {n1 n2 n3 n4 n5 n6 n7 n8 n9 n10 n11 n12 : FuncData} {t1 t2 t3 t4 t5 t6 : Tok} {a1 a3 : Addr} {b1 b3 : FuncData} {p1 p2 p3 p4 p5 p6 p7 p8 : Addr} {q1 q2 q3 q4 q5 q6 q7 q8 : FuncData} {C0 C1 C2 C3 C4 C5 C6 C7 C8 C9 C10 C11 CL : Addr} {fW x9 : Addr} {dW y9 : FuncData} {c1 c2 P1 P2 : Addr}
  {xl : Addr} {yl : FuncData} {xm xp xf xs : Addr} {ym yp yf ys : FuncData} {xg xc xo : Addr} {yg yc yo : FuncData} {x1 x2 x3 x4 x7 : Addr} {y1 y2 y3 y4 y7 : FuncData}
theorem ok_law {f : Addr} {fd : FuncData} (F : Fun K "law" "law" sLaw f fd) (hcd : fd.code = .ref c1) (hcd2 : y9.code = .ref c2) (hne : P1 ≠ P2) (TP : PenTxt K mg f1 f2 f3 f4 d1 d2 d3 d4) (TLE : LeTxt K mg m1 m2 m3 m4 m5 m6 m7 m8 m9 m10 m11 m12 n1 n2 n3 n4 n5 n6 n7 n8 n9 n10 n11 n12 t1 t2 t3 t4 t5 t6 C0 a1 a3 b1 b3 p1 p2 p3 p4 p5 p6 p7 p8 q1 q2 q3 q4 q5 q6 q7 q8 C9 C10) (TE : WordTxt K mg C0 C1 C2 C3 C4 C5 C6 C7 C8 C9 C10 C11 CL) (TW : WT K mg fW dW) (TR : LimTxt K mg x9 y9)
    (TL : LetTxt K mg xl yl) (TB : BlTxt K mg xm xp xf xs ym yp yf ys) (TS : RiTxt K mg xg xc xo yg yc yo) (TX : XlTxt K mg x1 x2 x3 x4 y1 y2 y3 y4) (TI : LsTxt K mg x7 y7) (T : LawTxt K mg) (hTB1 : LamX.TabB base mg c1 P1) (hTB2 : LamX.TabB base mg c2 P2) : FnG P w K mg base CX0 12 f fd ["script"] (spLaw K P1 P2) := by
  have GO : FnOk P w K mg base CX0 11 f2 d2 ["script"] (spOpen K) := ok_open TP (k := 10)
  have GT : FnOk P w K mg base CX0 11 f3 d3 ["pen", "many"] spTake := ok_take TP (k := 9)
  have GPK : FnOk P w K mg base CX0 11 f4 d4 ["pen", "some"] (spPick K) := ok_pick TP (k := 8)
  have GL : FnOk P w K mg base CX0 11 xl yl ["pen"] spXLetters := ok_xLetters TP TL (k := 7)
  have GS : FnOk P w K mg base CX0 11 xo yo ["pen", "base", "letters"] (spSome K) := ok_some TP TB TS (k := 5)
  have GX : FnOk P w K mg base CX0 11 x4 y4 ["machine"] (spXLed K) := ok_xLed TX (k := 8)
  have GI : FnG P w K mg base CX0 11 x7 y7 ["some"] spLines := ok_xLines TI (k := 10)
  have GLD : FnOk P w K mg base (L2.CX P w) 11 p7 q7 ["machine", "limit"] (spLed K C0 C10 C9) := ok_led TLE (k := 4)
  have GLF : FnOk P w K mg base (L2.CX P w) 11 p8 q8 ["machine", "limit"] (spLacksOf K C0 C10 C9) := ok_lacksOf TLE (k := 4)
  have GLD2 : FnOk P w K mg base (L2.CX P w) 9 p7 q7 ["machine", "limit"] (spLed K C0 C10 C9) := ok_led TLE (k := 2)
  have GLF2 : FnOk P w K mg base (L2.CX P w) 9 p8 q8 ["machine", "limit"] (spLacksOf K C0 C10 C9) := ok_lacksOf TLE (k := 2)
  have hT1 : (P1, qLaw) ∈ TL2 P1 P2 := .head _
  have hT2 : ∀ q ∈ TL2 P1 P2, q.1 = P1 → q.2 = qLaw := fun q hq e => by
    simp only [TL2, List.mem_cons, List.not_mem_nil, or_false] at hq
    rcases hq with rfl | rfl
    · rfl
    · exact absurd e.symm hne
  have GR : FnOk P w K mg base CX0 11 x9 y9 ["pen", "machine", "many"] (spLim K (TL2 P1 P2)) := ok_lim hcd2 TP TLE TE TW TR hTB2 (.tail _ (.head _)) fun q hq e => by
    simp only [TL2, List.mem_cons, List.not_mem_nil, or_false] at hq
    rcases hq with rfl | rfl
    · exact absurd e hne
    · rfl
  obtain ⟨dLd, vLd, bLd⟩ := led_binds TLE
  obtain ⟨dLf, vLf, bLf⟩ := lof_binds TLE
  obtain ⟨ocW, odW, kVW, docW, pmW, anW, cdW, ctW, slW, rfl, lkW, cgW⟩ := TW.FWord.ex
  refine Fun.okGC F hcd scLaw (fun vs H Q E h => ?_) (fun A outer s H vs Q E hgd hr h => ?_)
  · obtain ⟨a, ns, rfl, _⟩ := h
    rfl
  · obtain ⟨a, ns, rfl, hS, hl63, hT, hT', q⟩ := h
    have hu : (A.deeper (envOfC "law" (defScope sLaw) s.heap.objs.size f (.ref c1))).units + 64 < cLine := by have := hr.un; omega
    have hu2 : (A.deeper (envOfC "law" (defScope sLaw) s.heap.objs.size f (.ref c1))).units + 2 < cLine := by omega
    refine ⟨_, PSs.nox (pss_cons (ps_set (i := 1) scLaw.nd rfl (.inl rfl) (pe_call GO hr (by rfl) TP.gOpen TP.FOpen.kp TP.bOpen .nil pass0 (pa_cons (pv 0) pa_nil)))
 (pss_cons (ps_for PassesOwn.never rfl (pi_range1 (by rfl) T.range (pa_cons pe_int pa_nil)) (pg_name (i := 2) scLaw.nd rfl (.inl rfl))
 (Evl.pss_cut (ps_par (i := 3) (j := 4) (by rfl) scLaw.nd rfl rfl (by decide) rfl rfl (pa_cons (pe_call GL hr (by rfl) TL.gXLetters TL.FXLetters.kp TL.bXLetters .nil pass0 (pa_cons (pv 1) pa_nil)) (pa_cons (pe_call GPK hr (by rfl) TP.gPick TP.FPick.kp TP.bPick .nil pass0 (pa_cons (pv 1) (pa_cons (pe_lst (pa_cons pe_int (pa_cons pe_int (pa_cons pe_int (pa_cons pe_int (pa_cons pe_int pa_nil)))))) pa_nil))) pa_nil)) (by rfl))
 (Evl.pss_cut (ps_set (i := 11) scLaw.nd rfl (.inr rfl) (pe_call GS hr (by rfl) TS.gXSome TS.FXSome.kp TS.bXSome .nil pass0 (pa_cons (pv 1) (pa_cons (pv 4) (pa_cons (pv 3) pa_nil)))))
 (Evl.pss_cut (ps_par (i := 5) (j := 6) (by rfl) scLaw.nd rfl rfl (by decide) rfl rfl (pa_cons (pe_callB (call_reprR hgd hu) (by rfl) T.repr (by decide +kernel) (pa_cons (pv 11) pa_nil)) (pa_cons (pe_call GX hr (by rfl) TX.gXLed TX.FXLed.kp TX.bXLed .nil pass0 (pa_cons (pv 11) pa_nil)) pa_nil)) (by rfl))
 (Evl.pss_cut (ps_if (pt_cmpR op_isN (pv 6) pe_non (nomark _)) (Evl.pss_cut (ps_if (pt_cmpR op_ne (LamX.pe_lamcall (T := TL2 P1 P2) (a := "act") (by rfl) TW.gWord TW.FWord.kp lkW cgW TW.bWord scWord (by rfl) (.inl rfl) (word_gives TE) hTB1 rfl hT1 hT2 hr (show LamX.LamS (defScope sLaw) _ from LamX.lamS_by (by decide +kernel)) rfl (fun _ _ _ _ _ => rfl) (fun A outer s H E f c1 hr2 => (pe_call GLD2 hr2 (by rfl) TLE.gLed TLE.FLed.kp bLd vLd (passes_call (takes_of rfl rfl rfl rfl) (fun _ _ _ _ h => h)) (pa_cons (pv 11) pa_nil)))) pe_str (nomark _)) (pss_one (ps_ret pe_bl)) pss_nil)
 (pss_one (ps_if (pt_cmpR op_ne (LamX.pe_lamcall (T := TL2 P1 P2) (a := "act") (by rfl) TW.gWord TW.FWord.kp lkW cgW TW.bWord scWord (by rfl) (.inl rfl) (word_gives TE) hTB1 rfl hT1 hT2 hr (show LamX.LamS (defScope sLaw) _ from LamX.lamS_by (by decide +kernel)) rfl (fun _ _ _ _ _ => rfl) (fun A outer s H E f c1 hr2 => (pe_call GLF2 hr2 (by rfl) TLE.gLacksOf TLE.FLacksOf.kp bLf vLf (passes_call (takes_of rfl rfl rfl rfl) (fun _ _ _ _ h => h)) (pa_cons (pv 11) pa_nil)))) pe_str (nomark _)) (pss_one (ps_ret pe_bl)) pss_nil))) (Evl.pss_cut (ps_set (i := 7) scLaw.nd rfl (.inl rfl) (pe_call GLF hr (by rfl) TLE.gLacksOf TLE.FLacksOf.kp bLf vLf passL (pa_cons (pv 11) pa_nil)))
 (Evl.pss_cut (ps_if (pt_cmpR op_ne (pe_callB (call_reprR hgd hu) (by rfl) T.repr (by decide +kernel) (pa_cons (pe_call GLD hr (by rfl) TLE.gLed TLE.FLed.kp bLd vLd passL (pa_cons (pv 11) pa_nil)) pa_nil)) (pe_callB (call_reprR hgd hu) (by rfl) T.repr (by decide +kernel) (pa_cons (pe_ix ix_tup (pv 6) pe_int (fun _ _ => rfl)) pa_nil)) (nomark _)) (pss_one (ps_ret pe_bl)) pss_nil)
 (Evl.pss_cut (ps_if (PW.pt (pw_and (pt_cmpR op_lt (pe_callB call_len_seq (by rfl) T.len PySem.boot_len (pa_cons (pe_ix ix_tup (pv 6) pe_int (fun _ _ => rfl)) pa_nil)) pe_int (nomark _)) (pw_and1 (pt_cmpR op_ne (pe_callB (call_reprR hgd hu) (by rfl) T.repr (by decide +kernel) (pa_cons (pe_call GLD hr (by rfl) TLE.gLed TLE.FLed.kp bLd vLd passL (pa_cons (pe_ix ix_tup (pv 6) pe_int (fun _ _ => rfl)) pa_nil)) pa_nil)) (pe_callB (call_reprR hgd hu) (by rfl) T.repr (by decide +kernel) (pa_cons (pe_ix ix_tup (pv 6) pe_int (fun _ _ => rfl)) pa_nil)) (nomark _))))) (pss_one (ps_ret pe_bl)) pss_nil)
 (Evl.pss_cut (ps_setLc (i := 8) (own := [("one", 12)]) (g := gName 12) (tt := tYes) (by rfl) scLaw.nd rfl rfl (sw_true rfl rfl rfl (by decide +kernel)) (pi_list (pe_ix ix_tup (pv 6) pe_int (fun _ _ => rfl))) (blkOk_by (N := ["script", "pen", "turn", "letters", "base", "kept", "due", "told", "lines", "some", "bad", "machine", "one", "state"]) (sc := defScope sLaw) (by decide +kernel)) (fun _ _ _ _ _ => pg_name (i := 12) scLaw.nd rfl (Or.inl rfl)) (fun _ _ _ _ _ => pts_nil) (fun _ _ _ _ _ => (pe_callG GI hgd hr (by rfl) TI.gXLines TI.FXLines.kp TI.bXLines .nil pass0 (pa_cons (pv 12) pa_nil))))
 (Evl.pss_cut (ps_if (PW.pt (pw_or (pt_not (pt_val (pe_callB call_isi (by rfl) T.isi (by decide +kernel) (pa_cons (pv 7) (pa_cons (pe_bltn (v := .ty "list") (by rfl) T.list (by decide +kernel) rfl) pa_nil))))) (pw_or1 (pt_cmpR (op_neSS hu2) (pe_lc (own := [("one", 12)]) (g := gName 12) (tt := tYes) (by rfl) scLaw.nd (pi_list (pv 7)) (blkOk_by (N := ["script", "pen", "turn", "letters", "base", "kept", "due", "told", "lines", "some", "bad", "machine", "one", "state"]) (sc := defScope sLaw) (by decide +kernel)) (fun _ _ _ _ _ => pg_name (i := 12) scLaw.nd rfl (Or.inl rfl)) (fun _ _ _ _ _ => pts_nil) (fun _ _ _ _ _ => (pe_callG GI hgd hr (by rfl) TI.gXLines TI.FXLines.kp TI.bXLines .nil pass0 (pa_cons (pv 12) pa_nil)))) (pv 8) (nomark _))))) (pss_one (ps_ret pe_bl)) pss_nil)
 (Evl.pss_cut (ps_expr (pe_dclear (pe_ix ix_list (pv 7) (pe_call GT hr (by rfl) TP.gTake TP.FTake.kp TP.bTake .nil pass0 (pa_cons (pv 1) (pa_cons (pe_callB call_len_seq (by rfl) T.len PySem.boot_len (pa_cons (pv 7) pa_nil)) pa_nil))) (fun _ _ => rfl))))
 (Evl.pss_cut (ps_expr (pe_bm0 PySem.F.plainAttrs_list PySem.F.slot_list_pop PySem.F.type_list_pop mt_pop (pv 7)))
 (Evl.pss_cut (ps_if (PW.pt (pw_or (pt_cmpR (op_neSS hu2) (pe_lc (own := [("one", 12)]) (g := gName 12) (tt := tYes) (by rfl) scLaw.nd (pi_list (pe_call GLF hr (by rfl) TLE.gLacksOf TLE.FLacksOf.kp bLf vLf passL (pa_cons (pv 11) pa_nil))) (blkOk_by (N := ["script", "pen", "turn", "letters", "base", "kept", "due", "told", "lines", "some", "bad", "machine", "one", "state"]) (sc := defScope sLaw) (by decide +kernel)) (fun _ _ _ _ _ => pg_name (i := 12) scLaw.nd rfl (Or.inl rfl)) (fun _ _ _ _ _ => pts_nil) (fun _ _ _ _ _ => (pe_callG GI hgd hr (by rfl) TI.gXLines TI.FXLines.kp TI.bXLines .nil pass0 (pa_cons (pv 12) pa_nil)))) (pv 8) (nomark _)) (pw_or1 (pt_cmpR (op_neD hu) (pe_call GLD hr (by rfl) TLE.gLed TLE.FLed.kp bLd vLd passL (pa_cons (pv 11) pa_nil)) (pe_ix ix_tup (pv 6) pe_int (fun _ _ => rfl)) (nomark _))))) (pss_one (ps_ret pe_bl)) pss_nil)
 (Evl.pss_cut (ps_if (PW.pt (pw_and (pt_cmpR op_lt (pe_callB call_len_seq (by rfl) T.len PySem.boot_len (pa_cons (pv 8) pa_nil)) pe_int (nomark _)) (pw_and1 (pt_cmpR (op_neLD hu2) (pe_call GLF hr (by rfl) TLE.gLacksOf TLE.FLacksOf.kp bLf vLf passL (pa_cons (pe_ix ix_tup (pv 6) pe_int (fun _ _ => rfl)) pa_nil)) (pe_lc (own := [("state", 13)]) (g := gName 13) (tt := tYes) (by rfl) scLaw.nd (pi_range1 (by rfl) T.range (pa_cons (pe_callB call_len_seq (by rfl) T.len PySem.boot_len (pa_cons (pv 8) pa_nil)) pa_nil)) (blkOk_by (N := ["script", "pen", "turn", "letters", "base", "kept", "due", "told", "lines", "some", "bad", "machine", "one", "state"]) (sc := defScope sLaw) (by decide +kernel)) (fun _ _ _ _ _ => pg_name (i := 13) scLaw.nd rfl (Or.inl rfl)) (fun _ _ _ _ _ => pts_nil) (fun _ _ _ _ _ => (pe_disp (pps_cons (pv 13) pe_int pps_nil) (by rfl) (by rfl) (fun z => by cases z) (by decide)))) (nomark _))))) (pss_one (ps_ret pe_bl)) pss_nil)
 (pss_one (ps_if (pt_not (pt_val (pe_call GR hr (by rfl) TR.gLim TR.FLim.kp TR.bLim .nil pass0 (pa_cons (pv 1) (pa_cons (pv 11) (pa_cons (pe_callB call_len_seq (by rfl) T.len PySem.boot_len (pa_cons (pv 8) pa_nil)) pa_nil)))))) (pss_one (ps_ret pe_bl)) pss_nil))))))))))))
 (Evl.pss_cut (ps_set (i := 9) scLaw.nd rfl (.inl rfl) (pe_lst (pa_cons pe_non (pa_cons pe_str (pa_cons (pe_slice sl_tupA (pv 11) po_none (po_some pe_int)) (pa_cons (pe_ix ix_tup (pv 11) pe_int (fun _ _ => rfl)) (pa_cons (pe_callTy call_list_of (by rfl) T.list (by decide +kernel) (pa_cons (pv 11) pa_nil)) (pa_cons (pe_op op_catA (pe_tup (pa_cons pe_int pa_nil)) (pe_slice sl_tupA (pv 11) (po_some pe_int) po_none)) (pa_cons (pe_tup (pa_cons (pv 4) (pa_cons (pv 3) (pa_cons (pe_tup pa_nil) pa_nil)))) pa_nil)))))))))
 (Evl.pss_cut (ps_set (i := 10) scLaw.nd rfl (.inr rfl) (pe_call GPK hr (by rfl) TP.gPick TP.FPick.kp TP.bPick .nil pass0 (pa_cons (pv 1) (pa_cons (pv 9) pa_nil))))
 (Evl.pss_cut (ps_if (PW.pt (pw_or (pt_cmpR op_ne (pe_callB (call_reprR hgd hu) (by rfl) T.repr (by decide +kernel) (pa_cons (pv 11) pa_nil)) (pv 5) (nomark _)) (pw_or1 (pt_cmpR op_ne (LamX.pe_lamcall (T := TL2 P1 P2) (a := "act") (by rfl) TW.gWord TW.FWord.kp lkW cgW TW.bWord scWord (by rfl) (.inl rfl) (word_gives TE) hTB1 rfl hT1 hT2 hr (show LamX.LamS (defScope sLaw) _ from LamX.lamS_by (by decide +kernel)) rfl (fun _ _ _ _ _ => rfl) (fun A outer s H E f c1 hr2 => (pe_call GLD2 hr2 (by rfl) TLE.gLed TLE.FLed.kp bLd vLd (passes_call (takes_of rfl rfl rfl rfl) (fun _ _ _ _ h => h)) (pa_cons (pv 10) pa_nil)))) pe_str (nomark _))))) (pss_one (ps_ret pe_bl)) pss_nil)
 (pss_one (ps_if (pt_cmpR op_ne (LamX.pe_lamcall (T := TL2 P1 P2) (a := "act") (by rfl) TW.gWord TW.FWord.kp lkW cgW TW.bWord scWord (by rfl) (.inl rfl) (word_gives TE) hTB1 rfl hT1 hT2 hr (show LamX.LamS (defScope sLaw) _ from LamX.lamS_by (by decide +kernel)) rfl (fun _ _ _ _ _ => rfl) (fun A outer s H E f c1 hr2 => (pe_call GLF2 hr2 (by rfl) TLE.gLacksOf TLE.FLacksOf.kp bLf vLf (passes_call (takes_of rfl rfl rfl rfl) (fun _ _ _ _ h => h)) (pa_cons (pv 10) pa_nil)))) pe_str (nomark _)) (pss_one (ps_ret pe_bl)) pss_nil))))))))))
 (pss_one (ps_ret pe_bl)))), ?_⟩
    have h9 : ∀ {m : Nat}, m ≤ 9 → m ≤ sizeLine := fun h => Nat.le_trans h (by decide)
    refine ⟨_, rfl, a, ns, rfl, hS, hl63, fun H0 p s0 np hP0 => ?_⟩
    have hT0 : LamX.Tabs (TL2 P1 P2) H0 := fun x hx => by
      simp only [TL2, List.mem_cons, List.not_mem_nil, or_false] at hx
      rcases hx with rfl | rfl
      · exact LamX.TabS.nil (s0 _ _ hT)
      · exact LamX.TabS.nil (s0 _ _ hT')
    clear hT hT'
    refine ⟨2, rfl, by decide, by decide, for_range (lo := 0) (n := 2) (fun i σ H' => ∃ v2 v3 v4 v5 v6 v7 v8 v9 v10 v11 v12 v13 : Option V, σ = [some (.ref a), some (.ref p), v2, v3, v4, v5, v6, v7, v8, v9, v10, v11, v12, v13] ∧ Pen H' p (200 * i) ∧ LamX.Tabs (TL2 P1 P2) H')
      ⟨none, none, none, none, none, none, none, none, none, none, none, none, rfl, hP0, hT0⟩ ?_ ?_⟩
    · rintro i σ H hi ⟨v2, v3, v4, v5, v6, v7, v8, v9, v10, v11, v12, v13, rfl, hP, hT⟩
      refine ⟨fun σ H' => ∃ (z : Str) (b : Int), σ = [some (.ref a), some (.ref p), some (.int (0 + (i : Int))), some (.str z), some (.int b), v5, v6, v7, v8, v9, v10, v11, v12, v13] ∧ Pen H' p (200 * i + 5) ∧ LamX.Tabs (TL2 P1 P2) H' ∧ lettersL z.cps.toList = true ∧ 2 ≤ b ∧ b ≤ 9, ?_, ?_⟩
      · refine ⟨_, rfl, p, _, rfl, hP, by omega, fun H1 z b1 hP1 hl => ⟨_, rfl, h9 (by simp), fun L hL => ?_⟩⟩
        have xL := same_upd (o := HO.lst [V.int 2, .int 2, .int 3, .int 5, .int 9]) hL
        have hPL := hP1.same xL
        refine ⟨p, L, _, _, rfl, hPL, by omega, SqL.of upd_same, new_ne hP1 hL, (by show 0 < 5; decide), (by show 5 ≤ 1000; decide), fun H2 m v b2 hP2 hm => ?_⟩
        have hv : ∃ g : Int, v = .int g ∧ 2 ≤ g ∧ g ≤ 9 := by
          match m, hm with
          | 0, hm => exact ⟨2, (Option.some.inj hm).symm, by decide, by decide⟩
          | 1, hm => exact ⟨2, (Option.some.inj hm).symm, by decide, by decide⟩
          | 2, hm => exact ⟨3, (Option.some.inj hm).symm, by decide, by decide⟩
          | 3, hm => exact ⟨5, (Option.some.inj hm).symm, by decide, by decide⟩
          | 4, hm => exact ⟨9, (Option.some.inj hm).symm, by decide, by decide⟩
          | m + 5, hm => exact absurd hm (by simp)
        obtain ⟨g, rfl, g2, g9⟩ := hv
        exact ⟨_, _, rfl, z, g, rfl, hP2, tabs_pen (tabs_same (tabs_pen hT hP b1) xL) hPL b2, hl, g2, g9⟩
      rintro σ H ⟨z, b, rfl, hP, hT, hl, g2, g9⟩
      refine ⟨fun σ H' => ∃ (t : Addr) (d : PyData) (M : Mc), σ = [some (.ref a), some (.ref p), some (.int (0 + (i : Int))), some (.str M.z), some (.int M.b), v5, v6, v7, v8, v9, v10, some (.ref t), v12, v13] ∧ Pen H' p (200 * i + 125) ∧ LamX.Tabs (TL2 P1 P2) H' ∧ Rs p K H' (.ref t) d ∧ Side d M, ?_, ?_⟩
      · refine ⟨_, rfl, _, rfl, _, rfl, p, _, b, z, rfl, hP, by omega, hl, g2, g9, fun H1 t d M b1 hP1 nt r sd e1 e2 => ?_⟩
        subst e1 e2
        exact ⟨t, d, M, rfl, hP1, tabs_pen hT hP b1, rs_of hP1 r (side_tO sd), sd⟩
      rintro σ H ⟨t, d, M, rfl, hP, hT, hx, hsd⟩
      clear hl g2 g9
      have hM := hsd.1.ok
      have sid := hsd.sid
      have hF : Frame d M := ⟨hM, hsd.2.elim (fun h => .inl ⟨h.2, h.1⟩) fun h => .inr ⟨h.2.1, h.2.2.1, h.2.2.2.1⟩⟩
      have zs : M.z.length ≤ sizeLine := Nat.le_trans (ltr_pos hM.ltr).2 (by decide)
      refine ⟨fun σ H' => ∃ y6 : V, σ = [some (.ref a), some (.ref p), some (.int (0 + (i : Int))), some (.str M.z), some (.int M.b), some (.str d.shown), some y6, v7, v8, v9, v10, some (.ref t), v12, v13] ∧ Pen H' p (200 * i + 125) ∧ LamX.Tabs (TL2 P1 P2) H' ∧ Rs p K H' (.ref t) d ∧ ((y6 = .non ∧ ∃ n, 300 < (runE M n).1.length) ∨ ∃ (N : Nat) (tt u dl : Addr) (rs : List Addr), y6 = .ref tt ∧ Closed M N ∧ (runE M N).1.length ≤ 300 ∧ tt ≠ p ∧ dl ≠ p ∧ (∀ r ∈ rs, r ≠ p) ∧ H' tt = some (.tup [.ref u, .ref dl]) ∧ Rs p K H' (.ref u) (ledD M N) ∧ DL H' dl rs (runE M N).1), ?_, ?_⟩
      · obtain ⟨T0, sD⟩ := side_data sid
        refine ⟨_, rfl, .ref t, d, rfl, hx.rp, .inr (tO_nodict (sid_tO sid)), sD.sd.sh, Nat.le_trans sD.sd.dp (by decide), sD.sd.fits (by decide), _, rfl, .ref t, d, M, rfl, hx.rp, hsd, fun n H' g s => ?_, fun n H' tt u dl rs cl g s ht et ru hdl dL nr => ?_⟩
        · exact ⟨_, _, rfl, _, rfl, hP.same s, tabs_same hT s, hx.go (butN_same s), .inl ⟨rfl, n, g⟩⟩
        · have hP2 := hP.same s
          exact ⟨_, _, rfl, _, rfl, hP2, tabs_same hT s, hx.go (butN_same s), .inr ⟨n, tt, u, dl, rs, rfl, cl, g, new_ne hP ht, new_ne hP hdl, fun r hr => new_ne hP (nr r hr), et, rs_of hP2 ru (led_tO M n), dL⟩⟩
      rintro σ H ⟨y6, rfl, hP, hT, hx, hdue⟩
      refine ⟨fun σ H' => ∃ v7 v8 : Option V, σ = [some (.ref a), some (.ref p), some (.int (0 + (i : Int))), some (.str M.z), some (.int M.b), some (.str d.shown), some y6, v7, v8, v9, v10, some (.ref t), v12, v13] ∧ Pen H' p (200 * i + 140) ∧ LamX.Tabs (TL2 P1 P2) H' ∧ Rs p K H' (.ref t) d, ?_, ?_⟩
      · rcases hdue with ⟨rfl, N, gN⟩ | hdue
        · refine ⟨_, rfl, rfl, _, rfl, iteT ?_⟩
          have g0 : Go (TL2 P1 P2) p (200 * i + 125) H H := ⟨ButN.refl p H, hP, hT⟩
          refine ⟨fun σ H' => σ = [some (.ref a), some (.ref p), some (.int (0 + (i : Int))), some (.str M.z), some (.int M.b), some (.str d.shown), some .non, v7, v8, v9, v10, some (.ref t), v12, v13] ∧ Go (TL2 P1 P2) p (200 * i + 125) H H', ?_, ?_⟩
          · refine ⟨g0.2.2, fun Hb eb tb => tl_one rfl (led_great (hx.go (g0.ext eb tb).1).rp hF gN fun H3 s3 => ?_)⟩
            exact ⟨rfl, false, by rw [decide_eq_true rfl]; rfl, iteF ⟨rfl, (g0.ext eb tb).same s3⟩⟩
          rintro σ H1 ⟨rfl, g1⟩
          refine ⟨g1.2.2, fun Hb eb tb => tl_one rfl (lof_great (hx.go (g1.ext eb tb).1).rp hF gN fun H3 s3 => ?_)⟩
          have g3 := (g1.ext eb tb).same s3
          exact ⟨rfl, false, by rw [decide_eq_true rfl]; rfl, iteF ⟨_, _, rfl, g3.pen.mono (by omega), g3.2.2, hx.go g3.1⟩⟩
        · obtain ⟨N, tt, u, dl, rs, rfl, cl, few, ntt, ndl, nrs, ett, ru, dL⟩ := hdue
          have du : Du p K M N tt u dl rs H := ⟨ntt, ndl, nrs, ett, ru, dL⟩
          clear ntt ndl nrs ett ru dL
          refine ⟨_, rfl, rfl, _, rfl, iteF ?_⟩
          -- told
          refine ⟨fun σ H' => ∃ (l2 : Addr) (r2 : List Addr), σ = [some (.ref a), some (.ref p), some (.int (0 + (i : Int))), some (.str M.z), some (.int M.b), some (.str d.shown), some (.ref tt), some (.ref l2), v8, v9, v10, some (.ref t), v12, v13] ∧ Pen H' p (200 * i + 125) ∧ LamX.Tabs (TL2 P1 P2) H' ∧ Rs p K H' (.ref t) d ∧ Du p K M N tt u dl rs H' ∧ DL H' l2 r2 (runE M N).1 ∧ l2 ≠ p ∧ l2 ≠ tt ∧ l2 ≠ dl ∧ (∀ r ∈ r2, r ≠ p ∧ ¬ r ∈ rs), ?_, ?_⟩
          · refine ⟨_, rfl, .ref t, .int 300, d, .int 300, rfl, hx.rp, .int 300, .inr ⟨M, hF, .inr ⟨300, rfl, by decide, by decide, fun n H' g s => ?_, fun n H' l2 r2 cl2 g2 s hl2 dL2 nr2 => ?_⟩⟩⟩
            · have := closed_max cl n
              exact absurd g (by omega)
            · have b := butN_same (p := p) s
              have e := closed_uniq cl2 cl
              rw [e] at dL2
              refine ⟨l2, r2, rfl, hP.same s, tabs_same hT s, hx.go b, du.go b, dL2, new_ne hP hl2, fun z => ?_, fun z => ?_, fun r hr => ⟨new_ne hP (nr2 r hr), fun z => ?_⟩⟩
              · rw [z, du.ett] at hl2
                cases hl2
              · rw [z, du.dL.1] at hl2
                cases hl2
              · obtain ⟨D, eD⟩ := dl_some du.dL z
                rw [nr2 r hr] at eD
                cases eD
          rintro σ H ⟨l2, r2, rfl, hP, hT, hx, du, dL2, n2p, n2t, n2d, nr2⟩
          have lsid := led_sid hM cl few
          obtain ⟨T1, sD1⟩ := side_data lsid
          -- led
          refine ⟨fun σ H' => σ = [some (.ref a), some (.ref p), some (.int (0 + (i : Int))), some (.str M.z), some (.int M.b), some (.str d.shown), some (.ref tt), some (.ref l2), v8, v9, v10, some (.ref t), v12, v13] ∧ Go (TL2 P1 P2) p (200 * i + 125) H H', ?_, ?_⟩
          · refine ⟨_, rfl, .ref t, .int 300, d, .int 300, rfl, hx.rp, .int 300, .inr ⟨M, hF, .inr ⟨300, rfl, by decide, by decide, fun n H' g s => ?_, fun n H' t2 cl2 g2 s ht2 r2' => ?_⟩⟩⟩
            · have := closed_max cl n
              exact absurd g (by omega)
            · have e := closed_uniq cl2 cl
              have e2 : ledD M n = ledD M N := by
                unfold ledD
                rw [e]
              rw [e2] at r2'
              have du' := du.go (butN_same s)
              refine ⟨.ref t2, ledD M N, rfl, r2', .inr (tO_nodict (led_tO M N)), sD1.sd.sh, Nat.le_trans sD1.sd.dp (by decide), sD1.sd.fits (by decide), _, rfl, tt, _, 0, _, rfl, rfl, SqT.of du'.ett, rfl, .ref u, ledD M N, rfl, du'.ru.rp, .inr (tO_nodict (led_tO M N)), sD1.sd.sh, Nat.le_trans sD1.sd.dp (by decide), sD1.sd.fits (by decide), rfl, false, by rw [decide_eq_true rfl]; rfl, iteF ⟨rfl, butN_same s, hP.same s, tabs_same hT s⟩⟩
          rintro σ H1 ⟨rfl, g1⟩
          have lrs : rs.length = (runE M N).1.length := Paired.length du.dL.2
          have lr2 : r2.length = (runE M N).1.length := Paired.length dL2.2
          have nr2p : ∀ r ∈ r2, r ≠ p := fun r hr => (nr2 r hr).1
          have tw := twin_run cl N
          have tcl := twin_closed cl
          have tF : (runE M N).1.length < 60 → Frame (ledD M N) (plM M.b M.z (runE M N).2) := fun l => by
            have s := led_side (K := K) hM cl (by omega)
            exact ⟨s.1.ok, s.2.elim (fun h => .inl ⟨h.2, h.1⟩) fun h => .inr ⟨h.2.1, h.2.2.1, h.2.2.2.1⟩⟩
          have tlen : (runE (plM M.b M.z (runE M N).2) N).1.length = (runE M N).1.length := by
            rw [tw]
            exact sgl_len _
          -- led of the led machine
          refine ⟨fun σ H' => σ = [some (.ref a), some (.ref p), some (.int (0 + (i : Int))), some (.str M.z), some (.int M.b), some (.str d.shown), some (.ref tt), some (.ref l2), v8, v9, v10, some (.ref t), v12, v13] ∧ Go (TL2 P1 P2) p (200 * i + 125) H H', ?_, ?_⟩
          · have d1 := du.go g1.1
            refine ⟨_, rfl, tt, _, 1, _, rfl, rfl, SqT.of d1.ett, rfl, dl, _, rfl, .inl (SqL.of d1.dL.1), _, _, rfl, rfl, _, rfl, ite2 (fun u60 => ?_) (fun u60 => ⟨rfl, g1⟩)⟩
            have l60 : (runE M N).1.length < 60 := by
              have := of_decide_eq_true u60
              rw [List.length_map, lrs] at this
              omega
            refine ⟨_, rfl, tt, _, 0, _, rfl, rfl, SqT.of d1.ett, rfl, .ref u, .int 300, ledD M N, .int 300, rfl, d1.ru.rp, .int 300, .inr ⟨_, tF l60, .inr ⟨300, rfl, by decide, by decide, fun n H' g s => ?_, fun n H' t3 cl3 g3 s ht3 r3 => ?_⟩⟩⟩
            · have := closed_max tcl n
              exact absurd g (by omega)
            · have e := closed_uniq cl3 tcl
              have e2 : ledD (plM M.b M.z (runE M N).2) n = ledD M N := by
                unfold ledD
                rw [e, tw]
                rfl
              rw [e2] at r3
              have d2 := d1.go (butN_same s)
              refine ⟨.ref t3, ledD M N, rfl, r3, .inr (tO_nodict (led_tO M N)), sD1.sd.sh, Nat.le_trans sD1.sd.dp (by decide), sD1.sd.fits (by decide), _, rfl, tt, _, 0, _, rfl, rfl, SqT.of d2.ett, rfl, .ref u, ledD M N, rfl, d2.ru.rp, .inr (tO_nodict (led_tO M N)), sD1.sd.sh, Nat.le_trans sD1.sd.dp (by decide), sD1.sd.fits (by decide), rfl, false, by rw [decide_eq_true rfl]; rfl, iteF ⟨rfl, g1.same s⟩⟩
          clear g1
          rintro σ H1 ⟨rfl, g1⟩
          have dk : ∀ D ∈ (runE M N).1, Dok M D := run_ok hM N
          refine ⟨fun σ H' => ∃ L : Addr, σ = [some (.ref a), some (.ref p), some (.int (0 + (i : Int))), some (.str M.z), some (.int M.b), some (.str d.shown), some (.ref tt), some (.ref l2), some (.ref L), v9, v10, some (.ref t), v12, v13] ∧ Go (TL2 P1 P2) p (200 * i + 125) H H' ∧ L ≠ p ∧ L ≠ l2 ∧ (∀ r ∈ r2, r ≠ L) ∧ H' L = some (.lst (linesV (runE M N).1)), ?_, ?_⟩
          · have d1 := du.go g1.1
            refine ⟨_, rfl, tt, _, 1, _, rfl, rfl, SqT.of d1.ett, rfl, dl, rfl, ⟨_, SqL.of d1.dL.1⟩, fun D nD => ?_⟩
            refine lc_it (walk_list (K := K) (a := dl) (xs := rs.map V.ref)) (fun j H' => Same H1 H' ∧ H' D = some (.lst (linesV ((runE M N).1.take j)))) ⟨same_upd nD, upd_same⟩ (fun _ _ _ h => SqL.of (h.1 _ _ d1.dL.1)) ?_ ?_
            · rintro j x H2 H3 hj ⟨sm, hD⟩ ⟨rfl, hx⟩
              rw [List.getElem?_map] at hx
              obtain ⟨r, hr, rfl⟩ := Option.map_eq_some_iff.mp hx
              obtain ⟨Dj, e1, e2⟩ := LiI.paired_get d1.dL.2 hr
              obtain ⟨n1, n2, n3, n4⟩ := dok_lines hM (dk Dj (List.mem_of_getElem? e1))
              refine ⟨rfl, _, rfl, r, Dj, rfl, sm _ _ e2, n1, n2, n3, n4, fun H4 s4 => ⟨_, s4 _ _ hD, ?_, same_new (sm.trans s4) nD, ?_⟩⟩
              · rw [linesV, List.length_map, List.length_take]
                exact Nat.lt_of_le_of_lt (show _ ≤ 300 by omega) (by decide)
              · rw [upd_same, linesV, linesV, List.take_succ, e1, List.map_append]
                rfl
            · rintro H2 ⟨sm, hD⟩
              rw [List.length_map, lrs, List.take_length] at hD
              have b1 := g1.1
              have dL3 := dl_go dL2 n2p nr2p b1
              refine ⟨D, rfl, g1.same sm, new_ne g1.pen nD, fun z => ?_, fun r hr z => ?_, hD⟩
              · rw [z, dL3.1] at nD
                cases nD
              · obtain ⟨Dr, er⟩ := dl_some dL3 hr
                rw [z, nD] at er
                cases er
          clear g1
          rintro σ H1 ⟨L, rfl, g1, nLp, nL2, nLr, eL⟩
          have linesM : linesV (runE M N).1 = ((runE M N).1.map linesD).map V.str := by
            unfold linesV
            rw [List.map_map]
            rfl
          -- told is a list, its lines
          refine ⟨fun σ H' => σ = [some (.ref a), some (.ref p), some (.int (0 + (i : Int))), some (.str M.z), some (.int M.b), some (.str d.shown), some (.ref tt), some (.ref l2), some (.ref L), v9, v10, some (.ref t), v12, v13] ∧ Go (TL2 P1 P2) p (200 * i + 125) H H' ∧ H' L = some (.lst (linesV (runE M N).1)), ?_, ?_⟩
          · have d1 := dl_go dL2 n2p nr2p g1.1
            refine ⟨_, rfl, .ref l2, .ty "list", .type "list", .type "list", true, rfl, .ty "list", ?_, ?_, ?_⟩
            · exact .base (.lst d1.1)
            · exact kit_ty (by decide +kernel)
            refine ⟨true, rfl, iteF ?_⟩
            refine ⟨_, rfl, l2, rfl, ⟨_, SqL.of d1.1⟩, fun D nD => ?_⟩
            refine lc_it (walk_list (K := K) (a := l2) (xs := r2.map V.ref)) (fun j H' => Same H1 H' ∧ H' D = some (.lst (linesV ((runE M N).1.take j)))) ⟨same_upd nD, upd_same⟩ (fun _ _ _ h => SqL.of (h.1 _ _ d1.1)) ?_ ?_
            · rintro j x H2 H3 hj ⟨sm, hD⟩ ⟨rfl, hx⟩
              rw [List.getElem?_map] at hx
              obtain ⟨r, hr, rfl⟩ := Option.map_eq_some_iff.mp hx
              obtain ⟨Dj, e1, e2⟩ := LiI.paired_get d1.2 hr
              obtain ⟨n1, n2, n3, n4⟩ := dok_lines hM (dk Dj (List.mem_of_getElem? e1))
              refine ⟨rfl, _, rfl, r, Dj, rfl, sm _ _ e2, n1, n2, n3, n4, fun H4 s4 => ⟨_, s4 _ _ hD, ?_, same_new (sm.trans s4) nD, ?_⟩⟩
              · rw [linesV, List.length_map, List.length_take]
                exact Nat.lt_of_le_of_lt (show _ ≤ 300 by omega) (by decide)
              · rw [upd_same, linesV, linesV, List.take_succ, e1, List.map_append]
                rfl
            · rintro H2 ⟨sm, hD⟩
              rw [List.length_map, lr2, List.take_length, linesM] at hD
              have eL2 := sm _ _ eL
              exact ⟨_, rfl, D, L, _, rfl, rfl, SqL.of hD, SqL.of (linesM ▸ eL2), false, rfl, iteF ⟨rfl, g1.same sm, eL2⟩⟩
          clear g1 eL
          rintro σ H1 ⟨rfl, g1, eL⟩
          have hA : Rp K H1 (.ref t) d := (hx.go g1.1).rp
          have tOd := sid_tO sid
          have duA := du.go g1.1
          have dLA := dl_go dL2 n2p nr2p g1.1
          have pos2 : 0 < r2.length := by
            have := run_pos M N
            omega
          refine ⟨fun σ H' => σ = [some (.ref a), some (.ref p), some (.int (0 + (i : Int))), some (.str M.z), some (.int M.b), some (.str d.shown), some (.ref tt), some (.ref l2), some (.ref L), v9, v10, some (.ref t), v12, v13] ∧ Pen H' p (200 * i + 126) ∧ LamX.Tabs (TL2 P1 P2) H' ∧ Rs p K H' (.ref t) d ∧ Du p K M N tt u dl rs H' ∧ H' l2 = some (.lst (r2.map V.ref)) ∧ H' L = some (.lst (linesV (runE M N).1)), ?_, ?_⟩
          · refine ⟨_, rfl, _, rfl, _, rfl, l2, _, rfl, .inl (SqL.of dLA.1), p, _, _, rfl, g1.pen, by omega, (by rw [List.length_map]; omega), log_small (m := 300) (by rw [List.length_map]; omega) (by decide), fun Ha k ba hPa k0 k1 => ?_⟩
            rw [List.length_map] at k1
            have dLB := dl_go dLA n2p nr2p (butN_but ba)
            have tB := tabs_pen g1.2.2 g1.pen ba
            have duB := duA.go (butN_but ba)
            have hB := rp_ts (ts_butN g1.pen (butN_but ba)) hA tOd
            have eLB := ba _ _ nLp eL
            obtain ⟨r, hr⟩ : ∃ r, r2[k.toNat]? = some r := ⟨_, List.getElem?_eq_getElem (by omega)⟩
            obtain ⟨Dr, e1, e2⟩ := LiI.paired_get dLB.2 hr
            have mr := List.mem_of_getElem? hr
            obtain ⟨nrp, nrs2⟩ := nr2 r mr
            refine ⟨l2, _, k, .ref r, rfl, rfl, SqL.of dLB.1, ?_, .inr (.inr (.inl ⟨rfl, .inl ⟨_, e2⟩⟩)), r, _, rfl, rfl, e2, rfl, ?_, ?_, ?_, ?_, ?_, ?_⟩
            · have ek : k = ((k.toNat : Nat) : Int) := by omega
              rw [ek]
              exact atI_nat (by rw [List.getElem?_map, hr]; rfl)
            · exact pen_upd (hPa.mono (by omega)) nrp e2 (fun _ z => nomatch z)
            · exact tabs_upd tB e2 (fun _ z => nomatch z) (fun _ _ z => nomatch z)
            · exact rs_of (pen_upd hPa nrp e2 (fun _ z => nomatch z)) (rp_ts (ts_upd e2 (fun _ z => nomatch z) (fun _ _ z => nomatch z)) hB tOd) tOd
            · exact ⟨duB.ntt, duB.ndl, duB.nrs, by rw [upd_ne (ne_of duB.ett e2 (fun z => nomatch z))]; exact duB.ett, rs_of (pen_upd hPa nrp e2 (fun _ z => nomatch z)) (rp_ts (ts_upd e2 (fun _ z => nomatch z) (fun _ _ z => nomatch z)) duB.ru.rp (led_tO M N)) (led_tO M N), by rw [upd_ne (ne_of duB.dL.1 e2 (fun z => nomatch z))]; exact duB.dL.1, paired_on duB.dL.2 fun r' hr' D e => by
              have nn : r' ≠ r := fun z => nrs2 (by rw [← z]; exact hr')
              rw [upd_ne nn]
              exact e⟩
            · rw [upd_ne (ne_of dLB.1 e2 (fun z => nomatch z))]
              exact dLB.1
            · rw [upd_ne (ne_of eLB e2 (fun z => nomatch z))]
              exact eLB
          clear g1 eL hA duA dLA
          clear du dL2 hx hP hT
          rintro σ H2 ⟨rfl, hP, hT, hx, du, eL2, eL⟩
          -- told.pop()
          refine ⟨fun σ H' => σ = [some (.ref a), some (.ref p), some (.int (0 + (i : Int))), some (.str M.z), some (.int M.b), some (.str d.shown), some (.ref tt), some (.ref l2), some (.ref L), v9, v10, some (.ref t), v12, v13] ∧ Pen H' p (200 * i + 126) ∧ LamX.Tabs (TL2 P1 P2) H' ∧ Rs p K H' (.ref t) d ∧ Du p K M N tt u dl rs H' ∧ H' L = some (.lst (linesV (runE M N).1)), ?_, ?_⟩
          · obtain ⟨rz, hrz⟩ : ∃ rz, (r2.map V.ref)[(r2.map V.ref).length - 1]? = some rz := ⟨_, List.getElem?_eq_getElem (by rw [List.length_map]; omega)⟩
            have ni : ∀ is : List Int, HO.lst (r2.map V.ref) ≠ .lst (is.map V.int) := fun is z => by
              cases r2 with
              | nil => simp at pos2
              | cons y ys =>
                cases is with
                | nil => cases z
                | cons j js => cases z
            have pz := pen_upd (o := .lst (r2.map V.ref).dropLast) hP n2p eL2 ni
            refine ⟨_, rfl, .inl ⟨rfl, _, SqL.of eL2⟩, l2, _, rz, rfl, rfl, eL2, hrz, rfl, pz, ?_, ?_, ?_, ?_⟩
            · exact tabs_upd hT eL2 (fun _ z => nomatch z) (fun _ _ z => nomatch z)
            · exact rs_of pz (rp_ts (ts_lst eL2) hx.rp tOd) tOd
            · exact ⟨du.ntt, du.ndl, du.nrs, by rw [upd_ne (ne_of du.ett eL2 (fun z => nomatch z))]; exact du.ett, rs_of pz (rp_ts (ts_lst eL2) du.ru.rp (led_tO M N)) (led_tO M N), by rw [upd_ne n2d.symm]; exact du.dL.1, paired_on du.dL.2 fun r' hr' D e => by rw [upd_ne (ne_of e eL2 (fun z => nomatch z))]; exact e⟩
            · rw [upd_ne nL2]
              exact eL
          clear eL2 eL hx hP hT du
          rintro σ H3 ⟨rfl, hP, hT, hx, du, eL⟩
          have g3 : Go (TL2 P1 P2) p (200 * i + 126) H3 H3 := ⟨ButN.refl p H3, hP, hT⟩
          have shL : SeqAt.shaped (ledD M N) = true := shp (sD1.canD lsid.1) (Nat.le_trans sD1.sd.dp (by decide))
          -- lacks_of anew, led compared
          refine ⟨fun σ H' => σ = [some (.ref a), some (.ref p), some (.int (0 + (i : Int))), some (.str M.z), some (.int M.b), some (.str d.shown), some (.ref tt), some (.ref l2), some (.ref L), v9, v10, some (.ref t), v12, v13] ∧ Go (TL2 P1 P2) p (200 * i + 126) H3 H', ?_, ?_⟩
          · refine ⟨_, rfl, .ref t, .int 300, d, .int 300, rfl, hx.rp, .int 300, .inr ⟨M, hF, .inr ⟨300, rfl, by decide, by decide, fun n H' g s => ?_, fun n H4 l3 r3 cl3 g4 s hl3 dL3 nr3 => ?_⟩⟩⟩
            · have := closed_max cl n
              exact absurd g (by omega)
            have e := closed_uniq cl3 cl
            rw [e] at dL3
            have lr3 : r3.length = (runE M N).1.length := Paired.length dL3.2
            refine ⟨l3, rfl, ⟨_, SqL.of dL3.1⟩, fun D nD => ?_⟩
            refine lc_it (walk_list (K := K) (a := l3) (xs := r3.map V.ref)) (fun j H' => Same H4 H' ∧ H' D = some (.lst (linesV ((runE M N).1.take j)))) ⟨same_upd nD, upd_same⟩ (fun _ _ _ h => SqL.of (h.1 _ _ dL3.1)) ?_ ?_
            · rintro j x H5 H6 hj ⟨sm, hD⟩ ⟨rfl, hx⟩
              rw [List.getElem?_map] at hx
              obtain ⟨r, hr, rfl⟩ := Option.map_eq_some_iff.mp hx
              obtain ⟨Dj, e1, e2⟩ := LiI.paired_get dL3.2 hr
              obtain ⟨n1, n2, n3, n4⟩ := dok_lines hM (dk Dj (List.mem_of_getElem? e1))
              refine ⟨rfl, _, rfl, r, Dj, rfl, sm _ _ e2, n1, n2, n3, n4, fun H7 s7 => ⟨_, s7 _ _ hD, ?_, same_new (sm.trans s7) nD, ?_⟩⟩
              · rw [linesV, List.length_map, List.length_take]
                exact Nat.lt_of_le_of_lt (show _ ≤ 300 by omega) (by decide)
              · rw [upd_same, linesV, linesV, List.take_succ, e1, List.map_append]
                rfl
            · rintro H5 ⟨sm, hD⟩
              rw [List.length_map, lr3, List.take_length, linesM] at hD
              have eL2 := sm _ _ (s _ _ eL)
              have s5 := s.trans sm
              refine ⟨_, rfl, D, L, _, rfl, rfl, SqL.of hD, SqL.of (linesM ▸ eL2), false, rfl, iteF ?_⟩
              refine ⟨_, rfl, .ref t, .int 300, d, .int 300, rfl, (hx.go (butN_same s5)).rp, .int 300, .inr ⟨M, hF, .inr ⟨300, rfl, by decide, by decide, fun n H' g s => ?_, fun n H6 t6 cl6 g6 s6 ht6 r6 => ?_⟩⟩⟩
              · have := closed_max cl n
                exact absurd g (by omega)
              have e6 : ledD M n = ledD M N := by
                unfold ledD
                rw [closed_uniq cl6 cl]
              rw [e6] at r6
              have du6 := du.go (butN_same (s5.trans s6))
              refine ⟨_, rfl, tt, _, 0, _, rfl, rfl, SqT.of du6.ett, rfl, ledD M N, ledD M N, r6.dp (tO_nodict (led_tO M N)), du6.ru.rp.dp (tO_nodict (led_tO M N)), shL, shL, false, by rw [PySem.SeqAt.eqv_refl _ (sD1.canD lsid.1)]; rfl, iteF ⟨rfl, g3.same (s5.trans s6)⟩⟩
          rintro σ H4 ⟨rfl, g4⟩
          -- lacks_of of the led machine
          refine ⟨fun σ H' => σ = [some (.ref a), some (.ref p), some (.int (0 + (i : Int))), some (.str M.z), some (.int M.b), some (.str d.shown), some (.ref tt), some (.ref l2), some (.ref L), v9, v10, some (.ref t), v12, v13] ∧ Go (TL2 P1 P2) p (200 * i + 126) H3 H', ?_, ?_⟩
          · have du4 := du.go g4.1
            have eL4 := g4.1 _ _ nLp eL (fun _ z => nomatch z)
            refine ⟨_, rfl, L, _, rfl, .inl (SqL.of eL4), _, _, rfl, rfl, _, rfl, ite2 (fun u60 => ?_) (fun u60 => ⟨rfl, g4⟩)⟩
            have l60 : (runE M N).1.length < 60 := by
              have := of_decide_eq_true u60
              rw [linesV, List.length_map] at this
              omega
            refine ⟨_, rfl, tt, _, 0, _, rfl, rfl, SqT.of du4.ett, rfl, .ref u, .int 300, ledD M N, .int 300, rfl, du4.ru.rp, .int 300, .inr ⟨_, tF l60, .inr ⟨300, rfl, by decide, by decide, fun n H' g s => ?_, fun n H5 l5 r5 cl5 g5 s5 hl5 dL5 nr5 => ?_⟩⟩⟩
            · have := closed_max tcl n
              exact absurd g (by omega)
            have e5 : (runE (plM M.b M.z (runE M N).2) n).1 = sgl (runE M N).1.length := by
              rw [closed_uniq cl5 tcl, tw]
            rw [e5] at dL5
            have lr5 : r5.length = (sgl (runE M N).1.length).length := Paired.length dL5.2
            have eL5 := s5 _ _ eL4
            refine ⟨_, rfl, L, _, rfl, .inl (SqL.of eL5), _, rfl, ?_, ?_, fun D nD => ?_⟩
            · rw [linesV, List.length_map]
              omega
            · rw [linesV, List.length_map]
              omega
            rw [linesV, List.length_map]
            refine lc_it walk_range (fun j H' => ∃ ts : List Addr, Same H5 H' ∧ H' D = some (.lst (ts.map V.ref)) ∧ Paired (fun (r : Addr) (E : Dk) => H' r = some (.dK (kd E))) ts (sgl j)) ⟨[], same_upd nD, upd_same, .nil⟩ (fun _ _ _ _ => trivial) ?_ ?_
            · rintro j x H6 H7 hj ⟨ts, sm, hD, pr⟩ ⟨rfl, rfl⟩
              have lts : ts.length = j := by
                have := Paired.length pr
                rw [sgl_len] at this
                exact this
              refine ⟨rfl, fun g hg => ⟨_, rfl, upd_same, [(Sum.inl ((0 : Int) + (j : Int)), .int 0)], rfl, (show 1 ≤ 15 by decide), ?_⟩⟩
              have ngD : D ≠ g := fun z => by
                rw [z, hg] at hD
                cases hD
              refine ⟨ts.map V.ref, by rw [upd_ne ngD, upd_ne ngD]; exact hD, ?_, ts ++ [g], fun b o e => ?_, by rw [upd_same, List.map_append]; rfl, ?_⟩
              · rw [List.length_map, lts]
                exact Nat.lt_of_lt_of_le (show j < 60 by omega) (by decide)
              · have e6 := sm _ _ e
                have nb : b ≠ g := fun z => by
                  rw [z, hg] at e6
                  cases e6
                have nbD : b ≠ D := fun z => by
                  rw [z, nD] at e
                  cases e
                rw [upd_ne nbD, upd_ne nb, upd_ne nb]
                exact e6
              · rw [sgl_succ]
                refine paired_snoc (paired_on pr fun r hr E e => ?_) ?_
                · have nr : r ≠ g := fun z => by
                    rw [z, hg] at e
                    cases e
                  have nrD : r ≠ D := fun z => by
                    rw [z, hD] at e
                    cases e
                  rw [upd_ne nrD, upd_ne nr, upd_ne nr]
                  exact e
                · rw [upd_ne ngD.symm, upd_same, Int.zero_add]
                  rfl
            · rintro H6 ⟨ts, sm, hD, pr⟩
              have dL6 := dl_go dL5 (fun z => by
                rw [z] at hl5
                exact absurd hl5 (by
                  obtain ⟨ys, e⟩ := g4.pen.ls
                  rw [e]
                  exact fun z => nomatch z)) (fun r hr z => by
                have := nr5 r hr
                rw [z] at this
                obtain ⟨ys, e⟩ := g4.pen.ls
                rw [e] at this
                cases this) (butN_same (p := p) sm)
              exact ⟨l5, D, r5, ts, sgl (runE M N).1.length, rfl, rfl, SqL.of dL6.1, SqL.of hD, dL6.2, pr, (fun E hE => by
                obtain ⟨q, _, rfl⟩ := List.mem_map.mp hE
                simp [keysI]), false, rfl, iteF ⟨rfl, (g4.same s5).same sm⟩⟩
          rintro σ H5 ⟨rfl, g5⟩
          have hx5 := hx.go g5.1
          have eL5 := g5.1 _ _ nLp eL (fun _ z => nomatch z)
          refine ⟨_, rfl, _, rfl, _, rfl, L, _, rfl, .inl (SqL.of eL5), p, _, .ref t, d, M, N, (by rw [linesV, List.length_map]; rfl), g5.pen, by omega, hx5, hF, sid, cl, few, g5.2.2, fun H6 b6 hP6 hT6 => ?_⟩
          exact ⟨true, rfl, iteF ⟨_, _, rfl, hP6.mono (by omega), hT6, hx5.go b6⟩⟩
      clear hdue
      rintro σ H ⟨w7, w8, rfl, hP, hT, hx⟩
      obtain ⟨T0, sD⟩ := side_data sid
      refine ⟨fun σ H' => ∃ (S : Addr) (xs : List V), σ = [some (.ref a), some (.ref p), some (.int (0 + (i : Int))), some (.str M.z), some (.int M.b), some (.str d.shown), some y6, w7, w8, some (.ref S), v10, some (.ref t), v12, v13] ∧ Pen H' p (200 * i + 140) ∧ LamX.Tabs (TL2 P1 P2) H' ∧ Rs p K H' (.ref t) d ∧ S ≠ p ∧ H' S = some (.lst xs) ∧ xs.length = 7 ∧ ∀ v ∈ xs, ∃ e, Rs p K H' v e ∧ OneOk e, ?_, ?_⟩
      · have h0 := hx.rp
        rw [sD.eq] at h0
        obtain ⟨ta, w3, eta, hS0, r30⟩ := h0.three
        cases eta
        refine ⟨_, rfl, _, rfl, sl_any (K := K) hS0 fun r1 H1 s1 hr1 => ?_⟩
        refine ⟨_, rfl, t, _, 2, _, rfl, rfl, same_tup s1 hS0, rfl, ?_⟩
        refine ⟨_, rfl, t, _, rfl, .inr (same_tup s1 hS0), fun L1 hL1 => ?_⟩
        have x1 := same_upd (o := HO.lst [V.int M.b, .str M.z, w3]) hL1
        have e1 : (upd H1 L1 (.lst [V.int M.b, .str M.z, w3])) L1 = some (.lst [V.int M.b, .str M.z, w3]) := upd_same
        have nL1 := new_ne (hP.same s1) hL1
        generalize upd H1 L1 (.lst [V.int M.b, .str M.z, w3]) = H2 at x1 e1 ⊢
        refine ⟨h9 (by simp), fun a6 h6 => ?_⟩
        have x2 := same_upd (o := HO.tup [V.int 1]) h6
        have y6' : (upd H2 a6 (.tup [V.int 1])) a6 = some (.tup [V.int 1]) := upd_same
        generalize upd H2 a6 (.tup [V.int 1]) = H3 at x2 y6' ⊢
        have x13 := (s1.trans x1).trans x2
        refine ⟨_, rfl, _, rfl, sl_anyN (K := K) (same_tup x13 hS0) fun r2' H4 x4 hr2 => ?_⟩
        refine cat_any (K := K) (SqT.of (x4 _ _ y6')) hr2 (by show 1 + 2 ≤ sizeLine; decide) fun r3' H5 x5 hr3 => ?_
        refine ⟨_, rfl, _, rfl, h9 (by simp), fun a7 h7 => ⟨h9 (by simp), fun a8 h8 => ⟨h9 (by simp), fun S hS => ?_⟩⟩⟩
        have x7 := same_upd (o := HO.tup []) h7
        have x8 := same_upd (o := HO.tup [V.int M.b, .str M.z, .ref a7]) h8
        have e7 := x8 _ _ (upd_same (H := H5) (a := a7) (o := HO.tup []))
        have e8 : (upd (upd H5 a7 (.tup [])) a8 (.tup [V.int M.b, .str M.z, .ref a7])) a8 = some (.tup [V.int M.b, .str M.z, .ref a7]) := upd_same
        have x58 := x7.trans x8
        generalize upd (upd H5 a7 (.tup [])) a8 (.tup [V.int M.b, .str M.z, .ref a7]) = H8 at x58 e7 e8 hS ⊢
        have xS := same_upd (o := HO.lst [.non, .str "", .ref r1, w3, .ref L1, .ref r3', .ref a8]) hS
        have xz := (((x13.trans x4).trans x5).trans x58).trans xS
        have nS := new_ne (hP.same (((x13.trans x4).trans x5).trans x58)) hS
        have hPz := hP.same xz
        have r3z := rp_ts (ts_same xz) r30 sD.tO
        have rz : ∀ H', Rp K H' (.str M.z) (.str M.z) := fun H' => .str _ zs
        have hT3 : tO (.tuple T0) = true := sD.tO
        refine ⟨S, _, rfl, hPz, tabs_same hT xz, hx.go (butN_same xz), nS, upd_same, rfl, fun v hv => ?_⟩
        simp only [List.mem_cons, List.not_mem_nil, or_false] at hv
        rcases hv with rfl | rfl | rfl | rfl | rfl | rfl | rfl
        · exact ⟨.none, rs_non, one_non⟩
        · exact ⟨.str "", rs_str "" (by decide), one_str⟩
        · exact ⟨_, rs_of hPz (.tup (same_tup ((((x1.trans x2).trans x4).trans x5).trans (x58.trans xS)) hr1) (.cons (.int _) (.cons (rz _) .nil))) (by simp [tO, tOs]), one_two sD hM⟩
        · exact ⟨_, rs_of hPz r3z hT3, one_tab sD⟩
        · exact ⟨_, rs_lst nL1 ((((x2.trans x4).trans x5).trans (x58.trans xS)) _ _ e1) (.cons (rs_int _) (.cons (rs_str _ zs) (.cons (rs_of hPz r3z hT3) rsNil))), one_list sD hM⟩
        · exact ⟨_, rs_of hPz (.tup (same_tup (x58.trans xS) hr3) (.cons (.int 1) (.cons (rz _) (.cons r3z .nil)))) (by simp only [tO, tOs] at hT3 ⊢; simp [hT3]), one_one sD hM⟩
        · exact ⟨_, rs_of hPz (.tup (SqT.of (xS _ _ e8)) (.cons (.int _) (.cons (rz _) (.cons (.tup (SqT.of (xS _ _ e7)) .nil) .nil)))) (by simp [tO, tOs]), one_bare hM.ltr⟩
      rintro σ H ⟨S, xs, rfl, hP, hT, hx, nS, hS, l7, hB⟩
      refine ⟨fun σ H' => ∃ (y : V) (e : PyData), σ = [some (.ref a), some (.ref p), some (.int (0 + (i : Int))), some (.str M.z), some (.int M.b), some (.str d.shown), some y6, w7, w8, some (.ref S), some y, some (.ref t), v12, v13] ∧ Pen H' p (200 * i + 141) ∧ LamX.Tabs (TL2 P1 P2) H' ∧ Rs p K H' (.ref t) d ∧ Rs p K H' y e ∧ OneOk e, ?_, ?_⟩
      · refine ⟨_, rfl, _, rfl, p, S, xs, _, rfl, hP, by omega, SqL.of hS, nS, by omega, by omega, fun H2 m v b2 hP2 hm => ?_⟩
        obtain ⟨e, he, re⟩ := hB v (List.mem_of_getElem? hm)
        exact ⟨v, e, rfl, hP2, tabs_pen hT hP b2, hx.go (butN_but b2), he.go (butN_but b2), re⟩
      clear hB hS l7 nS
      rintro σ H ⟨y, e, rfl, hP, hT, hx, hy, ok1⟩
      have g0 : Go (TL2 P1 P2) p (200 * i + 141) H H := ⟨ButN.refl p H, hP, hT⟩
      refine ⟨fun σ H' => σ = [some (.ref a), some (.ref p), some (.int (0 + (i : Int))), some (.str M.z), some (.int M.b), some (.str d.shown), some y6, w7, w8, some (.ref S), some y, some (.ref t), v12, v13] ∧ Go (TL2 P1 P2) p (200 * i + 141) H H', ?_, ?_⟩
      · refine ⟨_, rfl, .ref t, d, rfl, hx.rp, .inr (tO_nodict (sid_tO sid)), sD.sd.sh, Nat.le_trans sD.sd.dp (by decide), sD.sd.fits (by decide), _, rfl, rfl, false, by rw [decide_eq_true rfl]; rfl, iteF ?_⟩
        refine ⟨g0.2.2, fun Hb eb tb => tl_one rfl (led_none (hy.go (g0.ext eb tb).1).rp (.int 300) ok1.m ok1.p fun H3 s3 => ?_)⟩
        exact ⟨rfl, false, by rw [decide_eq_true rfl]; rfl, iteF ⟨rfl, (g0.ext eb tb).same s3⟩⟩
      rintro σ H1 ⟨rfl, g1⟩
      refine ⟨g1.2.2, fun Hb eb tb => tl_one rfl (lof_none (hy.go (g1.ext eb tb).1).rp (.int 300) ok1.m ok1.p fun H3 s3 => ?_)⟩
      have g3 := (g1.ext eb tb).same s3
      exact ⟨rfl, false, by rw [decide_eq_true rfl]; rfl, iteF ⟨_, _, _, _, _, _, _, _, _, _, _, _, rfl, g3.pen.mono (by omega), g3.2.2⟩⟩
    · rintro σ H ⟨v2, v3, v4, v5, v6, v7, v8, v9, v10, v11, v12, v13, rfl, hP, hT⟩
      exact q H
end
end My
/-! ### the end of a law that shows data, with any tables of lambdas -/
namespace My
open PySem PySem.Spec PyProof.Rows L2
theorem tbls_at {Ps : List (Addr × Addr)} {b : Addr} (h : b ∈ Ps.map Prod.snd) : ∃ c, (c, b) ∈ Ps := by
  obtain ⟨q, hq, rfl⟩ := List.mem_map.mp h
  exact ⟨q.1, hq⟩
/-- the law's call at the head: the script and tables of code objects are tracked -/
theorem law_callGL {P : Program} {w : World} {K : PySem.W.Frag} {mg mb : Str → Option Value} {CX : CXT} {k : Nat} {fa a : Addr} {Ps : List (Addr × Addr)} {fd : FuncData} {x : Str} {sp : Sp} {st : Shared} {vs : List Value} {ns : List Int}
    (KX : K.In st.heap) (hns : st.heap.Ns mainGlobals mg) (hb : st.heap.Ns builtinsNs mb) (hbb : ∀ x : Str, x ≠ "__name__" → mb x = bootBuiltins x) (hlim : st.heap.NoLimit) (hg : st.gens = #[])
    (tP : ∀ q ∈ Ps, st.heap.get? q.2 = some { cls := .none, data := .fields #[] }) (kP : ∀ q ∈ Ps, K.lookup q.2 = none) (cP : ∀ q ∈ Ps, PySem.W.CodeHd st.heap q.1 q.2)
    (bP : ∃ (bm : Addr) (ob : Obj), mg "__builtins__" = some (.ref bm) ∧ bm ≠ builtinsNs ∧ st.heap.get? bm = some ob ∧ ob.cls = .type "module" ∧ ob.dict = some builtinsNs ∧ ob.data = .plain)
    (ha : st.heap.get? a = some { cls := .type "list", data := .seq vs.toArray }) (hi : IntsAre vs ns) (hl : ns.length ≤ sizeLine) (hr : Room k callerA)
    (F : ∀ base : Heap, K.In base → base.Ns mainGlobals mg → (∀ q ∈ Ps, LamX.TabB base mg q.1 q.2) → FnG P w K mg base CX k fa fd [x] sp)
    (hbind : ∀ (s : Shared) (u : Value), BindsTo s fd ⟨[u], []⟩ [(x, u)])
    (hsp : ∀ H : Hp, (∀ q ∈ Ps, H q.2 = some (.tbl #[])) → SqL K H a (ns.map V.int) → sp [.ref a] H (fun v _ => v = .bl true) fun _ _ _ => False)
    (hCX : ∀ H e s', CX [] H st (fun _ _ _ => False) e s' → False) :
    codeAny (model P w) callerA (.call (.ref fa) ⟨[.ref a], []⟩) (fun r s' => r = .ok (.ret (.bool true)) ∧ OldK st.heap s'.heap ∧ s'.os = st.os ∧ AllBare s'.gens) st := by
  have vints := vals_ints hi
  have vlen := hi.length
  have tB : ∀ b, b ∈ Ps.map Prod.snd → st.heap.get? b = some { cls := .none, data := .fields #[] } := fun b hb => by
    obtain ⟨q, hq, rfl⟩ := List.mem_map.mp hb
    exact tP q hq
  have naP : a ∉ Ps.map Prod.snd := fun z => by
    rw [tB a z] at ha
    cases ha
  have main : ∀ H : Hp, (∀ q ∈ Ps, H q.2 = some (.tbl #[])) → SqL K H a (ns.map V.int) → HOk P w H st.heap → (∀ b, b ≠ a → b ∉ Ps.map Prod.snd → H b = none) → (H a = none ∨ ∃ o xs, H a = some (.frz o (.lst xs))) → (K.lookup a = none ∨ H a = none) →
      codeAny (model P w) callerA (.call (.ref fa) ⟨[.ref a], []⟩) (fun r s' => r = .ok (.ret (.bool true)) ∧ OldK st.heap s'.heap ∧ s'.os = st.os ∧ AllBare s'.gens) st := by
    intro H hP scr hok off atA onK
    have untracked : ∀ b o, st.heap.get? b = some o → (∀ us n, o.data ≠ .seq us n) → o.data ≠ .fields #[] → H b = none := fun b o e n1 n2 => by
      by_cases z : b = a
      · rw [z, ha] at e
        cases e
        exact absurd rfl (n1 _ _)
      · by_cases y : b ∈ Ps.map Prod.snd
        · rw [tB b y] at e
          cases e
          exact absurd rfl n2
        · exact off b z y
    have dictFree : ∀ {b : Addr} {m : Str → Option Value}, st.heap.Ns b m → (hidT st.heap H).Ns b m := by
      rintro b m ⟨o, es, ep, e, d, r⟩
      refine ⟨o, es, ep, hidT_get e (untracked b o e (fun us n q => ?_) fun q => ?_), d, r⟩ <;> rw [d] at q <;> cases q
    have kIn : K.In (hidT st.heap H) := by
      intro b o e
      by_cases z : b = a
      · rcases onK with q | q
        · rw [z, q] at e
          cases e
        · exact hidT_get (KX b o e) (by rw [z]; exact q)
      · by_cases y : b ∈ Ps.map Prod.snd
        · obtain ⟨q, hq, rfl⟩ := List.mem_map.mp y
          rw [kP q hq] at e
          cases e
        · exact hidT_get (KX b o e) (off b z y)
    obtain ⟨mc, lim1, lim2⟩ := hlim
    have md : Mod K mg (hidT st.heap H) := ⟨kIn, dictFree hns, ⟨mb, dictFree hb, hbb⟩, ⟨mc, dictFree lim1, lim2⟩⟩
    have tb : ∀ q ∈ Ps, LamX.TabB (hidT st.heap H) mg q.1 q.2 := by
      intro q hq
      refine ⟨?_, ?_, fun z => ?_⟩
      · obtain ⟨c1, c2, c3, c4, c5, c6, c7, c8, c9, q1, q2, q3, q4, q5, q6, q7, q8, q9, q10⟩ := cP q hq
        refine ⟨c1, c2, c3, c4, c5, c6, c7, c8, c9, hidT_get q1 (untracked q.1 c1 q1 (fun us n q => ?_) fun q => ?_), q2, q3, q4, q5, q6, q7, q8, q9, q10⟩
        · rw [q3] at q
          cases q
        · rw [q3] at q
          cases q
          simp at q4
      · obtain ⟨m1, m2, q1, q2, q3, q4, q5, q6⟩ := bP
        have free : H m1 = none := untracked m1 m2 q3 (fun us n q => by rw [q6] at q; cases q) fun q => by rw [q6] at q; cases q
        refine ⟨m1, m2, q1, q2, fun z => ?_, fun z => ?_, hidT_get q3 free, q4, q5, q6⟩
        · obtain ⟨o, es, ep, e, d, _⟩ := hns
          rw [z, e] at q3
          cases q3
          rw [d] at q6
          cases q6
        · rw [z, hP q hq] at free
          cases free
      · obtain ⟨o, es, ep, e, d, _⟩ := hns
        rw [z, tP q hq] at e
        cases e
        cases d
    have e0 : Env0 P w K mg (hidT st.heap H) callerA [] st H :=
      { frames := rfl, mod := md, bs := fun b o e => of_hidT e, bsz := Nat.le_of_eq (hidT_size _ _), funs := trivial, frf := fun b z => (nomatch z), hok := hok, bare := .of_eq hg }
    have run := (F _ kIn (dictFree hns) tb).run callerA rfl hr [] st H ⟨[.ref a], []⟩ [.ref a] [.ref a] _ _ e0 (hbind st (.ref a)) (.cons rfl .nil) (hsp H hP scr)
    refine codeAny_mono run fun r s' h => ?_
    match r, h with
    | .error e, h => exact (hCX H e s' h).elim
    | .ok .next, h => exact h.elim
    | .ok .brk, h => exact h.elim
    | .ok .cont, h => exact h.elim
    | .ok (.ret u), h =>
      obtain ⟨v, H', os, bare, un, hok', rv, q⟩ := h
      obtain rfl : v = .bl true := q
      obtain rfl : u = Value.bool true := rv
      have stays : ∀ b o, b ∉ Ps.map Prod.snd → st.heap.get? b = some o → s'.heap.get? b = some o := fun b o nb e => by
        by_cases z : b = a
        · rcases atA with y | ⟨ob, ys, y⟩
          · rw [z] at e ⊢
            exact un.keep a o e y (fun z => nomatch z) (fun z => nomatch z)
          · have old := (hok a _ y).1
            rw [z] at e ⊢
            rw [e] at old
            cases old
            exact (hok' a _ (un.frzs a _ _ y)).1
        · exact un.keep b o e (off b z nb) (fun z => nomatch z) (fun z => nomatch z)
      have grow : ∀ q ∈ Ps, ∃ more, s'.heap.get? q.2 = some { cls := .none, data := .fields (#[] ++ more) } := fun q hq => by
        obtain ⟨more, grown⟩ := un.tbls q.2 #[] (hP q hq)
        exact ⟨more, hok' q.2 _ grown⟩
      refine ⟨rfl, ⟨fun b o e => ?_, fun b o e => ?_⟩, os, bare⟩
      · by_cases z : b ∈ Ps.map Prod.snd
        · obtain ⟨q, hq, rfl⟩ := List.mem_map.mp z
          obtain ⟨more, now⟩ := grow q hq
          rw [Array.empty_append] at now
          rw [tP q hq] at e
          cases e
          exact .inr (.inl ⟨((cP q hq).tab (tP q hq)).isCodeTable, rfl, #[], more, rfl, by rw [Array.empty_append]; exact now⟩)
        · exact .inl (stays b o z e)
      · by_cases z : b ∈ Ps.map Prod.snd
        · obtain ⟨q, hq, rfl⟩ := List.mem_map.mp z
          obtain ⟨more, now⟩ := grow q hq
          exact ⟨_, now⟩
        · exact ⟨o, stays b o z e⟩
  have inP : ∀ q ∈ Ps, q.2 ∈ Ps.map Prod.snd := fun q hq => List.mem_map_of_mem hq
  cases hk : K.lookup a with
  | some o =>
    have e := KX a o hk
    rw [ha] at e
    cases e
    have nn : (fun b => if b ∈ Ps.map Prod.snd then some (HO.tbl #[]) else none : Hp) a = none := if_neg naP
    refine main (fun b => if b ∈ Ps.map Prod.snd then some (.tbl #[]) else none) (fun q hq => if_pos (inP q hq)) (.inr ⟨_, vs.toArray, _, hk, rfl, rfl, rfl, by rw [List.size_toArray, vlen]; exact hl, by simpa using vints⟩) (fun b u z => ?_) (fun b _ z => if_neg z) (.inl nn) (.inr nn)
    by_cases y : b ∈ Ps.map Prod.snd
    · have q := (if_pos y).symm.trans z
      cases q
      exact tB b y
    · have q := (if_neg y).symm.trans z
      cases q
  | none =>
    have atP : ∀ q ∈ Ps, (fun b => if b = a then some (HO.frz { cls := .type "list", data := .seq vs.toArray } (.lst (ns.map V.int))) else if b ∈ Ps.map Prod.snd then some (.tbl #[]) else none : Hp) q.2 = some (.tbl #[]) := fun q hq => (if_neg (fun z : q.2 = a => naP (z ▸ inP q hq))).trans (if_pos (inP q hq))
    refine main (fun b => if b = a then some (.frz { cls := .type "list", data := .seq vs.toArray } (.lst (ns.map V.int))) else if b ∈ Ps.map Prod.snd then some (.tbl #[]) else none) atP (.inl (.inr ⟨_, if_pos rfl⟩)) (fun b u z => ?_) (fun b z y => (if_neg z).trans (if_neg y)) (.inr ⟨_, _, if_pos rfl⟩) (.inl hk)
    by_cases y : b = a
    · have q := (if_pos y).symm.trans z
      cases q
      rw [y]
      exact ⟨ha, by rw [List.length_map]; exact hl, vs, _, vints, ha⟩
    · have q1 := (if_neg y).symm.trans z
      by_cases y2 : b ∈ Ps.map Prod.snd
      · have q := (if_pos y2).symm.trans q1
        cases q
        exact tB b y2
      · have q := (if_neg y2).symm.trans q1
        cases q
/-- what is known at the head's heap h of a law with tables -/
def LawGL (l : PySem.W.OpenLaw) (w : World) (K : PySem.W.Frag) (CX : CXT) (k n : Nat) (x : Str) (mg : Str → Option Value) (fa : Addr) (h : Heap) : Prop :=
  ∃ (fd : FuncData) (Ps : List (Addr × Addr)) (sp : Sp), (∀ q ∈ Ps, h.get? q.2 = some { cls := .none, data := .fields #[] } ∧ K.lookup q.2 = none ∧ PySem.W.CodeHd h q.1 q.2) ∧ (∀ (s : Shared) (u : Value), BindsTo s fd ⟨[u], []⟩ [(x, u)]) ∧
    (∀ (H : Hp) (a : Addr) (ns : List Int), ns.length ≤ n → (∀ q ∈ Ps, H q.2 = some (.tbl #[])) → SqL K H a (ns.map V.int) → sp [.ref a] H (fun v _ => v = .bl true) fun _ _ _ => False) ∧
    ∀ base : Heap, K.In base → base.Ns mainGlobals mg → (∀ q ∈ Ps, LamX.TabB base mg q.1 q.2) → FnG l.prog w K mg base CX k fa fd [x] sp
/-- what k_head leaves; the tables of the defs ys are told as empty -/
theorem walk_ofGL {l : PySem.W.OpenLaw} {n k : Nat} {q : Program} {loose : List Str} {XP : (Str → Option Value) → Heap → Prop} {YP : World → Heap → Prop} {d : DefRec} {K : Params → PySem.W.Frag} {CX : World → CXT} {x : Str} (ys : List Str)
    (hn : l.most = some n) (hn2 : n ≤ sizeLine) (hdf : d.params.defaults = []) (hr : Room k callerA) (hrec : (ys.all fun y => (recsOf q).any fun e => e.name == y) = true) (hY : ∀ (w : World) (h : Heap), YP w h → (K w.params).In h)
    (F : ∀ (w : World) (mg : Str → Option Value) (fa : Addr) (h : Heap), (K w.params).In h → h.Ns mainGlobals mg → mg d.name = some (.ref fa) →
      (∀ y ∈ ys, ∀ fy : Addr, mg y = some (.ref fy) → LamX.OwnTab (K w.params) fy h) → LawGL l w (K w.params) (CX w) k n x mg fa h)
    (hCX : ∀ (w : World) (H : Hp) (s : Shared) (e : Value) (s' : Shared), CX w [] H s (fun _ _ _ => False) e s' → False) :
    PySem.W.WalkO q loose XP YP l.row.toRowW d [] (fun f vs => PySem.call f vs) := by
  refine Att.attach_callB hn hdf ?_
  intro w s₀ st mg mb fa o pm cd doc a vs ns G Y ho hd hcd hmg hobj hints hlen hbits hg
  have KX := hY w _ Y
  have tabs : ∀ y ∈ ys, ∀ fy : Addr, mg y = some (.ref fy) → LamX.OwnTab (K w.params) fy st.heap := by
    intro y hy fy my c1 P1 o1 g1 e1 e2 us sl k1 k2 k3 k4 k5
    obtain ⟨dL, mem, same⟩ := List.any_eq_true.mp (List.all_eq_true.mp hrec y hy)
    have same2 : dL.name = y := beq_iff_eq.mp same
    obtain ⟨b1, b2, b3, b4, b5, j1, j2, j3, j4, j0, ⟨⟨u1, u2, j5, _, j6, j7⟩, j8⟩⟩ := G.T.tab dL mem
    rw [same2, my] at j1
    cases j1
    have z1 := KX _ _ k1
    rw [z1] at j2
    cases j2
    rw [k2] at j3
    cases j3
    rw [k3] at j4
    cases j4
    have z2 := KX _ _ k4
    rw [z2] at j5
    cases j5
    cases j6
    rw [k5] at j7
    cases j7
    exact j8
  obtain ⟨fd, Ps, sp, tP, hb, hsp, hF⟩ := F w mg fa _ KX G.T.g hmg tabs
  exact law_callGL KX G.T.g G.T.b G.T.builtins G.T.nolimit hg (fun q hq => (tP q hq).1) (fun q hq => (tP q hq).2.1) (fun q hq => (tP q hq).2.2) G.T.bmain hobj hints (Nat.le_trans hlen hn2) hr hF hb (fun H hH hS => hsp H a ns hlen hH hS) fun H => hCX w H st
end My
/-! ### what the top has written, the head -/
namespace My
open PySem PySem.Spec PyProof.Rows L2
theorem excF_of {K : PySem.W.Frag} {mg : Str → Option Value} {x : Str} {D : Addr} (g : mg x = some (.ref D)) (h : mkFacts K D = true) : ExcF K mg x D := by
  unfold mkFacts at h
  simp only [Bool.and_eq_true, beq_iff_eq] at h
  exact ⟨g, h.1, h.2.1, h.2.2.1, h.2.2.2.1⟩
theorem fun_some {K : PySem.W.Frag} {x q : Str} {st : Stmt} {f : Addr} {fd : FuncData} (_ : Fun K x q st f fd) : Nonempty FuncData := ⟨fd⟩
theorem all_mk {l : PySem.W.OpenLaw} {w : World} {K : PySem.W.Frag} {h : Heap} {mg : Str → Option Value} {fa C0 C1 C2 C3 C4 C5 C6 C7 C8 C9 C10 C11 CL : Addr} {cL0 PT0 : Addr} {eC0 : Value} {dC0 : Option Addr} {vC0 : Array Value} {sC0 : Array (Option Value)} {cL1 PT1 : Addr} {eC1 : Value} {dC1 : Option Addr} {vC1 : Array Value} {sC1 : Array (Option Value)} {DK37 : Addr} {DK38 : Addr} {t1 t2 t3 t4 t5 t8 t6 ta tb : Tok}  {f1 f2 f3 f4 f5 f6 f7 f8 f9 f10 f11 f12 f13 f14 f15 f16 f17 f18 f19 f20 f21 f22 f23 f24 f25 f26 f27 f28 f29 f30 f31 f32 f33 f34 f35 f36 f37 f38 : Addr} {od1 od2 od3 od4 od5 od6 od7 od8 od9 od10 od11 od12 od13 od14 od15 od16 od17 od18 od19 od20 od21 od22 od23 od24 od25 od26 od27 od28 od29 od30 od31 od32 od33 od34 od35 od36 od37 od38 an1 an2 an3 an4 an5 an6 an7 an8 an9 an10 an11 an12 an13 an14 an15 an16 an17 an18 an19 an20 an21 an22 an23 an24 an25 an26 an27 an28 an29 an30 an31 an32 an33 an34 an35 an36 an37 an38 : Option Addr} {sl1 sl2 sl3 sl4 sl5 sl6 sl7 sl8 sl9 sl10 sl11 sl12 sl13 sl14 sl15 sl16 sl17 sl18 sl19 sl20 sl21 sl22 sl23 sl24 sl25 sl26 sl27 sl28 sl29 sl30 sl31 sl32 sl33 sl34 sl35 sl36 sl37 sl38 : Array (Option Value)} {oc1 oc2 oc3 oc4 oc5 oc6 oc7 oc8 oc9 oc10 oc11 oc12 oc13 oc14 oc15 oc16 oc17 oc18 oc19 oc20 oc21 oc22 oc23 oc24 oc25 oc26 oc27 oc28 oc29 oc30 oc31 oc32 oc33 oc34 oc35 oc36 oc37 oc38 kV1 kV2 kV3 kV4 kV5 kV6 kV7 kV8 kV9 kV10 kV11 kV12 kV13 kV14 kV15 kV16 kV17 kV18 kV19 kV20 kV21 kV22 kV23 kV24 kV25 kV26 kV27 kV28 kV29 kV30 kV31 kV32 kV33 kV34 kV35 kV36 kV37 kV38 dc1 dc2 dc3 dc4 dc5 dc6 dc7 dc8 dc9 dc10 dc11 dc12 dc13 dc14 dc15 dc16 dc17 dc18 dc19 dc20 dc21 dc22 dc23 dc24 dc25 dc26 dc27 dc28 dc29 dc30 dc31 dc32 dc33 dc34 dc35 dc36 dc37 dc38 pm1 pm2 pm3 pm4 pm5 pm6 pm7 pm8 pm9 pm10 pm11 pm12 pm13 pm14 pm15 pm16 pm17 pm18 pm19 pm20 pm21 pm22 pm23 pm24 pm25 pm26 pm27 pm28 pm29 pm30 pm31 pm32 pm33 pm34 pm35 pm36 pm37 pm38 cd1 cd2 cd3 cd4 cd5 cd6 cd7 cd8 cd9 cd10 cd11 cd12 cd13 cd14 cd15 cd16 cd17 cd18 cd19 cd20 cd21 cd22 cd23 cd24 cd25 cd26 cd27 cd28 cd29 cd30 cd31 cd32 cd33 cd34 cd35 cd36 cd37 cd38 ct1 ct2 ct3 ct4 ct5 ct6 ct7 ct8 ct9 ct10 ct11 ct12 ct13 ct14 ct15 ct16 ct17 ct18 ct19 ct20 ct21 ct22 ct23 ct24 ct25 ct26 ct27 ct28 ct29 ct30 ct31 ct32 ct33 ct34 ct35 ct36 ct37 ct38 : Value}
    (X : K.In h) (G : h.Ns mainGlobals mg) (hfa : mg "law" = some (.ref fa)) (own0 : ∀ fy : Addr, mg "law" = some (.ref fy) → LamX.OwnTab K fy h) (own1 : ∀ fy : Addr, mg "_law_x_limits_right" = some (.ref fy) → LamX.OwnTab K fy h)
    (a1 : PySem.W.nsIn K mainGlobals "_law_spread" = some (some (.ref f1)))
    (l1 : K.lookup f1 = some ⟨oc1, od1, .func (PySem.W.fnOf "_law_spread" "_law_spread" (defArgs sSpread) (defBody sSpread) (defScope sSpread) .none kV1 dc1 pm1 an1 cd1 ct1), sl1⟩)
    (c1 : PySem.W.codeIn K cd1 "_law_spread" = true) (k1 : PySem.W.keepIn K (.ref f1) = true)
    (a2 : PySem.W.nsIn K mainGlobals "_law_open" = some (some (.ref f2)))
    (l2 : K.lookup f2 = some ⟨oc2, od2, .func (PySem.W.fnOf "_law_open" "_law_open" (defArgs sOpen) (defBody sOpen) (defScope sOpen) .none kV2 dc2 pm2 an2 cd2 ct2), sl2⟩)
    (c2 : PySem.W.codeIn K cd2 "_law_open" = true) (k2 : PySem.W.keepIn K (.ref f2) = true)
    (a3 : PySem.W.nsIn K mainGlobals "_law_take" = some (some (.ref f3)))
    (l3 : K.lookup f3 = some ⟨oc3, od3, .func (PySem.W.fnOf "_law_take" "_law_take" (defArgs sTake) (defBody sTake) (defScope sTake) .none kV3 dc3 pm3 an3 cd3 ct3), sl3⟩)
    (c3 : PySem.W.codeIn K cd3 "_law_take" = true) (k3 : PySem.W.keepIn K (.ref f3) = true)
    (a4 : PySem.W.nsIn K mainGlobals "_law_x_pick" = some (some (.ref f4)))
    (l4 : K.lookup f4 = some ⟨oc4, od4, .func (PySem.W.fnOf "_law_x_pick" "_law_x_pick" (defArgs sPick) (defBody sPick) (defScope sPick) .none kV4 dc4 pm4 an4 cd4 ct4), sl4⟩)
    (c4 : PySem.W.codeIn K cd4 "_law_x_pick" = true) (k4 : PySem.W.keepIn K (.ref f4) = true)
    (a5 : PySem.W.nsIn K mainGlobals "is_whole" = some (some (.ref f5)))
    (l5 : K.lookup f5 = some ⟨oc5, od5, .func (PySem.W.fnOf "is_whole" "is_whole" (defArgs sWhole) (defBody sWhole) (defScope sWhole) .none kV5 dc5 pm5 an5 cd5 ct5), sl5⟩)
    (c5 : PySem.W.codeIn K cd5 "is_whole" = true) (k5 : PySem.W.keepIn K (.ref f5) = true)
    (a6 : PySem.W.nsIn K mainGlobals "is_between" = some (some (.ref f6)))
    (l6 : K.lookup f6 = some ⟨oc6, od6, .func (PySem.W.fnOf "is_between" "is_between" (defArgs sBetween) (defBody sBetween) (defScope sBetween) .none kV6 dc6 pm6 an6 cd6 ct6), sl6⟩)
    (c6 : PySem.W.codeIn K cd6 "is_between" = true) (k6 : PySem.W.keepIn K (.ref f6) = true)
    (a7 : PySem.W.nsIn K mainGlobals "is_tuple" = some (some (.ref f7)))
    (l7 : K.lookup f7 = some ⟨oc7, od7, .func (PySem.W.fnOf "is_tuple" "is_tuple" (defArgs sTuple) (defBody sTuple) (defScope sTuple) .none kV7 dc7 pm7 an7 cd7 ct7), sl7⟩)
    (c7 : PySem.W.codeIn K cd7 "is_tuple" = true) (k7 : PySem.W.keepIn K (.ref f7) = true)
    (a8 : PySem.W.nsIn K mainGlobals "is_letters" = some (some (.ref f8)))
    (l8 : K.lookup f8 = some ⟨oc8, od8, .func (PySem.W.fnOf "is_letters" "is_letters" (defArgs sLetters) (defBody sLetters) (defScope sLetters) .none kV8 dc8 pm8 an8 cd8 ct8), sl8⟩)
    (c8 : PySem.W.codeIn K cd8 "is_letters" = true) (k8 : PySem.W.keepIn K (.ref f8) = true)
    (a9 : PySem.W.nsIn K mainGlobals "is_table" = some (some (.ref f9)))
    (l9 : K.lookup f9 = some ⟨oc9, od9, .func (PySem.W.fnOf "is_table" "is_table" (defArgs sTable) (defBody sTable) (defScope sTable) .none kV9 dc9 pm9 an9 cd9 ct9), sl9⟩)
    (c9 : PySem.W.codeIn K cd9 "is_table" = true) (k9 : PySem.W.keepIn K (.ref f9) = true)
    (a10 : PySem.W.nsIn K mainGlobals "is_pair" = some (some (.ref f10)))
    (l10 : K.lookup f10 = some ⟨oc10, od10, .func (PySem.W.fnOf "is_pair" "is_pair" (defArgs sPair) (defBody sPair) (defScope sPair) .none kV10 dc10 pm10 an10 cd10 ct10), sl10⟩)
    (c10 : PySem.W.codeIn K cd10 "is_pair" = true) (k10 : PySem.W.keepIn K (.ref f10) = true)
    (a11 : PySem.W.nsIn K mainGlobals "is_frame" = some (some (.ref f11)))
    (l11 : K.lookup f11 = some ⟨oc11, od11, .func (PySem.W.fnOf "is_frame" "is_frame" (defArgs sFrame) (defBody sFrame) (defScope sFrame) .none kV11 dc11 pm11 an11 cd11 ct11), sl11⟩)
    (c11 : PySem.W.codeIn K cd11 "is_frame" = true) (k11 : PySem.W.keepIn K (.ref f11) = true)
    (a12 : PySem.W.nsIn K mainGlobals "is_choice" = some (some (.ref f12)))
    (l12 : K.lookup f12 = some ⟨oc12, od12, .func (PySem.W.fnOf "is_choice" "is_choice" (defArgs sChoice) (defBody sChoice) (defScope sChoice) .none kV12 dc12 pm12 an12 cd12 ct12), sl12⟩)
    (c12 : PySem.W.codeIn K cd12 "is_choice" = true) (k12 : PySem.W.keepIn K (.ref f12) = true)
    (a13 : PySem.W.nsIn K mainGlobals "is_machine" = some (some (.ref f13)))
    (l13 : K.lookup f13 = some ⟨oc13, od13, .func (PySem.W.fnOf "is_machine" "is_machine" (defArgs sMachine) (defBody sMachine) (defScope sMachine) .none kV13 dc13 pm13 an13 cd13 ct13), sl13⟩)
    (c13 : PySem.W.codeIn K cd13 "is_machine" = true) (k13 : PySem.W.keepIn K (.ref f13) = true)
    (a14 : PySem.W.nsIn K mainGlobals "is_plain" = some (some (.ref f14)))
    (l14 : K.lookup f14 = some ⟨oc14, od14, .func (PySem.W.fnOf "is_plain" "is_plain" (defArgs sPlain) (defBody sPlain) (defScope sPlain) .none kV14 dc14 pm14 an14 cd14 ct14), sl14⟩)
    (c14 : PySem.W.codeIn K cd14 "is_plain" = true) (k14 : PySem.W.keepIn K (.ref f14) = true)
    (a15 : PySem.W.nsIn K mainGlobals "need_machine" = some (some (.ref f15)))
    (l15 : K.lookup f15 = some ⟨oc15, od15, .func (PySem.W.fnOf "need_machine" "need_machine" (defArgs sNeedMachine) (defBody sNeedMachine) (defScope sNeedMachine) .none kV15 dc15 pm15 an15 cd15 ct15), sl15⟩)
    (c15 : PySem.W.codeIn K cd15 "need_machine" = true) (k15 : PySem.W.keepIn K (.ref f15) = true)
    (a16 : PySem.W.nsIn K mainGlobals "with_choices" = some (some (.ref f16)))
    (l16 : K.lookup f16 = some ⟨oc16, od16, .func (PySem.W.fnOf "with_choices" "with_choices" (defArgs sWith) (defBody sWith) (defScope sWith) .none kV16 dc16 pm16 an16 cd16 ct16), sl16⟩)
    (c16 : PySem.W.codeIn K cd16 "with_choices" = true) (k16 : PySem.W.keepIn K (.ref f16) = true)
    (a17 : PySem.W.nsIn K mainGlobals "need_limit" = some (some (.ref f17)))
    (l17 : K.lookup f17 = some ⟨oc17, od17, .func (PySem.W.fnOf "need_limit" "need_limit" (defArgs sNeedLimit) (defBody sNeedLimit) (defScope sNeedLimit) .none kV17 dc17 pm17 an17 cd17 ct17), sl17⟩)
    (c17 : PySem.W.codeIn K cd17 "need_limit" = true) (k17 : PySem.W.keepIn K (.ref f17) = true)
    (a18 : PySem.W.nsIn K mainGlobals "pays_of" = some (some (.ref f18)))
    (l18 : K.lookup f18 = some ⟨oc18, od18, .func (PySem.W.fnOf "pays_of" "pays_of" (defArgs sPaysOf) (defBody sPaysOf) (defScope sPaysOf) .none kV18 dc18 pm18 an18 cd18 ct18), sl18⟩)
    (c18 : PySem.W.codeIn K cd18 "pays_of" = true) (k18 : PySem.W.keepIn K (.ref f18) = true)
    (a19 : PySem.W.nsIn K mainGlobals "spread_of" = some (some (.ref f19)))
    (l19 : K.lookup f19 = some ⟨oc19, od19, .func (PySem.W.fnOf "spread_of" "spread_of" (defArgs sSpreadOf) (defBody sSpreadOf) (defScope sSpreadOf) .none kV19 dc19 pm19 an19 cd19 ct19), sl19⟩)
    (c19 : PySem.W.codeIn K cd19 "spread_of" = true) (k19 : PySem.W.keepIn K (.ref f19) = true)
    (a20 : PySem.W.nsIn K mainGlobals "lacks_on" = some (some (.ref f20)))
    (l20 : K.lookup f20 = some ⟨oc20, od20, .func (PySem.W.fnOf "lacks_on" "lacks_on" (defArgs sLacksOn) (defBody sLacksOn) (defScope sLacksOn) .none kV20 dc20 pm20 an20 cd20 ct20), sl20⟩)
    (c20 : PySem.W.codeIn K cd20 "lacks_on" = true) (k20 : PySem.W.keepIn K (.ref f20) = true)
    (a21 : PySem.W.nsIn K mainGlobals "dicts_of" = some (some (.ref f21)))
    (l21 : K.lookup f21 = some ⟨oc21, od21, .func (PySem.W.fnOf "dicts_of" "dicts_of" (defArgs sDictsOf) (defBody sDictsOf) (defScope sDictsOf) .none kV21 dc21 pm21 an21 cd21 ct21), sl21⟩)
    (c21 : PySem.W.codeIn K cd21 "dicts_of" = true) (k21 : PySem.W.keepIn K (.ref f21) = true)
    (a22 : PySem.W.nsIn K mainGlobals "_law_x_letters" = some (some (.ref f22)))
    (l22 : K.lookup f22 = some ⟨oc22, od22, .func (PySem.W.fnOf "_law_x_letters" "_law_x_letters" (defArgs sXLetters) (defBody sXLetters) (defScope sXLetters) .none kV22 dc22 pm22 an22 cd22 ct22), sl22⟩)
    (c22 : PySem.W.codeIn K cd22 "_law_x_letters" = true) (k22 : PySem.W.keepIn K (.ref f22) = true)
    (a23 : PySem.W.nsIn K mainGlobals "_law_x_machine" = some (some (.ref f23)))
    (l23 : K.lookup f23 = some ⟨oc23, od23, .func (PySem.W.fnOf "_law_x_machine" "_law_x_machine" (defArgs sXMachineB) (defBody sXMachineB) (defScope sXMachineB) .none kV23 dc23 pm23 an23 cd23 ct23), sl23⟩)
    (c23 : PySem.W.codeIn K cd23 "_law_x_machine" = true) (k23 : PySem.W.keepIn K (.ref f23) = true)
    (a24 : PySem.W.nsIn K mainGlobals "_law_x_plain" = some (some (.ref f24)))
    (l24 : K.lookup f24 = some ⟨oc24, od24, .func (PySem.W.fnOf "_law_x_plain" "_law_x_plain" (defArgs sXPlainB) (defBody sXPlainB) (defScope sXPlainB) .none kV24 dc24 pm24 an24 cd24 ct24), sl24⟩)
    (c24 : PySem.W.codeIn K cd24 "_law_x_plain" = true) (k24 : PySem.W.keepIn K (.ref f24) = true)
    (a25 : PySem.W.nsIn K mainGlobals "_law_x_side" = some (some (.ref f25)))
    (l25 : K.lookup f25 = some ⟨oc25, od25, .func (PySem.W.fnOf "_law_x_side" "_law_x_side" (defArgs sXSide) (defBody sXSide) (defScope sXSide) .none kV25 dc25 pm25 an25 cd25 ct25), sl25⟩)
    (c25 : PySem.W.codeIn K cd25 "_law_x_side" = true) (k25 : PySem.W.keepIn K (.ref f25) = true)
    (a26 : PySem.W.nsIn K mainGlobals "_law_x_pairs" = some (some (.ref f26)))
    (l26 : K.lookup f26 = some ⟨oc26, od26, .func (PySem.W.fnOf "_law_x_pairs" "_law_x_pairs" (defArgs sXPairs) (defBody sXPairs) (defScope sXPairs) .none kV26 dc26 pm26 an26 cd26 ct26), sl26⟩)
    (c26 : PySem.W.codeIn K cd26 "_law_x_pairs" = true) (k26 : PySem.W.keepIn K (.ref f26) = true)
    (a27 : PySem.W.nsIn K mainGlobals "_law_x_pays" = some (some (.ref f27)))
    (l27 : K.lookup f27 = some ⟨oc27, od27, .func (PySem.W.fnOf "_law_x_pays" "_law_x_pays" (defArgs sXPays) (defBody sXPays) (defScope sXPays) .none kV27 dc27 pm27 an27 cd27 ct27), sl27⟩)
    (c27 : PySem.W.codeIn K cd27 "_law_x_pays" = true) (k27 : PySem.W.keepIn K (.ref f27) = true)
    (a28 : PySem.W.nsIn K mainGlobals "_law_x_step" = some (some (.ref f28)))
    (l28 : K.lookup f28 = some ⟨oc28, od28, .func (PySem.W.fnOf "_law_x_step" "_law_x_step" (defArgs sXStep) (defBody sXStep) (defScope sXStep) .none kV28 dc28 pm28 an28 cd28 ct28), sl28⟩)
    (c28 : PySem.W.codeIn K cd28 "_law_x_step" = true) (k28 : PySem.W.keepIn K (.ref f28) = true)
    (a29 : PySem.W.nsIn K mainGlobals "_law_x_led" = some (some (.ref f29)))
    (l29 : K.lookup f29 = some ⟨oc29, od29, .func (PySem.W.fnOf "_law_x_led" "_law_x_led" (defArgs sXLed) (defBody sXLed) (defScope sXLed) .none kV29 dc29 pm29 an29 cd29 ct29), sl29⟩)
    (c29 : PySem.W.codeIn K cd29 "_law_x_led" = true) (k29 : PySem.W.keepIn K (.ref f29) = true)
    (a30 : PySem.W.nsIn K mainGlobals "_law_x_word" = some (some (.ref f30)))
    (l30 : K.lookup f30 = some ⟨oc30, od30, .func (PySem.W.fnOf "_law_x_word" "_law_x_word" (defArgs sWord) (defBody sWord) (defScope sWord) .none kV30 dc30 pm30 an30 cd30 ct30), sl30⟩)
    (c30 : PySem.W.codeIn K cd30 "_law_x_word" = true) (k30 : PySem.W.keepIn K (.ref f30) = true)
    (a31 : PySem.W.nsIn K mainGlobals "_law_x_lines" = some (some (.ref f31)))
    (l31 : K.lookup f31 = some ⟨oc31, od31, .func (PySem.W.fnOf "_law_x_lines" "_law_x_lines" (defArgs sXLines) (defBody sXLines) (defScope sXLines) .none kV31 dc31 pm31 an31 cd31 ct31), sl31⟩)
    (c31 : PySem.W.codeIn K cd31 "_law_x_lines" = true) (k31 : PySem.W.keepIn K (.ref f31) = true)
    (a32 : PySem.W.nsIn K mainGlobals "_law_x_rich" = some (some (.ref f32)))
    (l32 : K.lookup f32 = some ⟨oc32, od32, .func (PySem.W.fnOf "_law_x_rich" "_law_x_rich" (defArgs sXRich) (defBody sXRich) (defScope sXRich) .none kV32 dc32 pm32 an32 cd32 ct32), sl32⟩)
    (c32 : PySem.W.codeIn K cd32 "_law_x_rich" = true) (k32 : PySem.W.keepIn K (.ref f32) = true)
    (a33 : PySem.W.nsIn K mainGlobals "_law_x_long" = some (some (.ref f33)))
    (l33 : K.lookup f33 = some ⟨oc33, od33, .func (PySem.W.fnOf "_law_x_long" "_law_x_long" (defArgs sXLong) (defBody sXLong) (defScope sXLong) .none kV33 dc33 pm33 an33 cd33 ct33), sl33⟩)
    (c33 : PySem.W.codeIn K cd33 "_law_x_long" = true) (k33 : PySem.W.keepIn K (.ref f33) = true)
    (a34 : PySem.W.nsIn K mainGlobals "_law_x_some" = some (some (.ref f34)))
    (l34 : K.lookup f34 = some ⟨oc34, od34, .func (PySem.W.fnOf "_law_x_some" "_law_x_some" (defArgs sXSome) (defBody sXSome) (defScope sXSome) .none kV34 dc34 pm34 an34 cd34 ct34), sl34⟩)
    (c34 : PySem.W.codeIn K cd34 "_law_x_some" = true) (k34 : PySem.W.keepIn K (.ref f34) = true)
    (a35 : PySem.W.nsIn K mainGlobals "_law_x_limits_right" = some (some (.ref f35)))
    (l35 : K.lookup f35 = some ⟨oc35, od35, .func (PySem.W.fnOf "_law_x_limits_right" "_law_x_limits_right" (defArgs sLim) (defBody sLim) (defScope sLim) .none kV35 dc35 pm35 an35 cd35 ct35), sl35⟩)
    (c35 : PySem.W.codeIn K cd35 "_law_x_limits_right" = true) (k35 : PySem.W.keepIn K (.ref f35) = true)
    (a36 : PySem.W.nsIn K mainGlobals "law" = some (some (.ref f36)))
    (l36 : K.lookup f36 = some ⟨oc36, od36, .func (PySem.W.fnOf "law" "law" (defArgs sLaw) (defBody sLaw) (defScope sLaw) .none kV36 dc36 pm36 an36 cd36 ct36), sl36⟩)
    (c36 : PySem.W.codeIn K cd36 "law" = true) (k36 : PySem.W.keepIn K (.ref f36) = true)
    (a37 : PySem.W.nsIn K mainGlobals "led" = some (some (.ref f37)))
    (l37 : K.lookup f37 = some ⟨oc37, od37, .func (PySem.W.fnOf "led" "led" (defArgs sLed) (defBody sLed) (defScope sLed) .none kV37 dc37 pm37 an37 cd37 ct37), sl37⟩)
    (c37 : PySem.W.codeIn K cd37 "led" = true) (k37 : PySem.W.keepIn K (.ref f37) = true)
    (a38 : PySem.W.nsIn K mainGlobals "lacks_of" = some (some (.ref f38)))
    (l38 : K.lookup f38 = some ⟨oc38, od38, .func (PySem.W.fnOf "lacks_of" "lacks_of" (defArgs sLacksOf) (defBody sLacksOf) (defScope sLacksOf) .none kV38 dc38 pm38 an38 cd38 ct38), sl38⟩)
    (c38 : PySem.W.codeIn K cd38 "lacks_of" = true) (k38 : PySem.W.keepIn K (.ref f38) = true)
    (e0 : PySem.W.nsIn K mainGlobals "NoMachine" = some (some (.ref C0)))
    (e1 : PySem.W.nsIn K mainGlobals "NoPlain" = some (some (.ref C1)))
    (e2 : PySem.W.nsIn K mainGlobals "NoLetters" = some (some (.ref C2)))
    (e3 : PySem.W.nsIn K mainGlobals "NoRule" = some (some (.ref C3)))
    (e4 : PySem.W.nsIn K mainGlobals "NoRow" = some (some (.ref C4)))
    (e5 : PySem.W.nsIn K mainGlobals "NoWord" = some (some (.ref C5)))
    (e6 : PySem.W.nsIn K mainGlobals "NoNumber" = some (some (.ref C6)))
    (e7 : PySem.W.nsIn K mainGlobals "NoDivisor" = some (some (.ref C7)))
    (e8 : PySem.W.nsIn K mainGlobals "NoMatch" = some (some (.ref C8)))
    (e9 : PySem.W.nsIn K mainGlobals "TooGreat" = some (some (.ref C9)))
    (e10 : PySem.W.nsIn K mainGlobals "NoLimit" = some (some (.ref C10)))
    (e11 : PySem.W.nsIn K mainGlobals "HasRow" = some (some (.ref C11)))
    (eL : PySem.W.nsIn K mainGlobals "LaterError" = some (some (.ref CL)))
    (kall : kitW K [C0, C1, C2, C3, C4, C5, C6, C7, C8, C9, C10, C11] = true) (kup : upW K [C0, C1, C2, C3, C4, C5, C6, C7, C8, C9, C10, C11] CL = true)
    (hm1 : PySem.W.nsIn K mainGlobals "MOST_LETTERS" = some (some (.int 3 t1)))
    (hm2 : PySem.W.nsIn K mainGlobals "MOST_STATES" = some (some (.int 4 t2)))
    (hm3 : PySem.W.nsIn K mainGlobals "MOST_PLAIN_STATES" = some (some (.int 300 t3)))
    (hm4 : PySem.W.nsIn K mainGlobals "MOST_PAIRS" = some (some (.int 3 t4)))
    (hm5 : PySem.W.nsIn K mainGlobals "MOST_PAY" = some (some (.int 20 t5)))
    (hm8 : PySem.W.nsIn K mainGlobals "MOST_PLAIN_PAY" = some (some (.int 1000000000000000000000000000000 t8)))
    (hm6 : PySem.W.nsIn K mainGlobals "MOST_DICTS" = some (some (.int 300 t6)))
    (hkV37 : kV37 = .ref DK37) (hDK37 : PySem.W.nsIn K DK37 "limit" = some (some (.int 300 ta)))
    (hkV38 : kV38 = .ref DK38) (hDK38 : PySem.W.nsIn K DK38 "limit" = some (some (.int 300 tb)))
    (hcd0 : cd36 = .ref cL0) (hcL0 : K.lookup cL0 = some ⟨eC0, dC0, .fields vC0, sC0⟩) (hvs0 : vC0[11]? = some (.ref PT0)) (hhd0 : PySem.W.codeHdIn K cL0 PT0 = true) (hPT0 : K.lookup PT0 = none)
    (hcd1 : cd35 = .ref cL1) (hcL1 : K.lookup cL1 = some ⟨eC1, dC1, .fields vC1, sC1⟩) (hvs1 : vC1[11]? = some (.ref PT1)) (hhd1 : PySem.W.codeHdIn K cL1 PT1 = true) (hPT1 : K.lookup PT1 = none)
    (hne0_1 : (PT0 == PT1) = false)
    (z0 : PySem.W.nsIn K mainGlobals "int" = some none)
    (z1 : PySem.W.nsIn K mainGlobals "list" = some none)
    (z2 : PySem.W.nsIn K mainGlobals "len" = some none)
    (z3 : PySem.W.nsIn K mainGlobals "enumerate" = some none)
    (z4 : PySem.W.nsIn K mainGlobals "type" = some none)
    (z5 : PySem.W.nsIn K mainGlobals "tuple" = some none)
    (z6 : PySem.W.nsIn K mainGlobals "str" = some none)
    (z7 : PySem.W.nsIn K mainGlobals "all" = some none)
    (z8 : PySem.W.nsIn K mainGlobals "range" = some none)
    (z9 : PySem.W.nsIn K mainGlobals "isinstance" = some none)
    (z10 : PySem.W.nsIn K mainGlobals "ValueError" = some none)
    (z11 : PySem.W.nsIn K mainGlobals "repr" = some none)
    (z12 : PySem.W.nsIn K mainGlobals "set" = some none)
    (z13 : PySem.W.nsIn K mainGlobals "max" = some none)
    (z14 : PySem.W.nsIn K mainGlobals "min" = some none)
    (z15 : PySem.W.nsIn K mainGlobals "sorted" = some none) :
    LawGL l w K CX0 12 63 "script" mg fa h := by
  cases hfa.symm.trans (PySem.W.mg_of X G a36)
  have F1 := fun_mk (st := sSpread) l1 c1 k1
  have b1 := F1.binds (ps := ["cell", "at"]) fun _ _ _ _ _ _ us hl => match us, hl with | [_, _], _ => rfl
  have F2 := fun_mk (st := sOpen) l2 c2 k2
  have b2 := F2.binds (ps := ["script"]) fun _ _ _ _ _ _ us hl => match us, hl with | [_], _ => rfl
  have F3 := fun_mk (st := sTake) l3 c3 k3
  have b3 := F3.binds (ps := ["pen", "many"]) fun _ _ _ _ _ _ us hl => match us, hl with | [_, _], _ => rfl
  have F4 := fun_mk (st := sPick) l4 c4 k4
  have b4 := F4.binds (ps := ["pen", "some"]) fun _ _ _ _ _ _ us hl => match us, hl with | [_, _], _ => rfl
  have F5 := fun_mk (st := sWhole) l5 c5 k5
  have b5 := F5.binds (ps := ["thing"]) fun _ _ _ _ _ _ us hl => match us, hl with | [_], _ => rfl
  have F6 := fun_mk (st := sBetween) l6 c6 k6
  have b6 := F6.binds (ps := ["thing", "low", "high"]) fun _ _ _ _ _ _ us hl => match us, hl with | [_, _, _], _ => rfl
  have F7 := fun_mk (st := sTuple) l7 c7 k7
  have b7 := F7.binds (ps := ["thing", "least", "most"]) fun _ _ _ _ _ _ us hl => match us, hl with | [_, _, _], _ => rfl
  have F8 := fun_mk (st := sLetters) l8 c8 k8
  have b8 := F8.binds (ps := ["thing"]) fun _ _ _ _ _ _ us hl => match us, hl with | [_], _ => rfl
  have F9 := fun_mk (st := sTable) l9 c9 k9
  have b9 := F9.binds (ps := ["thing", "letters", "most"]) fun _ _ _ _ _ _ us hl => match us, hl with | [_, _, _], _ => rfl
  have F10 := fun_mk (st := sPair) l10 c10 k10
  have b10 := F10.binds (ps := ["thing", "most", "many"]) fun _ _ _ _ _ _ us hl => match us, hl with | [_, _, _], _ => rfl
  have F11 := fun_mk (st := sFrame) l11 c11 k11
  have b11 := F11.binds (ps := ["thing", "most"]) fun _ _ _ _ _ _ us hl => match us, hl with | [_, _], _ => rfl
  have F12 := fun_mk (st := sChoice) l12 c12 k12
  have b12 := F12.binds (ps := ["thing", "many"]) fun _ _ _ _ _ _ us hl => match us, hl with | [_, _], _ => rfl
  have F13 := fun_mk (st := sMachine) l13 c13 k13
  have b13 := F13.binds (ps := ["thing"]) fun _ _ _ _ _ _ us hl => match us, hl with | [_], _ => rfl
  have F14 := fun_mk (st := sPlain) l14 c14 k14
  have b14 := F14.binds (ps := ["thing"]) fun _ _ _ _ _ _ us hl => match us, hl with | [_], _ => rfl
  have F15 := fun_mk (st := sNeedMachine) l15 c15 k15
  have b15 := F15.binds (ps := ["thing", "name"]) fun _ _ _ _ _ _ us hl => match us, hl with | [_, _], _ => rfl
  have F16 := fun_mk (st := sWith) l16 c16 k16
  have b16 := F16.binds (ps := ["plain"]) fun _ _ _ _ _ _ us hl => match us, hl with | [_], _ => rfl
  have F17 := fun_mk (st := sNeedLimit) l17 c17 k17
  have b17 := F17.binds (ps := ["thing", "most"]) fun _ _ _ _ _ _ us hl => match us, hl with | [_, _], _ => rfl
  have F18 := fun_mk (st := sPaysOf) l18 c18 k18
  have b18 := F18.binds (ps := ["machine"]) fun _ _ _ _ _ _ us hl => match us, hl with | [_], _ => rfl
  have F19 := fun_mk (st := sSpreadOf) l19 c19 k19
  have b19 := F19.binds (ps := ["frame"]) fun _ _ _ _ _ _ us hl => match us, hl with | [_], _ => rfl
  have F20 := fun_mk (st := sLacksOn) l20 c20 k20
  have b20 := F20.binds (ps := ["frame", "spread", "lacks", "at"]) fun _ _ _ _ _ _ us hl => match us, hl with | [_, _, _, _], _ => rfl
  have F21 := fun_mk (st := sDictsOf) l21 c21 k21
  have b21 := F21.binds (ps := ["frame", "limit"]) fun _ _ _ _ _ _ us hl => match us, hl with | [_, _], _ => rfl
  have F22 := fun_mk (st := sXLetters) l22 c22 k22
  have b22 := F22.binds (ps := ["pen"]) fun _ _ _ _ _ _ us hl => match us, hl with | [_], _ => rfl
  have F23 := fun_mk (st := sXMachineB) l23 c23 k23
  have b23 := F23.binds (ps := ["pen", "base", "letters", "most", "wide"]) fun _ _ _ _ _ _ us hl => match us, hl with | [_, _, _, _, _], _ => rfl
  have F24 := fun_mk (st := sXPlainB) l24 c24 k24
  have b24 := F24.binds (ps := ["pen", "base", "letters", "most", "wide"]) fun _ _ _ _ _ _ us hl => match us, hl with | [_, _, _, _, _], _ => rfl
  have F25 := fun_mk (st := sXSide) l25 c25 k25
  have b25 := F25.binds (ps := ["pen", "base", "letters"]) fun _ _ _ _ _ _ us hl => match us, hl with | [_, _, _], _ => rfl
  have F26 := fun_mk (st := sXPairs) l26 c26 k26
  have b26 := F26.binds (ps := ["machine", "state", "at"]) fun _ _ _ _ _ _ us hl => match us, hl with | [_, _, _], _ => rfl
  have F27 := fun_mk (st := sXPays) l27 c27 k27
  have b27 := F27.binds (ps := ["machine"]) fun _ _ _ _ _ _ us hl => match us, hl with | [_], _ => rfl
  have F28 := fun_mk (st := sXStep) l28 c28 k28
  have b28 := F28.binds (ps := ["machine", "pays", "lacks", "at"]) fun _ _ _ _ _ _ us hl => match us, hl with | [_, _, _, _], _ => rfl
  have F29 := fun_mk (st := sXLed) l29 c29 k29
  have b29 := F29.binds (ps := ["machine"]) fun _ _ _ _ _ _ us hl => match us, hl with | [_], _ => rfl
  have F30 := fun_mk (st := sWord) l30 c30 k30
  have b30 := F30.binds (ps := ["act"]) fun _ _ _ _ _ _ us hl => match us, hl with | [_], _ => rfl
  have F31 := fun_mk (st := sXLines) l31 c31 k31
  have b31 := F31.binds (ps := ["some"]) fun _ _ _ _ _ _ us hl => match us, hl with | [_], _ => rfl
  have F32 := fun_mk (st := sXRich) l32 c32 k32
  have b32 := F32.binds (ps := ["pen", "base", "letters"]) fun _ _ _ _ _ _ us hl => match us, hl with | [_, _, _], _ => rfl
  have F33 := fun_mk (st := sXLong) l33 c33 k33
  have b33 := F33.binds (ps := ["pen", "base", "letters"]) fun _ _ _ _ _ _ us hl => match us, hl with | [_, _, _], _ => rfl
  have F34 := fun_mk (st := sXSome) l34 c34 k34
  have b34 := F34.binds (ps := ["pen", "base", "letters"]) fun _ _ _ _ _ _ us hl => match us, hl with | [_, _, _], _ => rfl
  have F35 := fun_mk (st := sLim) l35 c35 k35
  have b35 := F35.binds (ps := ["pen", "machine", "many"]) fun _ _ _ _ _ _ us hl => match us, hl with | [_, _, _], _ => rfl
  have F36 := fun_mk (st := sLaw) l36 c36 k36
  have b36 := F36.binds (ps := ["script"]) fun _ _ _ _ _ _ us hl => match us, hl with | [_], _ => rfl
  obtain ⟨fdx⟩ := fun_some F1
  have mk : ∀ i, i < 12 → mkFacts K ([C0, C1, C2, C3, C4, C5, C6, C7, C8, C9, C10, C11].getD i 0) = true := fun i hi => (upW_of kup hi).1
  subst hkV37
  have F37 : FunD K "led" "led" (defArgs sLed) (defBody sLed) (defScope sLed) [] [("limit", .int 300)] f37 _ := ⟨⟨_, _, _, _, _, _, _, _, _, _, rfl, l37, c37, .inl ⟨rfl, rfl⟩, .inr ⟨DK37, rfl, fun q hq => by
    rw [List.mem_singleton.mp hq]
    exact ⟨_, hDK37, ⟨_, rfl⟩⟩⟩⟩, k37⟩
  subst hkV38
  have F38 : FunD K "lacks_of" "lacks_of" (defArgs sLacksOf) (defBody sLacksOf) (defScope sLacksOf) [] [("limit", .int 300)] f38 _ := ⟨⟨_, _, _, _, _, _, _, _, _, _, rfl, l38, c38, .inl ⟨rfl, rfl⟩, .inr ⟨DK38, rfl, fun q hq => by
    rw [List.mem_singleton.mp hq]
    exact ⟨_, hDK38, ⟨_, rfl⟩⟩⟩⟩, k38⟩
  have TP : PenTxt K mg f1 f2 f3 f4 _ _ _ _ := { int := PySem.W.mg_none_of X G z0, list := PySem.W.mg_none_of X G z1, len := PySem.W.mg_none_of X G z2, enumerate := PySem.W.mg_none_of X G z3, FSpread := F1, bSpread := b1, gSpread := PySem.W.mg_of X G a1, FOpen := F2, bOpen := b2, gOpen := PySem.W.mg_of X G a2, FTake := F3, bTake := b3, gTake := PySem.W.mg_of X G a3, FPick := F4, bPick := b4, gPick := PySem.W.mg_of X G a4 }
  have TK : LookTxt K mg f5 f6 f7 f8 f1 f9 f1 _ _ _ _ fdx _ fdx t1 t2 := { mLetters := PySem.W.mg_of X G hm1, mStates := PySem.W.mg_of X G hm2, type := PySem.W.mg_none_of X G z4, int := PySem.W.mg_none_of X G z0, tuple := PySem.W.mg_none_of X G z5, str := PySem.W.mg_none_of X G z6, len := PySem.W.mg_none_of X G z2, all := PySem.W.mg_none_of X G z7, range := PySem.W.mg_none_of X G z8, FWhole := F5, bWhole := b5, gWhole := PySem.W.mg_of X G a5, FBetween := F6, bBetween := b6, gBetween := PySem.W.mg_of X G a6, FTuple := F7, bTuple := b7, gTuple := PySem.W.mg_of X G a7, FLetters := F8, bLetters := b8, gLetters := PySem.W.mg_of X G a8, FTable := F9, bTable := b9, gTable := PySem.W.mg_of X G a9 }
  have TM : MachTxt K mg f5 f6 f7 f8 f10 f1 f9 f11 f12 f13 f14 f1 _ _ _ _ _ fdx _ _ _ _ _ fdx t1 t2 t3 t4 t5 := { look := TK, mPlain := PySem.W.mg_of X G hm3, mWide := ⟨t8, by rw [show ((10 : Int) ^ (30 : Int).toNat) = 1000000000000000000000000000000 from by decide +kernel]; exact PySem.W.mg_of X G hm8⟩, mPairs := PySem.W.mg_of X G hm4, mPay := PySem.W.mg_of X G hm5, set := PySem.W.mg_none_of X G z12, FPair := F10, bPair := b10, gPair := PySem.W.mg_of X G a10, FFrame := F11, bFrame := b11, gFrame := PySem.W.mg_of X G a11, FChoice := F12, bChoice := b12, gChoice := PySem.W.mg_of X G a12, FMachine := F13, bMachine := b13, gMachine := PySem.W.mg_of X G a13, FPlain := F14, bPlain := b14, gPlain := PySem.W.mg_of X G a14 }
  have TFr : FrmTxt K mg f5 f6 f7 f8 f10 f1 f9 f11 f12 f13 f14 f1 _ _ _ _ _ fdx _ _ _ _ _ fdx t1 t2 t3 t4 t5 C0 f15 f16 _ _ := { mach := TM, noMachine := excF_of (PySem.W.mg_of X G e0) (mk 0 (by decide)), FNeedMachine := F15, bNeedMachine := b15, gNeedMachine := PySem.W.mg_of X G a15, FWith := F16, bWith := b16, gWith := PySem.W.mg_of X G a16 }
  have TS : SprTxt K mg f18 f19 _ _ := { max := PySem.W.mg_none_of X G z13, min := PySem.W.mg_none_of X G z14, FPaysOf := F18, bPaysOf := b18, gPaysOf := PySem.W.mg_of X G a18, FSpreadOf := F19, bSpreadOf := b19, gSpreadOf := PySem.W.mg_of X G a19 }
  have TLk : LkTxt K mg f18 f19 f1 f20 _ _ fdx _ := { spr := TS, sorted := PySem.W.mg_none_of X G z15, FLacksOn := F20, bLacksOn := b20, gLacksOn := PySem.W.mg_of X G a20 }
  have TD : DoTxt K mg f18 f19 f1 f20 f21 _ _ fdx _ _ C9 := { lk := TLk, len := PySem.W.mg_none_of X G z2, range := PySem.W.mg_none_of X G z8, tuple := PySem.W.mg_none_of X G z5, great := excF_of (PySem.W.mg_of X G e9) (mk 9 (by decide)), FDictsOf := F21, bDictsOf := b21, gDictsOf := PySem.W.mg_of X G a21 }
  have TLE : LeTxt K mg f5 f6 f7 f8 f10 f1 f9 f11 f12 f13 f14 f1 _ _ _ _ _ fdx _ _ _ _ _ fdx t1 t2 t3 t4 t5 t6 C0 f15 f16 _ _ f18 f19 f1 f20 f21 f17 f37 f38 _ _ fdx _ _ _ _ _ C9 C10 := { frm := TFr, dO := TD, mDicts := PySem.W.mg_of X G hm6, noLimit := excF_of (PySem.W.mg_of X G e10) (mk 10 (by decide)), FNeedLimit := F17, bNeedLimit := b17, gNeedLimit := PySem.W.mg_of X G a17, FLed := F37, gLed := PySem.W.mg_of X G a37, FLacksOf := F38, gLacksOf := PySem.W.mg_of X G a38 }
  have TE : WordTxt K mg C0 C1 C2 C3 C4 C5 C6 C7 C8 C9 C10 C11 CL := { isi := PySem.W.mg_none_of X G z9, ve := PySem.W.mg_none_of X G z10, later := PySem.W.mg_of X G eL, c0 := PySem.W.mg_of X G e0, c1 := PySem.W.mg_of X G e1, c2 := PySem.W.mg_of X G e2, c3 := PySem.W.mg_of X G e3, c4 := PySem.W.mg_of X G e4, c5 := PySem.W.mg_of X G e5, c6 := PySem.W.mg_of X G e6, c7 := PySem.W.mg_of X G e7, c8 := PySem.W.mg_of X G e8, c9 := PySem.W.mg_of X G e9, c10 := PySem.W.mg_of X G e10, c11 := PySem.W.mg_of X G e11, all := kall, up := kup }
  have TW : WT K mg f30 _ := { FWord := F30, bWord := b30, gWord := PySem.W.mg_of X G a30 }
  have TR : LimTxt K mg f35 _ := { FLim := F35, bLim := b35, gLim := PySem.W.mg_of X G a35 }
  have TL : LetTxt K mg f22 _ := { FXLetters := F22, bXLetters := b22, gXLetters := PySem.W.mg_of X G a22 }
  have TB : BlTxt K mg f23 f24 f1 f25 _ _ fdx _ := { range := PySem.W.mg_none_of X G z8, len := PySem.W.mg_none_of X G z2, tuple := PySem.W.mg_none_of X G z5, int := PySem.W.mg_none_of X G z0, FXMachineB := F23, bXMachineB := b23, gXMachineB := PySem.W.mg_of X G a23, FXPlainB := F24, bXPlainB := b24, gXPlainB := PySem.W.mg_of X G a24, FXSide := F25, bXSide := b25, gXSide := PySem.W.mg_of X G a25 }
  have TN : LnTxt K mg f33 _ := { range := PySem.W.mg_none_of X G z8, len := PySem.W.mg_none_of X G z2, tuple := PySem.W.mg_none_of X G z5, int := PySem.W.mg_none_of X G z0, FXLong := F33, bXLong := b33, gXLong := PySem.W.mg_of X G a33 }
  have TRi : RiTxt K mg f33 f32 f34 _ _ _ := { ln := TN, FXRich := F32, bXRich := b32, gXRich := PySem.W.mg_of X G a32, FXSome := F34, bXSome := b34, gXSome := PySem.W.mg_of X G a34 }
  have TX1 : Lf1 K mg f26 f27 _ _ := { isi := PySem.W.mg_none_of X G z9, tuple := PySem.W.mg_none_of X G z5, list := PySem.W.mg_none_of X G z1, range := PySem.W.mg_none_of X G z8, len := PySem.W.mg_none_of X G z2, min := PySem.W.mg_none_of X G z14, max := PySem.W.mg_none_of X G z13, FXPairs := F26, bXPairs := b26, gXPairs := PySem.W.mg_of X G a26, FXPays := F27, bXPays := b27, gXPays := PySem.W.mg_of X G a27 }
  have TX2 : Lf2 K mg f26 f27 f28 _ _ _ := { f1 := TX1, sorted := PySem.W.mg_none_of X G z15, FXStep := F28, bXStep := b28, gXStep := PySem.W.mg_of X G a28 }
  have TX : XlTxt K mg f26 f27 f28 f29 _ _ _ _ := { f2 := TX2, FXLed := F29, bXLed := b29, gXLed := PySem.W.mg_of X G a29 }
  have TI : LsTxt K mg f31 _ := { repr := PySem.W.mg_none_of X G z11, sorted := PySem.W.mg_none_of X G z15, FXLines := F31, bXLines := b31, gXLines := PySem.W.mg_of X G a31 }
  have T0 : LawTxt K mg := { range := PySem.W.mg_none_of X G z8, repr := PySem.W.mg_none_of X G z11, len := PySem.W.mg_none_of X G z2, list := PySem.W.mg_none_of X G z1, isi := PySem.W.mg_none_of X G z9 }
  have hP0 := own0 _ (PySem.W.mg_of X G a36) cL0 PT0 _ _ eC0 dC0 vC0 sC0 l36 rfl hcd0 hcL0 hvs0
  have hP1 := own1 _ (PySem.W.mg_of X G a35) cL1 PT1 _ _ eC1 dC1 vC1 sC1 l35 rfl hcd1 hcL1 hvs1
  have ne0_1 : PT0 ≠ PT1 := fun z => by simp [z] at hne0_1
  have hPs : ∀ q ∈ ([(cL0, PT0), (cL1, PT1)] : List (Addr × Addr)), h.get? q.2 = some { cls := .none, data := .fields #[] } ∧ K.lookup q.2 = none ∧ PySem.W.CodeHd h q.1 q.2 := by
    intro q hq
    simp only [List.mem_cons, List.not_mem_nil, or_false] at hq
    rcases hq with rfl | rfl
    · exact ⟨hP0, hPT0, PySem.W.codeHd_of_K X hhd0⟩
    · exact ⟨hP1, hPT1, PySem.W.codeHd_of_K X hhd1⟩
  refine ⟨_, [(cL0, PT0), (cL1, PT1)], spLaw K PT0 PT1, hPs, fun s v => .of_eq rfl, fun H a ns hl hT hS => ⟨a, ns, rfl, hS, hl, hT _ (.head _), hT _ (.tail _ (.head _)), fun _ => rfl⟩, fun base _ _ TAB => ok_law F36 hcd0 hcd1 ne0_1 TP TLE TE TW TR TL TB TRi TX TI T0 (TAB _ (.head _)) (TAB _ (.tail _ (.head _)))⟩
end My
open PySem PySem.W PyProof.Rows
set_option maxHeartbeats 0 in
theorem PySem.Challenge.cw_laterless_k40_machines_led_holds : PySem.Challenge.rw_laterless_k40_machines_led.Holds := by
  w_on; o_law; k_head; (case hw => w_witness2)
  k_fill
  refine My.walk_ofGL (l := PySem.Challenge.rw_laterless_k40_machines_led) (n := 63) (k := 12) (x := "script") (CX := fun _ => L2.CX0) ["law", "_law_x_limits_right"] rfl (by decide) rfl ⟨rfl, by decide, by decide⟩ ?hrec (fun w h Y => PySem.W.km_in_of Y) ?F (fun _ _ _ _ _ h => h)
  case hrec => kernel_rfl
  case F =>
    intro w mg fa h KX G hmg own
    refine' My.all_mk KX G hmg (own _ (by simp)) (own _ (by simp)) ?a1 ?l1 ?c1 ?k1 ?a2 ?l2 ?c2 ?k2 ?a3 ?l3 ?c3 ?k3 ?a4 ?l4 ?c4 ?k4 ?a5 ?l5 ?c5 ?k5 ?a6 ?l6 ?c6 ?k6 ?a7 ?l7 ?c7 ?k7 ?a8 ?l8 ?c8 ?k8 ?a9 ?l9 ?c9 ?k9 ?a10 ?l10 ?c10 ?k10 ?a11 ?l11 ?c11 ?k11 ?a12 ?l12 ?c12 ?k12 ?a13 ?l13 ?c13 ?k13 ?a14 ?l14 ?c14 ?k14 ?a15 ?l15 ?c15 ?k15 ?a16 ?l16 ?c16 ?k16 ?a17 ?l17 ?c17 ?k17 ?a18 ?l18 ?c18 ?k18 ?a19 ?l19 ?c19 ?k19 ?a20 ?l20 ?c20 ?k20 ?a21 ?l21 ?c21 ?k21 ?a22 ?l22 ?c22 ?k22 ?a23 ?l23 ?c23 ?k23 ?a24 ?l24 ?c24 ?k24 ?a25 ?l25 ?c25 ?k25 ?a26 ?l26 ?c26 ?k26 ?a27 ?l27 ?c27 ?k27 ?a28 ?l28 ?c28 ?k28 ?a29 ?l29 ?c29 ?k29 ?a30 ?l30 ?c30 ?k30 ?a31 ?l31 ?c31 ?k31 ?a32 ?l32 ?c32 ?k32 ?a33 ?l33 ?c33 ?k33 ?a34 ?l34 ?c34 ?k34 ?a35 ?l35 ?c35 ?k35 ?a36 ?l36 ?c36 ?k36 ?a37 ?l37 ?c37 ?k37 ?a38 ?l38 ?c38 ?k38 ?e0 ?e1 ?e2 ?e3 ?e4 ?e5 ?e6 ?e7 ?e8 ?e9 ?e10 ?e11 ?eL ?kall ?kup ?hm1 ?hm2 ?hm3 ?hm4 ?hm5 ?hm8 ?hm6 ?hkV37 ?hDK37 ?hkV38 ?hDK38 ?hcd0 ?hcL0 ?hvs0 ?hhd0 ?hPT0 ?hcd1 ?hcL1 ?hvs1 ?hhd1 ?hPT1 ?hne0_1 ?z0 ?z1 ?z2 ?z3 ?z4 ?z5 ?z6 ?z7 ?z8 ?z9 ?z10 ?z11 ?z12 ?z13 ?z14 ?z15
    (case a1 => k_is); (case l1 => k_is); (case c1 => k_is); (case k1 => k_is)
    (case a2 => k_is); (case l2 => k_is); (case c2 => k_is); (case k2 => k_is)
    (case a3 => k_is); (case l3 => k_is); (case c3 => k_is); (case k3 => k_is)
    (case a4 => k_is); (case l4 => k_is); (case c4 => k_is); (case k4 => k_is)
    (case a5 => k_is); (case l5 => k_is); (case c5 => k_is); (case k5 => k_is)
    (case a6 => k_is); (case l6 => k_is); (case c6 => k_is); (case k6 => k_is)
    (case a7 => k_is); (case l7 => k_is); (case c7 => k_is); (case k7 => k_is)
    (case a8 => k_is); (case l8 => k_is); (case c8 => k_is); (case k8 => k_is)
    (case a9 => k_is); (case l9 => k_is); (case c9 => k_is); (case k9 => k_is)
    (case a10 => k_is); (case l10 => k_is); (case c10 => k_is); (case k10 => k_is)
    (case a11 => k_is); (case l11 => k_is); (case c11 => k_is); (case k11 => k_is)
    (case a12 => k_is); (case l12 => k_is); (case c12 => k_is); (case k12 => k_is)
    (case a13 => k_is); (case l13 => k_is); (case c13 => k_is); (case k13 => k_is)
    (case a14 => k_is); (case l14 => k_is); (case c14 => k_is); (case k14 => k_is)
    (case a15 => k_is); (case l15 => k_is); (case c15 => k_is); (case k15 => k_is)
    (case a16 => k_is); (case l16 => k_is); (case c16 => k_is); (case k16 => k_is)
    (case a17 => k_is); (case l17 => k_is); (case c17 => k_is); (case k17 => k_is)
    (case a18 => k_is); (case l18 => k_is); (case c18 => k_is); (case k18 => k_is)
    (case a19 => k_is); (case l19 => k_is); (case c19 => k_is); (case k19 => k_is)
    (case a20 => k_is); (case l20 => k_is); (case c20 => k_is); (case k20 => k_is)
    (case a21 => k_is); (case l21 => k_is); (case c21 => k_is); (case k21 => k_is)
    (case a22 => k_is); (case l22 => k_is); (case c22 => k_is); (case k22 => k_is)
    (case a23 => k_is); (case l23 => k_is); (case c23 => k_is); (case k23 => k_is)
    (case a24 => k_is); (case l24 => k_is); (case c24 => k_is); (case k24 => k_is)
    (case a25 => k_is); (case l25 => k_is); (case c25 => k_is); (case k25 => k_is)
    (case a26 => k_is); (case l26 => k_is); (case c26 => k_is); (case k26 => k_is)
    (case a27 => k_is); (case l27 => k_is); (case c27 => k_is); (case k27 => k_is)
    (case a28 => k_is); (case l28 => k_is); (case c28 => k_is); (case k28 => k_is)
    (case a29 => k_is); (case l29 => k_is); (case c29 => k_is); (case k29 => k_is)
    (case a30 => k_is); (case l30 => k_is); (case c30 => k_is); (case k30 => k_is)
    (case a31 => k_is); (case l31 => k_is); (case c31 => k_is); (case k31 => k_is)
    (case a32 => k_is); (case l32 => k_is); (case c32 => k_is); (case k32 => k_is)
    (case a33 => k_is); (case l33 => k_is); (case c33 => k_is); (case k33 => k_is)
    (case a34 => k_is); (case l34 => k_is); (case c34 => k_is); (case k34 => k_is)
    (case a35 => k_is); (case l35 => k_is); (case c35 => k_is); (case k35 => k_is)
    (case a36 => k_is); (case l36 => k_is); (case c36 => k_is); (case k36 => k_is)
    (case a37 => k_is); (case l37 => k_is); (case c37 => k_is); (case k37 => k_is)
    (case a38 => k_is); (case l38 => k_is); (case c38 => k_is); (case k38 => k_is)
    (case e0 => k_is); (case e1 => k_is); (case e2 => k_is); (case e3 => k_is); (case e4 => k_is); (case e5 => k_is); (case e6 => k_is); (case e7 => k_is); (case e8 => k_is); (case e9 => k_is); (case e10 => k_is); (case e11 => k_is); (case eL => k_is); (case kall => kernel_rfl); (case kup => kernel_rfl); (case hm1 => k_is); (case hm2 => k_is); (case hm3 => k_is); (case hm4 => k_is); (case hm5 => k_is); (case hm8 => k_is); (case hm6 => k_is); (case hkV37 => rfl); (case hDK37 => k_is); (case hkV38 => rfl); (case hDK38 => k_is); (case hcd0 => rfl); (case hcL0 => k_is); (case hvs0 => rfl); (case hhd0 => kernel_rfl); (case hPT0 => kernel_rfl); (case hcd1 => rfl); (case hcL1 => k_is); (case hvs1 => rfl); (case hhd1 => kernel_rfl); (case hPT1 => kernel_rfl); (case hne0_1 => kernel_rfl); (case z0 => k_is); (case z1 => k_is); (case z2 => k_is); (case z3 => k_is); (case z4 => k_is); (case z5 => k_is); (case z6 => k_is); (case z7 => k_is); (case z8 => k_is); (case z9 => k_is); (case z10 => k_is); (case z11 => k_is); (case z12 => k_is); (case z13 => k_is); (case z14 => k_is); (case z15 => k_is)
