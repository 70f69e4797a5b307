import PyProof.Rows.All
import Wide.All
import OpenK.AllK
import Wide.FinOn
import Open.SpecLaws
import KE.OsGo
import KE.DataFind
import HandS.ForSpec
import HandS.Comp
import HandS.Deep
import HandS.SetFor
import PyFlatLaws
import HandS.Zip
import HandS.Codes
import PySem.Challenge.RW_standblocks_s01_answers
set_option Elab.async false
set_option linter.all false
set_option maxRecDepth 100000
set_option maxHeartbeats 4000000
namespace SB
open PySem PySem.Spec PyProof.Rows L2
open Kv437 (Stand Block)
def topS (i : Nat) : Stmt := PySem.Challenge.pw_standblocks_s01_answers.main.body.getD i (.Pass ⟨0, 0, 0, 0⟩)
/-! ### the heap: how a stand lies in it -/
def fS (s t p : Addr) : List (Str × V) := [("seats", .ref s), ("assignments", .ref t), ("pairs", .ref p)]
theorem lk_here {k : Str} {v : V} {r : List (Str × V)} : List.lookup k ((k, v) :: r) = some v := by
  have e : (k == k) = true := beq_self_eq_true k
  simp only [List.lookup, e]
theorem lk_past {k g : Str} {v : V} {r : List (Str × V)} (h : (k == g) = false) : List.lookup k ((g, v) :: r) = List.lookup k r := by
  simp only [List.lookup, h]
theorem put_here {f : Str} {v x : V} {r : List (Str × V)} : putF f v ((f, x) :: r) = (f, v) :: r := if_pos rfl
theorem put_past {f g : Str} {v x : V} {r : List (Str × V)} (h : ¬ g = f) : putF f v ((g, x) :: r) = (g, x) :: putF f v r := if_neg h
theorem fS_s (s t p : Addr) : (fS s t p).lookup ("seats" : Str) = some (.ref s) := lk_here
theorem fS_t (s t p : Addr) : (fS s t p).lookup ("assignments" : Str) = some (.ref t) := (lk_past (by decide +kernel)).trans lk_here
theorem fS_p (s t p : Addr) : (fS s t p).lookup ("pairs" : Str) = some (.ref p) := (lk_past (by decide +kernel)).trans ((lk_past (by decide +kernel)).trans lk_here)
theorem fS_no (s t p : Addr) (m : Str) (h1 : (m == ("seats" : Str)) = false) (h2 : (m == ("assignments" : Str)) = false) (h3 : (m == ("pairs" : Str)) = false) : (fS s t p).lookup m = none :=
  (lk_past h1).trans ((lk_past h2).trans ((lk_past h3).trans rfl))
theorem fS_put_t (s t p x : Addr) : putF "assignments" (.ref x) (fS s t p) = fS s x p := (put_past (by decide +kernel)).trans (congrArg _ put_here)
theorem fS_put_p (s t p x : Addr) : putF "pairs" (.ref x) (fS s t p) = fS s t x := (put_past (by decide +kernel)).trans (congrArg _ ((put_past (by decide +kernel)).trans (congrArg _ put_here)))
/-- the pairs: each a tuple at an address of its own -/
inductive Prs (H : Hp) : List Addr → List (Nat × Nat) → Prop where
  | nil : Prs H [] []
  | cons {a : Addr} {q : Nat × Nat} {as : List Addr} {qs : List (Nat × Nat)} : H a = some (.tup [.int q.1, .int q.2]) → Prs H as qs → Prs H (a :: as) (q :: qs)
def seatsV (m : Stand) : List V := m.blocks.map fun b => V.int b.seats
def assV (m : Stand) : List V := m.blocks.map fun b => V.int b.assignment
structure At (C : Addr) (H : Hp) (a s t p : Addr) (ts : List Addr) (m : Stand) : Prop where
  ins : ∃ dx, H a = some (.ins C dx (fS s t p))
  hs : H s = some (.lst (seatsV m))
  ht : H t = some (.lst (assV m))
  hp : H p = some (.lst (ts.map V.ref))
  prs : Prs H ts m.adjacency
  st : s ≠ t
  sp : s ≠ p
  tp : t ≠ p
def Stad (C : Addr) (H : Hp) (a : Addr) (m : Stand) : Prop := ∃ s t p ts, At C H a s t p ts m
/-- the addresses that a stand's own lists take -/
def Foot (H : Hp) (a b : Addr) : Prop := b = a ∨ ∃ C dx s t p, H a = some (.ins C dx (fS s t p)) ∧ (b = s ∨ b = t ∨ b = p)
structure Kept (H H' : Hp) (a : Addr) : Prop where
  old : ∀ b o, H b = some o → ¬ Foot H a b → H' b = some o
  new : ∀ b, Foot H' a b → Foot H a b ∨ H b = none
theorem Prs.same {H H' : Hp} (e : Same H H') : ∀ {ts : List Addr} {qs : List (Nat × Nat)}, Prs H ts qs → Prs H' ts qs
  | _, _, .nil => .nil
  | _, _, .cons h r => .cons (e _ _ h) (r.same e)
theorem At.same {C : Addr} {H H' : Hp} (e : Same H H') {a s t p : Addr} {ts : List Addr} {m : Stand} (h : At C H a s t p ts m) : At C H' a s t p ts m :=
  let ⟨dx, i⟩ := h.ins
  ⟨⟨dx, e _ _ i⟩, e _ _ h.hs, e _ _ h.ht, e _ _ h.hp, h.prs.same e, h.st, h.sp, h.tp⟩
theorem Stad.same {C : Addr} {H H' : Hp} (e : Same H H') {a : Addr} {m : Stand} : Stad C H a m → Stad C H' a m
  | ⟨s, t, p, ts, h⟩ => ⟨s, t, p, ts, h.same e⟩
theorem same_upd {H : Hp} {p : Addr} {o : HO} (h : H p = none) : Same H (upd H p o) := fun b x e => by
  rw [upd_ne (ne_of_none e h)]
  exact e
theorem Prs.len {H : Hp} : ∀ {ts : List Addr} {qs : List (Nat × Nat)}, Prs H ts qs → ts.length = qs.length
  | _, _, .nil => rfl
  | _, _, .cons _ r => congrArg (· + 1) r.len
def prD (q : Nat × Nat) : PyData := .tuple [.int q.1, .int q.2]
theorem Prs.data {K : PySem.W.Frag} {H : Hp} : ∀ {ts : List Addr} {qs : List (Nat × Nat)}, Prs H ts qs → DpAll K H (ts.map V.ref) (qs.map prD)
  | _, _, .nil => .nil
  | _, _, .cons h r => .cons (.tup (.inl (.inl h)) (.cons (.int _) (.cons (.int _) .nil))) r.data
theorem prD_lay (z : Nat × Nat) : (prD z).canLay0 = true := by simp [prD, PyData.canLay0, PyData.canLayAll0]
theorem prD_depth (z : Nat × Nat) : (prD z).depth = 1 := by simp [prD, PyData.depth, PyData.depthAll]
theorem prDs_lay : ∀ zs : List (Nat × Nat), PyData.canLayAll0 (zs.map prD) = true
  | [] => by simp [PyData.canLayAll0]
  | z :: zs => by simp [PyData.canLayAll0, prD_lay z, prDs_lay zs]
theorem prDs_depth : ∀ zs : List (Nat × Nat), PyData.depthAll (zs.map prD) ≤ 1
  | [] => by simp [PyData.depthAll]
  | z :: zs => by
    have h1 := prDs_depth zs
    have h2 := prD_depth z
    simp only [List.map_cons, PyData.depthAll]
    omega
theorem prD_shaped (z : Nat × Nat) : SeqAt.shaped (prD z) = true := by
  have h := prD_depth z
  show ((prD z).canLay0 && decide ((prD z).depth ≤ 64)) = true
  rw [Bool.and_eq_true]
  exact ⟨prD_lay z, decide_eq_true (by omega)⟩
theorem prDs_shaped (zs : List (Nat × Nat)) : SeqAt.shaped (.list (zs.map prD)) = true := by
  have h1 := prDs_depth zs
  have h2 : PyData.depth (.list (zs.map prD)) ≤ 64 := by
    simp only [PyData.depth]
    omega
  show (PyData.canLay0 (.list (zs.map prD)) && decide (PyData.depth (.list (zs.map prD)) ≤ 64)) = true
  rw [Bool.and_eq_true]
  exact ⟨by simp only [PyData.canLay0]; exact prDs_lay zs, decide_eq_true h2⟩
theorem prD_eqv (z w : Nat × Nat) : PyData.eqv (prD z) (prD w) = decide (z = w) := by
  obtain ⟨a, b⟩ := z
  obtain ⟨a', b'⟩ := w
  have e : PyData.eqv (prD (a, b)) (prD (a', b')) = (((a : Int) == (a' : Int)) && (((b : Int) == (b' : Int)) && true)) := by simp only [prD, PyData.eqv, PyData.eqvAll]
  rw [e]
  by_cases h : ((a, b) : Nat × Nat) = (a', b')
  · cases h
    simp
  · rw [decide_eq_false h]
    by_cases h1 : a = a'
    · by_cases h2 : b = b'
      · exact absurd (by rw [h1, h2]) h
      · have q : ((b : Int) == (b' : Int)) = false := beq_eq_false_iff_ne.mpr (by omega)
        rw [q, Bool.false_and, Bool.and_false]
    · have q : ((a : Int) == (a' : Int)) = false := beq_eq_false_iff_ne.mpr (by omega)
      rw [q, Bool.false_and]
end SB

set_option Elab.async false
set_option linter.all false
set_option maxRecDepth 100000
set_option maxHeartbeats 4000000
namespace SB
open PySem PySem.Spec PyProof.Rows L2
open Kv437 (Stand Block)
theorem hu65 {A : Around} {k : Nat} (hr : Room k A) : A.units + 65 < cLine := by have := hr.un; omega
/-- what the top has written -/
def GI (mg : Str → Option Value) (x : Str) (i : Int) : Prop := ∃ t, mg x = some (.int i t)
structure Txt (K : PySem.W.Frag) (mg : Str → Option Value) (C : Addr) : Prop where
  cl : Cls K C
  nS : NoAttr K C "seats"
  nT : NoAttr K C "assignments"
  nP : NoAttr K C "pairs"
  gC : mg "Stadium" = some (.ref C)
  len : mg "len" = none
  min : mg "min" = none
  max : mg "max" = none
  sum : mg "sum" = none
  range : mg "range" = none
theorem pe_gi {X : Cx} {x : Str} {i : Int} {pos : Pos} (h : GI X.mg x i) (hg : Gl X x := by rfl) (hd : (x == ("__debug__" : Str)) = false := by decide) : PE X (.Name x pos) (tC (.int i)) := by
  obtain ⟨t, h⟩ := h
  exact pe_glob hg h ⟨_, rfl⟩ hd
abbrev sInit : Stmt := inClass (topS 54) 0
abbrev sBc : Stmt := inClass (topS 54) 1
abbrev sHb : Stmt := inClass (topS 54) 2
abbrev sAa : Stmt := inClass (topS 54) 3
abbrev sAb : Stmt := inClass (topS 54) 4
theorem scInit : FnScope ["self"] ["self"] (defScope sInit) := ⟨rfl, rfl, rfl, by decide +kernel, rfl, by decide +kernel, by decide +kernel⟩
theorem scBc : FnScope ["self"] ["self"] (defScope sBc) := ⟨rfl, rfl, rfl, by decide +kernel, rfl, by decide +kernel, by decide +kernel⟩
theorem scHb : FnScope ["self", "block"] ["self", "block"] (defScope sHb) := ⟨rfl, rfl, rfl, by decide +kernel, rfl, by decide +kernel, by decide +kernel⟩
theorem scAa : FnScope ["self", "i", "j"] ["self", "i", "j"] (defScope sAa) := ⟨rfl, rfl, rfl, by decide +kernel, rfl, by decide +kernel, by decide +kernel⟩
theorem scAb : FnScope ["self", "block", "other"] ["self", "block"] (defScope sAb) := ⟨rfl, rfl, rfl, by decide +kernel, rfl, by decide +kernel, by decide +kernel⟩
section
variable {P : Program} {w : World} {K : PySem.W.Frag} {mg : Str → Option Value} {base : Heap} {C : Addr}
/-! ### __init__ -/
def spInit (C : Addr) : Sp := fun vs H Q _ => ∃ (a dx : Addr), vs = [.ref a] ∧ H a = some (.ins C dx []) ∧
  ∀ H' : Hp, Stad C H' a ⟨[], []⟩ → (∀ b o, H b = some o → b ≠ a → H' b = some o) → (∀ b, Foot H' a b → b = a ∨ H b = none) → Q .non H'
theorem ok_init {f : Addr} {fd : FuncData} (F : Fun K "__init__" "Stadium.__init__" sInit f fd) (T : Txt K mg C) : FnOk P w K mg base CX0 1 f fd ["self"] (spInit C) := by
  refine F.ok scInit (fun vs H Q E h => ?_) (fun cdv A outer s H vs Q E hr h => ?_)
  · obtain ⟨a, dx, rfl, _⟩ := h
    rfl
  · obtain ⟨a, dx, rfl, hi, q⟩ := h
    refine ⟨_, pss_cons (ps_fld (pv 0) (pe_lst pa_nil) rfl) (pss_cons (ps_fld (pv 0) (pe_lst pa_nil) rfl) (pss_one (ps_fld (pv 0) (pe_lst pa_nil) rfl))), ?_⟩
    refine ⟨Nat.zero_le _, fun s0 ns => ⟨_, rfl, a, C, dx, _, rfl, (upd_ne (ne_of_none hi ns)).trans hi, T.cl, T.nS, (by show 0 < 1000; decide), ?_⟩⟩
    have as : a ≠ s0 := ne_of_none hi ns
    refine ⟨Nat.zero_le _, fun t0 nt => ⟨_, rfl, a, C, dx, _, rfl, (upd_ne (ne_of_none upd_same nt)).trans upd_same, T.cl, T.nT, (by show 1 < 1000; decide), ?_⟩⟩
    have at_ : a ≠ t0 := ne_of_none upd_same nt
    have st : s0 ≠ t0 := ne_of_none ((upd_ne as.symm).trans upd_same) nt
    refine ⟨Nat.zero_le _, fun p0 np => ⟨_, rfl, a, C, dx, _, rfl, (upd_ne (ne_of_none upd_same np)).trans upd_same, T.cl, T.nP, (by show 2 < 1000; decide), ?_⟩⟩
    have ap : a ≠ p0 := ne_of_none upd_same np
    have sp : s0 ≠ p0 := ne_of_none ((upd_ne as.symm).trans ((upd_ne st).trans ((upd_ne as.symm).trans upd_same))) np
    have tp : t0 ≠ p0 := ne_of_none ((upd_ne at_.symm).trans upd_same) np
    have hp0 : H p0 = none := by
      rw [upd_ne ap.symm, upd_ne tp.symm, upd_ne ap.symm, upd_ne sp.symm] at np
      exact np
    have ht0 : H t0 = none := by
      rw [upd_ne at_.symm, upd_ne st.symm] at nt
      exact nt
    have ef : putF "pairs" (.ref p0) (putF "assignments" (.ref t0) (putF "seats" (.ref s0) [])) = fS s0 t0 p0 := by
      show putF "pairs" (.ref p0) (putF "assignments" (.ref t0) [("seats", .ref s0)]) = fS s0 t0 p0
      rw [put_past (by decide +kernel)]
      show putF "pairs" (.ref p0) [("seats", .ref s0), ("assignments", .ref t0)] = fS s0 t0 p0
      rw [put_past (by decide +kernel), put_past (by decide +kernel)]
      rfl
    rw [ef]
    have ei : ∀ H1 : Hp, (upd H1 a (.ins C dx (fS s0 t0 p0))) a = some (.ins C dx (fS s0 t0 p0)) := fun _ => upd_same
    refine q _ ⟨s0, t0, p0, [], ⟨⟨dx, upd_same⟩, ?_, ?_, ?_, .nil, st, sp, tp⟩⟩ ?_ ?_
    · rw [upd_ne as.symm, upd_ne sp, upd_ne as.symm, upd_ne st, upd_ne as.symm, upd_same]
      rfl
    · rw [upd_ne at_.symm, upd_ne tp, upd_ne at_.symm, upd_same]
      rfl
    · rw [upd_ne ap.symm, upd_same]
      rfl
    · intro b o e hb
      rw [upd_ne hb, upd_ne (ne_of_none e hp0), upd_ne hb, upd_ne (ne_of_none e ht0), upd_ne hb, upd_ne (ne_of_none e ns)]
      exact e
    · rintro b (rfl | ⟨C2, d2, s2, t2, p2, e2, h2⟩)
      · exact .inl rfl
      · rw [upd_same] at e2
        injection (Option.some.inj e2) with e3 e4 e5
        injection e5 with e6 e7
        injection e7 with e8 e9
        injection e9 with e10 e11
        injection (Prod.mk.inj e6).2 with e12
        injection (Prod.mk.inj e8).2 with e13
        injection (Prod.mk.inj e10).2 with e14
        subst e12 e13 e14
        rcases h2 with rfl | rfl | rfl
        · exact .inr ns
        · exact .inr ht0
        · exact .inr hp0
/-! ### block_count, has_block -/
def spBc (C : Addr) : Sp := fun vs H Q _ => ∃ (a : Addr) (m : Stand), vs = [.ref a] ∧ Stad C H a m ∧ Q (.int m.blocks.length) H
theorem seatsV_len (m : Stand) : (seatsV m).length = m.blocks.length := List.length_map _
theorem assV_len (m : Stand) : (assV m).length = m.blocks.length := List.length_map _
theorem ok_bc {f : Addr} {fd : FuncData} (F : Fun K "block_count" "Stadium.block_count" sBc f fd) (T : Txt K mg C) : FnOk P w K mg base CX0 1 f fd ["self"] (spBc C) := by
  refine F.ok scBc (fun vs H Q E h => ?_) (fun cdv A outer s H vs Q E hr h => ?_)
  · obtain ⟨a, m, rfl, _⟩ := h
    rfl
  · obtain ⟨a, m, rfl, ⟨s0, t0, p0, ts, D⟩, q⟩ := h
    refine ⟨_, pss_one (ps_ret (pe_callB call_len_seq (by rfl) T.len PySem.boot_len (pa_cons (pe_fld (pv 0) rfl) pa_nil))), ?_⟩
    obtain ⟨dx, hi⟩ := D.ins
    refine ⟨_, rfl, a, C, dx, _, _, rfl, hi, T.cl, T.nS, fS_s _ _ _, s0, _, rfl, .inl (.inl (.inl D.hs)), ?_⟩
    rw [seatsV_len]
    exact q
def spHb (C : Addr) : Sp := fun vs H Q _ => ∃ (a : Addr) (m : Stand) (i : Int), vs = [.ref a, .int i] ∧ Stad C H a m ∧ Q (.bl (decide (i < m.blocks.length))) H
theorem ok_hb {f : Addr} {fd : FuncData} (F : Fun K "has_block" "Stadium.has_block" sHb f fd) (T : Txt K mg C) : FnOk P w K mg base CX0 1 f fd ["self", "block"] (spHb C) := by
  refine F.ok scHb (fun vs H Q E h => ?_) (fun cdv A outer s H vs Q E hr h => ?_)
  · obtain ⟨a, m, i, rfl, _⟩ := h
    rfl
  · obtain ⟨a, m, i, rfl, ⟨s0, t0, p0, ts, D⟩, q⟩ := h
    refine ⟨_, pss_one (ps_ret (pe_cmpR op_lt (pv 1) (pe_callB call_len_seq (by rfl) T.len PySem.boot_len (pa_cons (pe_fld (pv 0) rfl) pa_nil)) (nomark _))), ?_⟩
    obtain ⟨dx, hi⟩ := D.ins
    refine ⟨_, rfl, _, rfl, a, C, dx, _, _, rfl, hi, T.cl, T.nS, fS_s _ _ _, s0, _, rfl, .inl (.inl (.inl D.hs)), i, _, rfl, rfl, ?_⟩
    rw [seatsV_len]
    exact q
/-! ### are_adjacent -/
def pr (i j : Nat) : Nat × Nat := (min i j, max i j)
def adj (m : Stand) (i j : Nat) : Bool := m.adjacency.any fun z => decide (z = pr i j)
def spAa (C : Addr) : Sp := fun vs H Q _ => ∃ (a : Addr) (m : Stand) (i j : Nat), vs = [.ref a, .int i, .int j] ∧ Stad C H a m ∧ ∀ H', Same H H' → Q (.bl (adj m i j)) H'
theorem min_int (i j : Nat) : (if (j : Int) < i then (j : Int) else i) = ((min i j : Nat) : Int) := by
  by_cases h : j < i
  · rw [if_pos (by omega)]; omega
  · rw [if_neg (by omega)]; omega
theorem max_int (i j : Nat) : (if (j : Int) > i then (j : Int) else i) = ((max i j : Nat) : Int) := by
  by_cases h : i < j
  · rw [if_pos (by omega)]; omega
  · rw [if_neg (by omega)]; omega
theorem any_prD (q : Nat × Nat) : ∀ l : List (Nat × Nat), (l.map prD).any (fun z => PyData.eqv z (prD q)) = l.any fun z => decide (z = q)
  | [] => rfl
  | z :: l => by
    show (PyData.eqv (prD z) (prD q) || (l.map prD).any _) = (decide (z = q) || l.any _)
    rw [prD_eqv, any_prD q l]
theorem ok_aa {f : Addr} {fd : FuncData} (F : Fun K "are_adjacent" "Stadium.are_adjacent" sAa f fd) (T : Txt K mg C) : FnOk P w K mg base CX0 1 f fd ["self", "i", "j"] (spAa C) := by
  refine F.ok scAa (fun vs H Q E h => ?_) (fun cdv A outer s H vs Q E hr h => ?_)
  · obtain ⟨a, m, i, j, rfl, _⟩ := h
    rfl
  · obtain ⟨a, m, i, j, rfl, hS, q⟩ := h
    refine ⟨_, pss_one (ps_ret (pe_cmpR (op_inD (hu65 hr)) (pe_tup (pa_cons (pe_callB (call_min2 rfl) (by rfl) T.min (by decide +kernel) (pa_cons (pv 1) (pa_cons (pv 2) pa_nil))) (pa_cons (pe_callB (call_max2 rfl) (by rfl) T.max (by decide +kernel) (pa_cons (pv 1) (pa_cons (pv 2) pa_nil))) pa_nil))) (pe_fld (pv 0) rfl) (by rfl))), ?_⟩
    refine ⟨_, rfl, _, rfl, i, j, rfl, _, rfl, _, rfl, i, j, rfl, (by show 2 ≤ sizeLine; decide), fun p np => ?_⟩
    have e := same_upd (o := .tup [.int (if (j : Int) < i then (j : Int) else i), .int (if (j : Int) > i then (j : Int) else i)]) np
    obtain ⟨s0, t0, p0, ts, D⟩ := hS.same e
    obtain ⟨dx, hi⟩ := D.ins
    refine ⟨_, rfl, a, C, dx, _, _, rfl, hi, T.cl, T.nP, fS_p _ _ _, prD (pr i j), m.adjacency.map prD, ?_, .lst (.inl (.inl D.hp)) D.prs.data, prD_shaped _, prDs_shaped _, ?_⟩
    · refine .tup (.inl (.inl upd_same)) ?_
      rw [min_int, max_int]
      exact .cons (.int _) (.cons (.int _) .nil)
    · rw [any_prD]
      exact q _ e
end
end SB

set_option Elab.async false
set_option linter.all false
set_option maxRecDepth 100000
set_option maxHeartbeats 4000000
namespace SB
open PySem PySem.Spec PyProof.Rows L2
open Kv437 (Stand Block)
def natsV (l : List Nat) : List V := l.map fun k => V.int (k : Nat)
theorem natsV_len (l : List Nat) : (natsV l).length = l.length := List.length_map _
theorem natsV_snoc (l : List Nat) (k : Nat) : natsV (l ++ [k]) = natsV l ++ [V.int k] := by
  unfold natsV
  rw [List.map_append]
  rfl
theorem range_filter_succ (p : Nat → Bool) (n : Nat) : (List.range (n + 1)).filter p = (List.range n).filter p ++ (if p n = true then [n] else []) := by
  rw [List.range_succ, List.filter_append]
  congr 1
  by_cases h : p n = true
  · simp [h]
  · simp [h]
section
variable {P : Program} {w : World} {K : PySem.W.Frag} {mg : Str → Option Value} {base : Heap} {C : Addr}
def nbs (m : Stand) (i : Nat) : List Nat := (List.range m.blocks.length).filter (adj m i)
def spAb (C : Addr) : Sp := fun vs H Q _ => ∃ (a : Addr) (m : Stand) (i : Nat), vs = [.ref a, .int i] ∧ Stad C H a m ∧ m.blocks.length ≤ 6 ∧
  ∀ H' r, Same H H' → H r = none → H' r = some (.lst (natsV (nbs m i))) → Q (.ref r) H'
theorem ok_ab {f g : Addr} {fd gd : FuncData} (F : Fun K "adjacent_blocks" "Stadium.adjacent_blocks" sAb f fd) (T : Txt K mg C) (mA : Meth K C "are_adjacent" g) (bA : Binds K gd ["self", "i", "j"] [])
    (GA : FnOk P w K mg base CX0 1 g gd ["self", "i", "j"] (spAa C)) : FnOk P w K mg base CX0 2 f fd ["self", "block"] (spAb C) := by
  refine F.ok scAb (fun vs H Q E h => ?_) (fun cdv A outer s H vs Q E hr h => ?_)
  · obtain ⟨a, m, i, rfl, _⟩ := h
    rfl
  · obtain ⟨a, m, i, rfl, hS, h6, q⟩ := h
    refine ⟨_, pss_one (ps_ret (pe_lc (own := [("other", 2)]) (g := gName 2) (by rfl) scAb.nd (pi_range1 (by rfl) T.range (pa_cons (pe_callB call_len_seq (by rfl) T.len PySem.boot_len (pa_cons (pe_fld (pv 0) rfl) pa_nil)) pa_nil))
      (blkOk_by (own := [("other", 2)]) (N := ["self", "block", "other"]) (sc := defScope sAb) (by decide +kernel)) (fun _ _ _ _ _ => pg_name (i := 2) scAb.nd rfl (Or.inl rfl))
      (fun _ _ _ _ _ => pts_one (pt_val (pe_meth (pv 0) T.cl mA GA hr bA .nil pass0 (pa_cons (pv 1) (pa_cons (pv 2) pa_nil)))))
      (fun _ _ _ _ _ => pv 2))), ?_⟩
    obtain ⟨s0, t0, p0, ts, D⟩ := hS
    obtain ⟨dx, hi⟩ := D.ins
    refine ⟨_, rfl, a, C, dx, _, _, rfl, hi, T.cl, T.nS, fS_s _ _ _, s0, _, rfl, .inl (.inl (.inl D.hs)), (seatsV m).length, rfl, ?_, ?_, fun L hL => ?_⟩
    · omega
    · rw [seatsV_len]; omega
    have e0 := same_upd (o := .lst []) hL
    refine lc_range (lo := 0) (n := (seatsV m).length) (fun k H' => Same H H' ∧ H' L = some (.lst (natsV ((List.range k).filter (adj m i))))) ⟨e0, upd_same⟩ ?_ ?_
    · rintro k H2 hk ⟨e, hl⟩
      rw [seatsV_len] at hk
      have hS2 : Stad C H2 a m := ⟨s0, t0, p0, ts, D.same e⟩
      obtain ⟨dx2, hi2⟩ := (D.same e).ins
      refine ⟨rfl, _, rfl, a, dx2, _, rfl, hi2, fS_no _ _ _ _ (by decide +kernel) (by decide +kernel) (by decide +kernel), _, rfl, _, rfl, a, m, i, k, ?_, hS2, fun H3 e3 => ⟨_, rfl, ?_⟩⟩
      · rw [Int.zero_add]
        rfl
      · have er := range_filter_succ (adj m i) k
        refine ite2 (fun h => ⟨_, rfl, _, e3 _ _ hl, ?_, ?_, ?_⟩) (fun h => ⟨e.trans e3, ?_⟩)
        · rw [natsV_len]
          exact Nat.lt_of_le_of_lt (Nat.le_trans (List.length_filter_le _ _) (by rw [List.length_range]; omega)) (by decide : 6 < sizeLine)
        · intro b o hb
          rw [upd_ne (ne_of_none hb hL)]
          exact e3 _ _ (e _ _ hb)
        · rw [upd_same, er, if_pos h, natsV_snoc, Int.zero_add]
        · rw [er, if_neg h, List.append_nil]
          exact e3 _ _ hl
    · rintro H2 ⟨e, hl⟩
      rw [seatsV_len] at hl
      exact q H2 L e hL hl
end
end SB

set_option Elab.async false
set_option linter.all false
set_option maxRecDepth 100000
set_option maxHeartbeats 4000000
namespace SB
open PySem PySem.Spec PyProof.Rows L2
open Kv437 (Stand Block Planner Operation Response)
/-! ### words for tests, heaps, answers -/
theorem iteD {p : Prop} [Decidable p] {A B : Prop} (h1 : p → A) (h2 : ¬ p → B) : if decide p = true then A else B :=
  ite2 (fun h => h1 (of_decide_eq_true h)) (fun h => h2 (fun hp => h (decide_eq_true hp)))
theorem iteND {p : Prop} [Decidable p] {A B : Prop} (h1 : ¬ p → A) (h2 : p → B) : if (!decide p) = true then A else B := by
  by_cases h : p
  · rw [decide_eq_true h]
    exact iteF (h2 h)
  · rw [decide_eq_false h]
    exact iteT (h1 h)
theorem iteB {c : Bool} {A B : Prop} (h1 : c = true → A) (h2 : c = false → B) : if c = true then A else B := by
  cases c
  · exact iteF (h2 rfl)
  · exact iteT (h1 rfl)
theorem iteNB {c : Bool} {A B : Prop} (h1 : c = false → A) (h2 : c = true → B) : if (!c) = true then A else B := by
  cases c
  · exact iteT (h1 rfl)
  · exact iteF (h2 rfl)
def rowV (r : Response) : List V := .int r.code :: natsV r.values
theorem Prs.keep {H H' : Hp} (e : ∀ b xs, H b = some (.tup xs) → H' b = some (.tup xs)) : ∀ {ts : List Addr} {qs : List (Nat × Nat)}, Prs H ts qs → Prs H' ts qs
  | _, _, .nil => .nil
  | _, _, .cons h r => .cons (e _ _ h) (r.keep e)
theorem tup_upd {H : Hp} {s : Addr} {xs : List V} {o : HO} (hs : H s = some (.lst xs)) : ∀ b ys, H b = some (.tup ys) → (upd H s o) b = some (.tup ys) := fun b ys e => by
  rw [upd_ne (ne_of e hs (by intro z; cases z))]
  exact e
theorem foot_of {C : Addr} {H : Hp} {a s t p : Addr} {ts : List Addr} {m : Stand} (D : At C H a s t p ts m) (b : Addr) : Foot H a b ↔ b = a ∨ b = s ∨ b = t ∨ b = p := by
  obtain ⟨dx, hi⟩ := D.ins
  constructor
  · rintro (h | ⟨C2, d2, s2, t2, p2, e2, h2⟩)
    · exact .inl h
    · rw [hi] at e2
      injection (Option.some.inj e2) with e3 e4 e5
      injection e5 with e6 e7
      injection e7 with e8 e9
      injection e9 with e10 e11
      injection (Prod.mk.inj e6).2 with e12
      injection (Prod.mk.inj e8).2 with e13
      injection (Prod.mk.inj e10).2 with e14
      subst e12 e13 e14
      exact .inr h2
  · rintro (h | h)
    · exact .inl h
    · exact .inr ⟨C, dx, s, t, p, hi, h⟩
theorem Kept.refl (H : Hp) (a : Addr) : Kept H H a := ⟨fun _ _ e _ => e, fun _ h => .inl h⟩
theorem Kept.trans {H H1 H2 : Hp} {a : Addr} (k : Kept H H1 a) (l : Kept H1 H2 a) : Kept H H2 a := by
  refine ⟨fun b o e n => ?_, fun b h => ?_⟩
  · refine l.old b o (k.old b o e n) fun f => ?_
    rcases k.new b f with f | f
    · exact n f
    · rw [e] at f
      cases f
  · by_cases c : Foot H a b
    · exact .inl c
    · refine .inr ?_
      cases e : H b with
      | none => rfl
      | some o =>
        rcases l.new b h with f | f
        · rcases k.new b f with f | f
          · exact absurd f c
          · rw [e] at f
            cases f
        · rw [k.old b o e c] at f
          cases f
theorem Kept.same {C : Addr} {H H' : Hp} {a : Addr} {m : Stand} (h : Stad C H a m) (e : Same H H') : Kept H H' a := by
  obtain ⟨s, t, p, ts, D⟩ := h
  exact ⟨fun b o q _ => e b o q, fun b f => .inl ((foot_of D b).mpr ((foot_of (D.same e) b).mp f))⟩
/-- a store to one of the stand's own lists -/
theorem Kept.store {C : Addr} {H H' : Hp} {a s t p s' t' p' : Addr} {ts ts' : List Addr} {m m' : Stand} (D : At C H a s t p ts m) (D' : At C H' a s' t' p' ts' m') (hs : s' = s ∨ H s' = none) (ht : t' = t ∨ H t' = none) (hp : p' = p ∨ H p' = none)
    (e : ∀ b o, H b = some o → b ≠ a → b ≠ s → b ≠ t → b ≠ p → H' b = some o) : Kept H H' a := by
  refine ⟨fun b o q n => ?_, fun b f => ?_⟩
  · rw [foot_of D] at n
    exact e b o q (fun h => n (.inl h)) (fun h => n (.inr (.inl h))) (fun h => n (.inr (.inr (.inl h)))) (fun h => n (.inr (.inr (.inr h))))
  · rw [foot_of D'] at f
    rw [foot_of D]
    rcases f with f | f | f | f
    · exact .inl (.inl f)
    · rcases hs with h | h
      · exact .inl (.inr (.inl (f.trans h)))
      · exact .inr (by rw [f]; exact h)
    · rcases ht with h | h
      · exact .inl (.inr (.inr (.inl (f.trans h))))
      · exact .inr (by rw [f]; exact h)
    · rcases hp with h | h
      · exact .inl (.inr (.inr (.inr (f.trans h))))
      · exact .inr (by rw [f]; exact h)
/-- what is always so of a stand -/
structure WF (m : Stand) : Prop where
  six : m.blocks.length ≤ 6
  seats : ∀ b ∈ m.blocks, b.seats ≤ 99
  ass : ∀ b ∈ m.blocks, b.assignment ≤ 3
  prs : ∀ q ∈ m.adjacency, q.1 < q.2 ∧ q.2 < m.blocks.length
  nd : m.adjacency.Nodup
theorem nodup_sub {α : Type} [BEq α] [LawfulBEq α] : ∀ (l r : List α), l.Nodup → (∀ x ∈ l, x ∈ r) → l.length ≤ r.length
  | [], _, _, _ => Nat.zero_le _
  | x :: l, r, hn, hs => by
    have hx : x ∈ r := hs x (.head _)
    obtain ⟨h1, h2⟩ := List.nodup_cons.mp hn
    have ih := nodup_sub l (r.erase x) h2 (fun y hy => (List.mem_erase_of_ne (fun e => h1 (by rw [← e]; exact hy))).mpr (hs y (.tail _ hy)))
    have hl := List.length_erase_of_mem hx
    have hp : 0 < r.length := List.length_pos_of_mem hx
    show l.length + 1 ≤ r.length
    omega
theorem WF.few {m : Stand} (h : WF m) : m.adjacency.length ≤ 36 := by
  have e : ((List.range 6).flatMap fun i => (List.range 6).map fun j => (i, j)).length = 36 := by decide
  rw [← e]
  refine nodup_sub _ _ h.nd fun q hq => ?_
  obtain ⟨h1, h2⟩ := h.prs q hq
  have h6 := h.six
  exact List.mem_flatMap.mpr ⟨q.1, List.mem_range.mpr (by omega), List.mem_map.mpr ⟨q.2, List.mem_range.mpr (by omega), rfl⟩⟩
/-- what a call of the planner promises: the specification's own step -/
def Out (C : Addr) (H : Hp) (a : Addr) (m : Stand) (op : Operation) (Q : VK) : Prop := ∀ H' r, Stad C H' a ((Planner.mk m).run op).1.stand → Kept H H' a → H r = none → H' r = some (.lst (rowV ((Planner.mk m).run op).2)) → Q (.ref r) H'
/-- an answer that changes nothing -/
theorem Out.pure {C : Addr} {H H' : Hp} {a r : Addr} {m : Stand} {op : Operation} {Q : VK} {p : Planner} {v : Response} (q : Out C H a m op Q) (e : (Planner.mk m).run op = (p, v)) (hp : p = ⟨m⟩) (hS : Stad C H a m) (s : Same H H') (hr : H r = none) (hv : H' r = some (.lst (rowV v))) : Q (.ref r) H' := by
  subst hp
  refine q H' r ?_ (Kept.same hS s) hr ?_
  · rw [e]
    exact hS.same s
  · rw [e]
    exact hv
end SB

set_option Elab.async false
set_option linter.all false
set_option maxRecDepth 100000
set_option maxHeartbeats 4000000
namespace SB
open PySem PySem.Spec PyProof.Rows L2
open Kv437 (Stand Block Planner Operation Response)
/-- a def of the top that keeps its promise -/
structure Fn (P : Program) (w : World) (K : PySem.W.Frag) (mg : Str → Option Value) (base : Heap) (x : Str) (k : Nat) (ps : List Str) (sp : Sp) : Prop where
  ex : ∃ f fd, mg x = some (.ref f) ∧ PySem.W.keepIn K (.ref f) = true ∧ Binds K fd ps [] ∧ FnOk P w K mg base CX0 k f fd ps sp
/-- a method of the class at C that keeps its promise -/
structure Mt (P : Program) (w : World) (K : PySem.W.Frag) (mg : Str → Option Value) (base : Heap) (C : Addr) (x : Str) (k : Nat) (ps : List Str) (sp : Sp) : Prop where
  ex : ∃ f fd, Meth K C x f ∧ Binds K fd ps [] ∧ FnOk P w K mg base CX0 k f fd ps sp
section
variable {X : Cx} {k : Nat} {C : Addr} {ps : List Str} {sp : Sp} {x m : Str} {p pos apos : Pos} {e o : Expr} {es : List Expr} {ta : TE} {t : TA}
theorem pe_fn (F : Fn X.prog X.w X.K X.mg X.base x k ps sp) (hr : Room k X.A) (ha : PA X (e :: es) t) (hg : Gl X x := by rfl)
    (hdb : (x == ("__debug__" : Str)) = false := by decide) (he : starEach (e :: es) X.env = (false, eval e X.env) :: starEach es X.env := by rfl) (hpl : (backTo pos (starEach es X.env)).any (·.1) = false := by rfl) :
    PE X (.Call (.Name x p) (e :: es) [] pos) (tCall sp [] E0 t) := by
  obtain ⟨f, fd, hm, kp, b, ok⟩ := F.ex
  exact pe_call ok hr hg hm kp b .nil pass0 ha hdb he hpl
theorem pe_mt {pl : Sem Bool} (F : Mt X.prog X.w X.K X.mg X.base C m k ps sp) (c : Cls X.K C) (hr : Room k X.A) (he : PE X o ta) (ha : PA X (e :: es) t)
    (hst : starEach (e :: es) X.env = (false, eval e X.env) :: starEach es X.env := by rfl) (hpl : (backTo pos (starEach es X.env)).any (·.1) = false := by rfl)
    (ht : eval (.Call (.Attribute o m apos) (e :: es) [] pos) X.env = (do
      let ov ← eval o X.env
      standAt apos.atName
      let (f, first) ← holding [ov] (getMethod ov m pl)
      callWith pos f first (backTo pos (starEach (e :: es) X.env)) (backToKw pos (keywordEach [] X.env))) := by rfl) :
    PE X (.Call (.Attribute o m apos) (e :: es) [] pos) (tMeth C m sp [] E0 ta t) := by
  obtain ⟨f, fd, hm, b, ok⟩ := F.ex
  exact pe_meth he c hm ok hr b .nil pass0 ha hst hpl ht
theorem pe_mt0 {pl : Sem Bool} (F : Mt X.prog X.w X.K X.mg X.base C m k ps sp) (c : Cls X.K C) (hr : Room k X.A) (he : PE X o ta)
    (ht : eval (.Call (.Attribute o m apos) [] [] pos) X.env = (do
      let ov ← eval o X.env
      standAt apos.atName
      let (f, first) ← holding [ov] (getMethod ov m pl)
      callWith pos f first (backTo pos (starEach [] X.env)) (backToKw pos (keywordEach [] X.env))) := by rfl) :
    PE X (.Call (.Attribute o m apos) [] [] pos) (tMeth C m sp [] E0 ta tNil) := by
  obtain ⟨f, fd, hm, b, ok⟩ := F.ex
  exact pe_meth0 he c hm ok hr b .nil pass0 ht
/-- xs.append(e) -/
theorem pe_append {X : Cx} {o e : Expr} {ta te : TE} {apos pos : Pos} (ho : PE X o ta) (he : PE X e te)
    : True := trivial
end
/-- the constants of the top -/
structure Cs (mg : Str → Option Value) : Prop where
  noSuch : GI mg "NO_SUCH_BLOCK" (-2)
  nothing : GI mg "NOTHING_TO_REMOVE" (-6)
  noPlanner : GI mg "NO_PLANNER" (-11)
  already : GI mg "ALREADY_ADJACENT" (-17)
  out : GI mg "OUT_OF_RANGE" (-22)
  tooMany : GI mg "TOO_MANY_BLOCKS" (-28)
  noAlloc : GI mg "NO_ALLOCATION" (-33)
  empty : GI mg "EMPTY" 0
  anyUse : GI mg "ANY_USE" 0
  home : GI mg "HOME" 1
  away : GI mg "AWAY" 2
  closed : GI mg "CLOSED" 3
  seats : GI mg "MOST_SEATS" 99
  blocks : GI mg "MOST_BLOCKS" 6
abbrev sAdd : Stmt := topS 24
theorem scAdd : FnScope ["stadium", "seats"] ["stadium", "seats"] (defScope sAdd) := ⟨rfl, rfl, rfl, by decide +kernel, rfl, by decide +kernel, by decide +kernel⟩
theorem seatsV_snoc (m : Stand) (x y : Nat) : seatsV { m with blocks := m.blocks ++ [⟨x, y⟩] } = seatsV m ++ [.int x] := by
  show (m.blocks ++ [_]).map _ = m.blocks.map _ ++ _
  rw [List.map_append]
  rfl
theorem assV_snoc (m : Stand) (x y : Nat) : assV { m with blocks := m.blocks ++ [⟨x, y⟩] } = assV m ++ [.int y] := by
  show (m.blocks ++ [_]).map _ = m.blocks.map _ ++ _
  rw [List.map_append]
  rfl
section
variable {P : Program} {w : World} {K : PySem.W.Frag} {mg : Str → Option Value} {base : Heap} {C : Addr}
def spAdd (C : Addr) : Sp := fun vs H Q _ => ∃ (a : Addr) (m : Stand) (x : Nat), vs = [.ref a, .int x] ∧ Stad C H a m ∧ WF m ∧ Out C H a m (.addBlock x) Q
theorem ok_add {f : Addr} {fd : FuncData} (F : Fun K "add_block" "add_block" sAdd f fd) (T : Txt K mg C) (Z : Cs mg) (GB : Mt P w K mg base C "block_count" 1 ["self"] (spBc C)) : FnOk P w K mg base CX0 2 f fd ["stadium", "seats"] (spAdd C) := by
  refine F.ok scAdd (fun vs H Q E h => ?_) (fun cdv A outer s H vs Q E hr h => ?_)
  · obtain ⟨a, m, x, rfl, _⟩ := h
    rfl
  · obtain ⟨a, m, x, rfl, hS, hW, q⟩ := h
    refine ⟨_, pss_cons (ps_if (pt_cmpR op_gt (pv 1) (pe_gi Z.seats) (nomark _)) (pss_one (ps_ret (pe_lst (pa_cons (pe_gi Z.out) pa_nil)))) pss_nil)
      (pss_cons (ps_if (pt_cmpR op_ge (pe_mt0 GB T.cl hr (pv 0)) (pe_gi Z.blocks) (nomark _)) (pss_one (ps_ret (pe_lst (pa_cons (pe_gi Z.tooMany) pa_nil)))) pss_nil)
      (pss_cons (ps_expr (pe_bm PySem.F.plainAttrs_list PySem.F.slot_list_append PySem.F.type_list_append mt_append (pe_fld (pv 0) rfl) (pa_cons (pv 1) pa_nil)))
      (pss_cons (ps_expr (pe_bm PySem.F.plainAttrs_list PySem.F.slot_list_append PySem.F.type_list_append mt_append (pe_fld (pv 0) rfl) (pa_cons (pe_gi Z.anyUse) pa_nil)))
      (pss_one (ps_ret (pe_lst (pa_cons (pe_op op_sub (pe_mt0 GB T.cl hr (pv 0)) pe_int) pa_nil))))))), ?_⟩
    refine ⟨_, rfl, _, _, rfl, rfl, _, rfl, iteD (fun h => ?_) (fun h => ?_)⟩
    · refine ⟨(by show 1 ≤ sizeLine; decide), fun r hr => ?_⟩
      have e : (Planner.mk m).run (.addBlock x) = (⟨m⟩, .error (-22)) := if_pos (by omega)
      exact Out.pure q e rfl hS (same_upd hr) hr upd_same
    obtain ⟨s0, t0, p0, ts, D⟩ := hS
    obtain ⟨dx, hi⟩ := D.ins
    refine ⟨_, rfl, a, dx, _, rfl, hi, fS_no _ _ _ _ (by decide +kernel) (by decide +kernel) (by decide +kernel), a, m, rfl, ⟨s0, t0, p0, ts, D⟩, _, _, rfl, rfl, _, rfl, iteD (fun h2 => ?_) (fun h2 => ?_)⟩
    · refine ⟨(by show 1 ≤ sizeLine; decide), fun r hr => ?_⟩
      have e : (Planner.mk m).run (.addBlock x) = (⟨m⟩, .error (-28)) := (if_neg (by omega)).trans (if_pos (by show 6 ≤ m.blocks.length; omega))
      exact Out.pure q e rfl ⟨s0, t0, p0, ts, D⟩ (same_upd hr) hr upd_same
    have h6 := hW.six
    refine ⟨_, rfl, a, C, dx, _, _, rfl, hi, T.cl, T.nS, fS_s _ _ _, .inl ⟨rfl, _, .inl (.inl D.hs)⟩, _, rfl, s0, _, _, rfl, rfl, D.hs, ?_, ?_⟩
    · rw [seatsV_len]
      exact Nat.lt_of_le_of_lt h6 (by decide)
    have eat : a ≠ s0 := ne_of hi D.hs (by intro z; cases z)
    have hi2 := (upd_ne (o := .lst (seatsV m ++ [.int x])) eat).trans hi
    have ht2 := (upd_ne (o := .lst (seatsV m ++ [.int x])) D.st.symm).trans D.ht
    refine ⟨_, rfl, a, C, dx, _, _, rfl, hi2, T.cl, T.nT, fS_t _ _ _, .inl ⟨rfl, _, .inl (.inl ht2)⟩, t0, _, _, rfl, rfl, ht2, ?_, ?_⟩
    · rw [assV_len]
      exact Nat.lt_of_le_of_lt h6 (by decide)
    have eat2 : a ≠ t0 := ne_of hi D.ht (by intro z; cases z)
    have D3 : At C (upd (upd H s0 (.lst (seatsV m ++ [.int x]))) t0 (.lst (assV m ++ [.int 0]))) a s0 t0 p0 ts { m with blocks := m.blocks ++ [⟨x, 0⟩] } := by
      refine ⟨⟨dx, (upd_ne eat2).trans hi2⟩, ?_, ?_, ?_, ?_, D.st, D.sp, D.tp⟩
      · rw [upd_ne D.st, upd_same, seatsV_snoc]
      · rw [upd_same, assV_snoc]
        rfl
      · rw [upd_ne D.tp.symm, upd_ne D.sp.symm]
        exact D.hp
      · exact (D.prs.keep (tup_upd D.hs)).keep (tup_upd ht2)
    refine ⟨_, rfl, a, dx, _, rfl, (upd_ne eat2).trans hi2, fS_no _ _ _ _ (by decide +kernel) (by decide +kernel) (by decide +kernel), a, _, rfl, ⟨s0, t0, p0, ts, D3⟩, _, _, rfl, rfl, (by show 1 ≤ sizeLine; decide), fun r hr => ?_⟩
    have e : (Planner.mk m).run (.addBlock x) = (⟨{ m with blocks := m.blocks ++ [⟨x, 0⟩] }⟩, .number m.blocks.length) := (if_neg (by omega)).trans (if_neg (by show ¬ 6 ≤ m.blocks.length; omega))
    have hr0 : H r = none := by
      have n1 : r ≠ s0 := fun z => by
        rw [z, upd_ne D.st, upd_same] at hr
        cases hr
      have n2 : r ≠ t0 := fun z => by
        rw [z, upd_same] at hr
        cases hr
      rw [upd_ne n2, upd_ne n1] at hr
      exact hr
    refine q _ r ?_ ?_ hr0 ?_
    · rw [e]
      exact ⟨s0, t0, p0, ts, D3.same (same_upd hr)⟩
    · exact Kept.store D (D3.same (same_upd hr)) (.inl rfl) (.inl rfl) (.inl rfl) fun b o hb n1 n2 n3 n4 => by
        rw [upd_ne (ne_of_none hb hr0), upd_ne n3, upd_ne n2]
        exact hb
    · rw [e, upd_same]
      show some (HO.lst [V.int (((m.blocks ++ [(⟨x, 0⟩ : Block)]).length : Int) - 1)]) = some (HO.lst (rowV (.number m.blocks.length)))
      have el : (((m.blocks ++ [(⟨x, 0⟩ : Block)]).length : Int) - 1) = (m.blocks.length : Int) := by
        rw [List.length_append]
        show ((m.blocks.length + 1 : Nat) : Int) - 1 = _
        omega
      rw [el]
      rfl
end
end SB

set_option Elab.async false
set_option linter.all false
set_option maxRecDepth 100000
set_option maxHeartbeats 4000000
namespace SB
open PySem PySem.Spec PyProof.Rows L2
open Kv437 (Stand Block Planner Operation Response)
theorem ixN_nat {n i : Nat} (h : i < n) : ixN n (i : Int) = some i := by
  unfold ixN
  rw [if_pos (by omega), if_pos (by omega)]
  rfl
theorem map_mod_set {f : Block → V} {g : Block → Block} {y : V} (h : ∀ b, f (g b) = y) : ∀ (l : List Block) (i : Nat), (l.modify i g).map f = (l.map f).set i y
  | [], 0 => rfl
  | [], _ + 1 => rfl
  | b :: l, 0 => by
    show f (g b) :: l.map f = y :: l.map f
    rw [h]
  | b :: l, i + 1 => congrArg (f b :: ·) (map_mod_set h l i)
theorem map_mod_same {f : Block → V} {g : Block → Block} (h : ∀ b, f (g b) = f b) : ∀ (l : List Block) (i : Nat), (l.modify i g).map f = l.map f
  | [], 0 => rfl
  | [], _ + 1 => rfl
  | b :: l, 0 => by
    show f (g b) :: l.map f = f b :: l.map f
    rw [h]
  | b :: l, i + 1 => congrArg (f b :: ·) (map_mod_same h l i)
theorem block_at {m : Stand} {i : Nat} (h : i < m.blocks.length) : m.blocks[i]? = some (m.block i) := by
  show _ = some (m.blocks.getD i ⟨0, 0⟩)
  rw [List.getD_eq_getElem?_getD, List.getElem?_eq_getElem h]
  rfl
theorem seatsV_at {m : Stand} {i : Nat} (h : i < m.blocks.length) : (seatsV m)[i]? = some (.int (m.seatsOf i : Nat)) := by
  show (m.blocks.map _)[i]? = _
  rw [List.getElem?_map, block_at h]
  rfl
theorem assV_at {m : Stand} {i : Nat} (h : i < m.blocks.length) : (assV m)[i]? = some (.int ((m.block i).assignment : Nat)) := by
  show (m.blocks.map _)[i]? = _
  rw [List.getElem?_map, block_at h]
  rfl
theorem isB_f {m : Stand} {i : Nat} (h : ¬ i < m.blocks.length) : (Planner.mk m).isBlock i = false := decide_eq_false h
theorem isB_t {m : Stand} {i : Nat} (h : i < m.blocks.length) : ¬ (Planner.mk m).isBlock i = false := by
  rw [show (Planner.mk m).isBlock i = true from decide_eq_true h]
  exact Bool.noConfusion
/-- one of the stand's lists is stored to: what stands behind it -/
theorem At.setS {C : Addr} {H : Hp} {a s t p : Addr} {ts : List Addr} {m m' : Stand} {xs : List V} (D : At C H a s t p ts m) (hs : seatsV m' = xs) (ht : assV m' = assV m) (ha : m'.adjacency = m.adjacency) : At C (upd H s (.lst xs)) a s t p ts m' := by
  obtain ⟨dx, hi⟩ := D.ins
  refine ⟨⟨dx, (upd_ne (ne_of hi D.hs (by intro z; cases z))).trans hi⟩, ?_, ?_, ?_, ?_, D.st, D.sp, D.tp⟩
  · rw [upd_same, hs]
  · rw [upd_ne D.st.symm, ht]
    exact D.ht
  · rw [upd_ne D.sp.symm]
    exact D.hp
  · rw [ha]
    exact D.prs.keep (tup_upd D.hs)
theorem At.setT {C : Addr} {H : Hp} {a s t p : Addr} {ts : List Addr} {m m' : Stand} {xs : List V} (D : At C H a s t p ts m) (hs : seatsV m' = seatsV m) (ht : assV m' = xs) (ha : m'.adjacency = m.adjacency) : At C (upd H t (.lst xs)) a s t p ts m' := by
  obtain ⟨dx, hi⟩ := D.ins
  refine ⟨⟨dx, (upd_ne (ne_of hi D.ht (by intro z; cases z))).trans hi⟩, ?_, ?_, ?_, ?_, D.st, D.sp, D.tp⟩
  · rw [upd_ne D.st, hs]
    exact D.hs
  · rw [upd_same, ht]
  · rw [upd_ne D.tp.symm]
    exact D.hp
  · rw [ha]
    exact D.prs.keep (tup_upd D.ht)
/-- a store within the stand's lists, then a new answer -/
theorem Out.stored {C : Addr} {H H1 : Hp} {a s t p r : Addr} {ts ts' : List Addr} {m m' : Stand} {op : Operation} {Q : VK} {v : Response} {o : HO} (q : Out C H a m op Q) (D : At C H a s t p ts m) (D' : At C H1 a s t p ts' m')
    (k : ∀ b o, H b = some o → b ≠ a → b ≠ s → b ≠ t → b ≠ p → H1 b = some o) (n0 : ∀ b, H1 b = none → H b = none) (e : (Planner.mk m).run op = (⟨m'⟩, v)) (hr : H1 r = none) (ho : o = .lst (rowV v)) : Q (.ref r) (upd H1 r o) := by
  subst ho
  refine q _ r ?_ ?_ (n0 r hr) ?_
  · rw [e]
    exact ⟨s, t, p, ts', D'.same (same_upd hr)⟩
  · exact Kept.store D (D'.same (same_upd hr)) (.inl rfl) (.inl rfl) (.inl rfl) fun b o hb n1 n2 n3 n4 => same_upd hr b o (k b o hb n1 n2 n3 n4)
  · rw [e, upd_same]
theorem none_upd {H : Hp} {s : Addr} {o o' : HO} (hs : H s = some o') : ∀ b, (upd H s o) b = none → H b = none := fun b e => by
  have n : b ≠ s := fun z => by
    rw [z, upd_same] at e
    cases e
  rw [upd_ne n] at e
  exact e
abbrev sSet : Stmt := topS 26
abbrev sAsg : Stmt := topS 27
theorem scSet : FnScope ["stadium", "block", "seats", "previous"] ["stadium", "block", "seats"] (defScope sSet) := ⟨rfl, rfl, rfl, by decide +kernel, rfl, by decide +kernel, by decide +kernel⟩
theorem scAsg : FnScope ["stadium", "block", "assignment", "previous"] ["stadium", "block", "assignment"] (defScope sAsg) := ⟨rfl, rfl, rfl, by decide +kernel, rfl, by decide +kernel, by decide +kernel⟩
section
variable {P : Program} {w : World} {K : PySem.W.Frag} {mg : Str → Option Value} {base : Heap} {C : Addr}
def spSet (C : Addr) : Sp := fun vs H Q _ => ∃ (a : Addr) (m : Stand) (i x : Nat), vs = [.ref a, .int i, .int x] ∧ Stad C H a m ∧ WF m ∧ Out C H a m (.setSeats i x) Q
theorem ok_set {f : Addr} {fd : FuncData} (F : Fun K "set_seats" "set_seats" sSet f fd) (T : Txt K mg C) (Z : Cs mg) (GH : Mt P w K mg base C "has_block" 1 ["self", "block"] (spHb C)) : FnOk P w K mg base CX0 2 f fd ["stadium", "block", "seats"] (spSet C) := by
  refine F.ok scSet (fun vs H Q E h => ?_) (fun cdv A outer s H vs Q E hr h => ?_)
  · obtain ⟨a, m, i, x, rfl, _⟩ := h
    rfl
  · obtain ⟨a, m, i, x, rfl, hS, hW, q⟩ := h
    refine ⟨_, pss_cons (ps_if (pt_not (pt_val (pe_mt GH T.cl hr (pv 0) (pa_cons (pv 1) pa_nil)))) (pss_one (ps_ret (pe_lst (pa_cons (pe_gi Z.noSuch) pa_nil)))) pss_nil)
      (pss_cons (ps_if (pt_cmpR op_gt (pv 2) (pe_gi Z.seats) (nomark _)) (pss_one (ps_ret (pe_lst (pa_cons (pe_gi Z.out) pa_nil)))) pss_nil)
      (pss_cons (ps_set (i := 3) scSet.nd rfl (.inl rfl) (pe_ix ix_list (pe_fld (pv 0) rfl) (pv 1) (fun _ _ => rfl)))
      (pss_cons (ps_asg (pv 2) (pg_sub (pe_fld (pv 0) rfl) (pv 1) set_list))
      (pss_one (ps_ret (pe_lst (pa_cons (pv 3) pa_nil))))))), ?_⟩
    obtain ⟨s0, t0, p0, ts, D⟩ := hS
    obtain ⟨dx, hi⟩ := D.ins
    have hS : Stad C H a m := ⟨s0, t0, p0, ts, D⟩
    refine ⟨_, rfl, a, dx, _, rfl, hi, fS_no _ _ _ _ (by decide +kernel) (by decide +kernel) (by decide +kernel), _, rfl, a, m, i, rfl, hS, _, rfl, iteND (fun h => ?_) (fun h => ?_)⟩
    · refine ⟨(by show 1 ≤ sizeLine; decide), fun r hr => ?_⟩
      have e : (Planner.mk m).run (.setSeats i x) = (⟨m⟩, .error (-2)) := if_pos (isB_f (by omega))
      exact Out.pure q e rfl hS (same_upd hr) hr upd_same
    have hil : i < m.blocks.length := by omega
    refine ⟨_, rfl, _, _, rfl, rfl, _, rfl, iteD (fun h2 => ?_) (fun h2 => ?_)⟩
    · refine ⟨(by show 1 ≤ sizeLine; decide), fun r hr => ?_⟩
      have e : (Planner.mk m).run (.setSeats i x) = (⟨m⟩, .error (-22)) := (if_neg (isB_t hil)).trans (if_pos (by omega))
      exact Out.pure q e rfl hS (same_upd hr) hr upd_same
    refine ⟨_, rfl, a, C, dx, _, _, rfl, hi, T.cl, T.nS, fS_s _ _ _, _, rfl, s0, _, _, _, rfl, rfl, .inl (.inl D.hs), at_of rfl (seatsV_at hil), ?_⟩
    refine ⟨_, rfl, _, rfl, a, C, dx, _, _, rfl, hi, T.cl, T.nS, fS_s _ _ _, _, rfl, s0, _, _, i, rfl, rfl, D.hs, ixN_nat (by rw [seatsV_len]; exact hil), ?_⟩
    refine ⟨_, rfl, (by show 1 ≤ sizeLine; decide), fun r hr => ?_⟩
    refine Out.stored q D (D.setS (m' := { m with blocks := m.blocks.modify i fun block => { block with seats := x } }) ?_ ?_ rfl) ?_ (none_upd D.hs) ((if_neg (isB_t hil)).trans (if_neg (by omega))) hr rfl
    · exact map_mod_set (f := fun b => V.int (b.seats : Nat)) (g := fun b => { b with seats := x }) (y := .int (x : Nat)) (fun _ => rfl) _ _
    · exact map_mod_same (f := fun b => V.int (b.assignment : Nat)) (g := fun b => { b with seats := x }) (fun _ => rfl) _ _
    · intro b o hb n1 n2 n3 n4
      rw [upd_ne n2]
      exact hb
def spAsg (C : Addr) : Sp := fun vs H Q _ => ∃ (a : Addr) (m : Stand) (i x : Nat), vs = [.ref a, .int i, .int x] ∧ Stad C H a m ∧ WF m ∧ Out C H a m (.assign i x) Q
theorem ok_asg {f : Addr} {fd : FuncData} (F : Fun K "assign" "assign" sAsg f fd) (T : Txt K mg C) (Z : Cs mg) (GH : Mt P w K mg base C "has_block" 1 ["self", "block"] (spHb C)) : FnOk P w K mg base CX0 2 f fd ["stadium", "block", "assignment"] (spAsg C) := by
  refine F.ok scAsg (fun vs H Q E h => ?_) (fun cdv A outer s H vs Q E hr h => ?_)
  · obtain ⟨a, m, i, x, rfl, _⟩ := h
    rfl
  · obtain ⟨a, m, i, x, rfl, hS, hW, q⟩ := h
    refine ⟨_, pss_cons (ps_if (pt_not (pt_val (pe_mt GH T.cl hr (pv 0) (pa_cons (pv 1) pa_nil)))) (pss_one (ps_ret (pe_lst (pa_cons (pe_gi Z.noSuch) pa_nil)))) pss_nil)
      (pss_cons (ps_if (pt_cmpR op_gt (pv 2) (pe_gi Z.closed) (nomark _)) (pss_one (ps_ret (pe_lst (pa_cons (pe_gi Z.out) pa_nil)))) pss_nil)
      (pss_cons (ps_set (i := 3) scAsg.nd rfl (.inl rfl) (pe_ix ix_list (pe_fld (pv 0) rfl) (pv 1) (fun _ _ => rfl)))
      (pss_cons (ps_asg (pv 2) (pg_sub (pe_fld (pv 0) rfl) (pv 1) set_list))
      (pss_one (ps_ret (pe_lst (pa_cons (pv 3) pa_nil))))))), ?_⟩
    obtain ⟨s0, t0, p0, ts, D⟩ := hS
    obtain ⟨dx, hi⟩ := D.ins
    have hS : Stad C H a m := ⟨s0, t0, p0, ts, D⟩
    refine ⟨_, rfl, a, dx, _, rfl, hi, fS_no _ _ _ _ (by decide +kernel) (by decide +kernel) (by decide +kernel), _, rfl, a, m, i, rfl, hS, _, rfl, iteND (fun h => ?_) (fun h => ?_)⟩
    · refine ⟨(by show 1 ≤ sizeLine; decide), fun r hr => ?_⟩
      have e : (Planner.mk m).run (.assign i x) = (⟨m⟩, .error (-2)) := if_pos (isB_f (by omega))
      exact Out.pure q e rfl hS (same_upd hr) hr upd_same
    have hil : i < m.blocks.length := by omega
    refine ⟨_, rfl, _, _, rfl, rfl, _, rfl, iteD (fun h2 => ?_) (fun h2 => ?_)⟩
    · refine ⟨(by show 1 ≤ sizeLine; decide), fun r hr => ?_⟩
      have e : (Planner.mk m).run (.assign i x) = (⟨m⟩, .error (-22)) := (if_neg (isB_t hil)).trans (if_pos (by omega))
      exact Out.pure q e rfl hS (same_upd hr) hr upd_same
    refine ⟨_, rfl, a, C, dx, _, _, rfl, hi, T.cl, T.nT, fS_t _ _ _, _, rfl, t0, _, _, _, rfl, rfl, .inl (.inl D.ht), at_of rfl (assV_at hil), ?_⟩
    refine ⟨_, rfl, _, rfl, a, C, dx, _, _, rfl, hi, T.cl, T.nT, fS_t _ _ _, _, rfl, t0, _, _, i, rfl, rfl, D.ht, ixN_nat (by rw [assV_len]; exact hil), ?_⟩
    refine ⟨_, rfl, (by show 1 ≤ sizeLine; decide), fun r hr => ?_⟩
    refine Out.stored q D (D.setT (m' := m.withAssignment i x) ?_ ?_ rfl) ?_ (none_upd D.ht) ((if_neg (isB_t hil)).trans (if_neg (by omega))) hr rfl
    · exact map_mod_same (f := fun b => V.int (b.seats : Nat)) (g := fun b => { b with assignment := x }) (fun _ => rfl) _ _
    · exact map_mod_set (f := fun b => V.int (b.assignment : Nat)) (g := fun b => { b with assignment := x }) (y := .int (x : Nat)) (fun _ => rfl) _ _
    · intro b o hb n1 n2 n3 n4
      rw [upd_ne n3]
      exact hb
end
end SB

set_option Elab.async false
set_option linter.all false
set_option maxRecDepth 100000
set_option maxHeartbeats 4000000
namespace SB
open PySem PySem.Spec PyProof.Rows L2
open Kv437 (Stand Block Planner Operation Response)
/-! ### list.remove(y) where items are data of any depth -/
def rRemD (K : PySem.W.Frag) : V → List V → Hp → VK → Prop := fun x xs H Q => ∃ (l : Addr) (ys : List V) (y : V) (d : PyData) (ds : List PyData) (j : Nat) (z : PyData), x = .ref l ∧ xs = [y] ∧ H l = some (.lst ys) ∧ DpAll K H ys ds ∧ Dp K H y d ∧
  SeqAt.shaped (.list ds) = true ∧ SeqAt.shaped d = true ∧ ds[j]? = some z ∧ PyData.eqv z d = true ∧ (∀ (m : Nat) (z' : PyData), m < j → ds[m]? = some z' → PyData.eqv z' d = false) ∧ Q .non (upd H l (.lst (ys.eraseIdx j)))
theorem mt_removeD {X : Cx} (hu : X.A.units + 65 < cLine) : MtM X "list.remove" (rRemD X.K) := by
  intro pins s σ H x xs v us Q I rx rxs h
  obtain ⟨l, ys, y, d, ds, j, z, rfl, rfl, hH, ha, hy, sl, sd, hz, hzj, hno, q⟩ := h
  cases rx
  obtain ⟨uy, rfl, ry⟩ := rxs.one
  obtain ⟨bs, r1⟩ := Dp.reads I d y uy hy ry
  have hxs : PyData.canLayAll0 ds = true := SeqAt.canLay_of_shaped sl
  have hroom : X.A.units + 1 + min (PyData.depthAll ds) d.depth < cLine := room_in_shaped sd hu
  obtain ⟨zl, its, n, r, hl, e⟩ := I.lstM hH
  obtain ⟨as, h4⟩ := Dp.readsAll I ds _ its ha r
  have hn : its.length = ds.length := SeqAt.ReadsAll.length ds its as h4
  have hmap : its.map (SeqAt.readOf s.heap) = ds := SeqAt.readsAll_map ds its as hxs h4
  obtain ⟨hjd, _⟩ := List.getElem?_eq_some_iff.mp hz
  have hjl : j < its.length := by omega
  have hj : j < its.toArray.size := by simpa using hjl
  have at_ : ∀ (m : Nat) (hm : m < its.toArray.size) (z' : PyData), ds[m]? = some z' → SeqAt.readOf s.heap its.toArray[m] = z' := by
    intro m hm z' hz'
    have hml : m < its.length := by simpa using hm
    rw [← hmap, List.getElem?_map, List.getElem?_eq_getElem hml] at hz'
    have e1 : SeqAt.readOf s.heap its[m] = z' := Option.some.inj (show some (SeqAt.readOf s.heap its[m]) = some z' from hz')
    simpa using e1
  refine call_meets PySem.F.slot_list_remove ⟨_, e, rfl⟩ PySem.F.entry_list_remove (PySem.F.args_list_remove_2 _ _)
    (SeqAt.list_removeAt l its.toArray n _ _ uy (fun u => PyData.eqv (SeqAt.readOf s.heap u) d) j hj ?_ ?_ (by rw [List.size_toArray]; omega)) ⟨e, SeqAt.items_eqAt (vs := its.toArray) (show ReadsAll s.heap its.toArray.toList ds as from h4) r1 hxs (SeqAt.canLay_of_shaped sd) hroom, ?_⟩
  · show PyData.eqv (SeqAt.readOf s.heap its.toArray[j]) d = true
    rw [at_ j hj z hz]
    exact hzj
  · intro m hm hmj
    have hmd : m < ds.length := by
      have : m < its.length := by simpa using hm
      omega
    have hz' : ds[m]? = some ds[m] := List.getElem?_eq_getElem hmd
    show PyData.eqv (SeqAt.readOf s.heap its.toArray[m]) d = false
    rw [at_ m hm _ hz']
    exact hno m _ hmj hz'
  · refine ⟨.non, _, I.lset (its' := its.eraseIdx j) (t' := s.toks) hH e ?_ (r.eraseIdx j) ?_, rfl, q⟩
    · show its.toArray.eraseIdxIfInBounds j = (its.eraseIdx j).toArray
      rw [List.eraseIdxIfInBounds_toArray]
    · have z2 : (ys.eraseIdx j).length ≤ ys.length := List.length_eraseIdx_le _ _
      omega
end SB

set_option Elab.async false
set_option linter.all false
set_option maxRecDepth 100000
set_option maxHeartbeats 4000000
namespace SB
open PySem PySem.Spec PyProof.Rows L2
open Kv437 (Stand Block Planner Operation Response)
theorem pr_iff {q : Nat × Nat} (h : q.1 < q.2) (i j : Nat) : ((q.1 == i && q.2 == j) || (q.1 == j && q.2 == i)) = decide (q = pr i j) := by
  obtain ⟨x, y⟩ := q
  have h : x < y := h
  rw [Bool.eq_iff_iff, decide_eq_true_iff]
  simp only [Bool.or_eq_true, Bool.and_eq_true, beq_iff_eq, pr, Prod.mk.injEq]
  omega
theorem any_pr {l : List (Nat × Nat)} (h : ∀ q ∈ l, q.1 < q.2) (i j : Nat) : (l.any fun q => (q.1 == i && q.2 == j) || (q.1 == j && q.2 == i)) = l.any fun q => decide (q = pr i j) := by
  induction l with
  | nil => rfl
  | cons q l ih =>
    show (((q.1 == i && q.2 == j) || (q.1 == j && q.2 == i)) || l.any _) = (decide (q = pr i j) || l.any _)
    rw [pr_iff (h q (.head _)), ih fun z hz => h z (.tail _ hz)]
theorem adj_eq {m : Stand} (h : WF m) (i j : Nat) : m.areAdjacent i j = adj m i j := any_pr (fun q hq => (h.prs q hq).1) i j
theorem Prs.snoc {H : Hp} {p : Addr} {q : Nat × Nat} (hp : H p = some (.tup [.int q.1, .int q.2])) : ∀ {ts : List Addr} {qs : List (Nat × Nat)}, Prs H ts qs → Prs H (ts ++ [p]) (qs ++ [q])
  | _, _, .nil => .cons hp .nil
  | _, _, .cons h r => .cons h (r.snoc hp)
theorem Prs.erase {H : Hp} : ∀ {ts : List Addr} {qs : List (Nat × Nat)} (j : Nat), Prs H ts qs → Prs H (ts.eraseIdx j) (qs.eraseIdx j)
  | _, _, _, .nil => .nil
  | _, _, 0, .cons h r => r
  | _, _, j + 1, .cons h r => .cons h (r.erase j)
theorem refs_erase : ∀ (ts : List Addr) (j : Nat), (ts.map V.ref).eraseIdx j = (ts.eraseIdx j).map V.ref
  | [], _ => rfl
  | _ :: _, 0 => rfl
  | a :: ts, j + 1 => congrArg (V.ref a :: ·) (refs_erase ts j)
theorem erase_filter {q : Nat × Nat} : ∀ {l : List (Nat × Nat)} {j : Nat}, l.Nodup → l[j]? = some q → l.eraseIdx j = l.filter fun z => z != q
  | [], _, _, h => by simp at h
  | x :: l, 0, hn, h => by
    have e : x = q := Option.some.inj h
    subst e
    have hx := (List.nodup_cons.mp hn).1
    have e1 : (x :: l).filter (fun z => z != x) = l.filter fun z => z != x := by
      rw [List.filter_cons, if_neg (by simp)]
    rw [e1]
    show l = _
    refine (List.filter_eq_self.mpr fun z hz => ?_).symm
    exact bne_iff_ne.mpr fun e => hx (by rw [← e]; exact hz)
  | x :: l, j + 1, hn, h => by
    obtain ⟨h1, h2⟩ := List.nodup_cons.mp hn
    have h' : l[j]? = some q := h
    have hq : q ∈ l := List.mem_of_getElem? h'
    have ne : (x != q) = true := bne_iff_ne.mpr fun e => h1 (by rw [e]; exact hq)
    rw [List.filter_cons, if_pos ne, ← erase_filter h2 h']
    rfl
theorem adj_true {m : Stand} {i j : Nat} (h : adj m i j = true) : pr i j ∈ m.adjacency := by
  obtain ⟨q, hq, e⟩ := List.any_eq_true.mp h
  rw [← of_decide_eq_true e]
  exact hq
theorem adj_false {m : Stand} {i j : Nat} (h : adj m i j = false) : pr i j ∉ m.adjacency := fun hq => by
  have : adj m i j = true := List.any_eq_true.mpr ⟨_, hq, decide_eq_true rfl⟩
  rw [h] at this
  cases this
/-- the first place of an item -/
theorem first_at {q : Nat × Nat} : ∀ {l : List (Nat × Nat)}, q ∈ l → ∃ j : Nat, l[j]? = some q ∧ ∀ (k : Nat) (z : Nat × Nat), k < j → l[k]? = some z → z ≠ q
  | x :: l, h => by
    by_cases e : x = q
    · subst e
      exact ⟨0, rfl, fun k z hk _ => absurd hk (Nat.not_lt_zero _)⟩
    · have h' : q ∈ l := by
        rcases List.mem_cons.mp h with h | h
        · exact absurd h.symm e
        · exact h
      obtain ⟨j, h1, h2⟩ := first_at h'
      refine ⟨j + 1, h1, fun k z hk hz => ?_⟩
      cases k with
      | zero =>
        have : x = z := Option.some.inj hz
        rw [← this]
        exact e
      | succ k => exact h2 k z (by omega) hz
/-- the list of the pairs is stored to -/
theorem At.setP {C : Addr} {H : Hp} {a s t p : Addr} {ts ts' : List Addr} {m m' : Stand} (D : At C H a s t p ts m) (hb : m'.blocks = m.blocks) (ha : Prs H ts' m'.adjacency) : At C (upd H p (.lst (ts'.map V.ref))) a s t p ts' m' := by
  obtain ⟨dx, hi⟩ := D.ins
  refine ⟨⟨dx, (upd_ne (ne_of hi D.hp (by intro z; cases z))).trans hi⟩, ?_, ?_, ?_, ?_, D.st, D.sp, D.tp⟩
  · rw [upd_ne D.sp, show seatsV m' = seatsV m from by unfold seatsV; rw [hb]]
    exact D.hs
  · rw [upd_ne D.tp, show assV m' = assV m from by unfold assV; rw [hb]]
    exact D.ht
  · rw [upd_same]
  · exact ha.keep (tup_upd D.hp)
abbrev sCon : Stmt := topS 28
abbrev sDis : Stmt := topS 29
theorem scCon : FnScope ["stadium", "i", "j"] ["stadium", "i", "j"] (defScope sCon) := ⟨rfl, rfl, rfl, by decide +kernel, rfl, by decide +kernel, by decide +kernel⟩
theorem scDis : FnScope ["stadium", "i", "j"] ["stadium", "i", "j"] (defScope sDis) := ⟨rfl, rfl, rfl, by decide +kernel, rfl, by decide +kernel, by decide +kernel⟩
section
variable {P : Program} {w : World} {K : PySem.W.Frag} {mg : Str → Option Value} {base : Heap} {C : Addr}
def spCon (C : Addr) : Sp := fun vs H Q _ => ∃ (a : Addr) (m : Stand) (i j : Nat), vs = [.ref a, .int i, .int j] ∧ Stad C H a m ∧ WF m ∧ Out C H a m (.connect i j) Q
theorem ok_con {f : Addr} {fd : FuncData} (F : Fun K "connect" "connect" sCon f fd) (T : Txt K mg C) (Z : Cs mg) (GH : Mt P w K mg base C "has_block" 1 ["self", "block"] (spHb C)) (GA : Mt P w K mg base C "are_adjacent" 1 ["self", "i", "j"] (spAa C)) : FnOk P w K mg base CX0 2 f fd ["stadium", "i", "j"] (spCon C) := by
  refine F.ok scCon (fun vs H Q E h => ?_) (fun cdv A outer s H vs Q E hr h => ?_)
  · obtain ⟨a, m, i, x, rfl, _⟩ := h
    rfl
  · obtain ⟨a, m, i, j, rfl, hS, hW, q⟩ := h
    refine ⟨_, pss_cons (ps_if (pt_not (PW.pt (pw_and (pt_val (pe_mt GH T.cl hr (pv 0) (pa_cons (pv 1) pa_nil))) (pw_and1 (pt_val (pe_mt GH T.cl hr (pv 0) (pa_cons (pv 2) pa_nil))))))) (pss_one (ps_ret (pe_lst (pa_cons (pe_gi Z.noSuch) pa_nil)))) pss_nil)
      (pss_cons (ps_if (pt_cmpR op_eq (pv 1) (pv 2) (nomark _)) (pss_one (ps_ret (pe_lst (pa_cons (pe_gi Z.out) pa_nil)))) pss_nil)
      (pss_cons (ps_if (pt_val (pe_mt GA T.cl hr (pv 0) (pa_cons (pv 1) (pa_cons (pv 2) pa_nil)))) (pss_one (ps_ret (pe_lst (pa_cons (pe_gi Z.already) pa_nil)))) pss_nil)
      (pss_cons (ps_expr (pe_bm PySem.F.plainAttrs_list PySem.F.slot_list_append PySem.F.type_list_append mt_append (pe_fld (pv 0) rfl) (pa_cons (pe_tup (pa_cons (pe_callB (call_min2 rfl) (by rfl) T.min (by decide +kernel) (pa_cons (pv 1) (pa_cons (pv 2) pa_nil))) (pa_cons (pe_callB (call_max2 rfl) (by rfl) T.max (by decide +kernel) (pa_cons (pv 1) (pa_cons (pv 2) pa_nil))) pa_nil))) pa_nil)))
      (pss_one (ps_ret (pe_lst (pa_cons (pe_callB call_len_seq (by rfl) T.len PySem.boot_len (pa_cons (pe_fld (pv 0) rfl) pa_nil)) pa_nil))))))), ?_⟩
    obtain ⟨s0, t0, p0, ts, D⟩ := hS
    obtain ⟨dx, hi⟩ := D.ins
    have hS : Stad C H a m := ⟨s0, t0, p0, ts, D⟩
    have nosuch : (¬ i < m.blocks.length ∨ ¬ j < m.blocks.length) → ∀ r, H r = none → Q (.ref r) (upd H r (.lst [.int (-2)])) := fun h r hr => by
      have e : (Planner.mk m).run (.connect i j) = (⟨m⟩, .error (-2)) := if_pos (h.imp isB_f isB_f)
      exact Out.pure q e rfl hS (same_upd hr) hr upd_same
    refine ⟨_, rfl, a, dx, _, rfl, hi, fS_no _ _ _ _ (by decide +kernel) (by decide +kernel) (by decide +kernel), _, rfl, a, m, i, rfl, hS, _, rfl, iteD (fun h => ?_) (fun h => ?_)⟩
    rotate_left
    · refine iteT ?_
      exact ⟨(by show 1 ≤ sizeLine; decide), nosuch (.inl (by omega))⟩
    refine ⟨_, rfl, a, dx, _, rfl, hi, fS_no _ _ _ _ (by decide +kernel) (by decide +kernel) (by decide +kernel), _, rfl, a, m, j, rfl, hS, _, rfl, iteND (fun h2 => ?_) (fun h2 => ?_)⟩
    · exact ⟨(by show 1 ≤ sizeLine; decide), nosuch (.inr (by omega))⟩
    have hil : i < m.blocks.length := by omega
    have hjl : j < m.blocks.length := by omega
    have hb : ¬ ((Planner.mk m).isBlock i = false ∨ (Planner.mk m).isBlock j = false) := fun z => z.elim (isB_t hil) (isB_t hjl)
    refine ⟨_, rfl, _, rfl, rfl, _, rfl, iteD (fun h3 => ?_) (fun h3 => ?_)⟩
    · refine ⟨(by show 1 ≤ sizeLine; decide), fun r hr => ?_⟩
      have e3 : i = j := by
        injection h3 with h3
        omega
      have e : (Planner.mk m).run (.connect i j) = (⟨m⟩, .error (-22)) := (if_neg hb).trans (if_pos e3)
      exact Out.pure q e rfl hS (same_upd hr) hr upd_same
    have n3 : ¬ i = j := fun e => h3 (by rw [e])
    refine ⟨_, rfl, a, dx, _, rfl, hi, fS_no _ _ _ _ (by decide +kernel) (by decide +kernel) (by decide +kernel), _, rfl, _, rfl, a, m, i, j, rfl, hS, fun H1 s1 => ⟨_, rfl, iteB (fun h4 => ?_) (fun h4 => ?_)⟩⟩
    · refine ⟨(by show 1 ≤ sizeLine; decide), fun r hr => ?_⟩
      have e : (Planner.mk m).run (.connect i j) = (⟨m⟩, .error (-17)) := (if_neg hb).trans ((if_neg n3).trans (if_pos ((adj_eq hW i j).trans h4)))
      exact Out.pure q e rfl hS (s1.trans (same_upd hr)) (s1.free hr) upd_same
    have D1 := D.same s1
    have hi1 := s1 _ _ hi
    refine ⟨_, rfl, a, C, dx, _, _, rfl, hi1, T.cl, T.nP, fS_p _ _ _, .inl ⟨rfl, _, .inl (.inl D1.hp)⟩, _, rfl, _, rfl, i, j, rfl, _, rfl, _, rfl, i, j, rfl, (by show 2 ≤ sizeLine; decide), fun u nu => ?_⟩
    rw [min_int, max_int]
    have s2 := same_upd (o := .tup [.int (min i j : Nat), .int (max i j : Nat)]) nu
    have D2 := D1.same s2
    refine ⟨p0, _, _, rfl, rfl, D2.hp, ?_, ?_⟩
    · rw [List.length_map, D.prs.len]
      exact Nat.lt_of_le_of_lt hW.few (by decide)
    have ev : ts.map V.ref ++ [.ref u] = (ts ++ [u]).map V.ref := by
      rw [List.map_append]
      rfl
    rw [ev]
    have D3 := D2.setP (m' := { m with adjacency := m.adjacency ++ [pr i j] }) rfl (D2.prs.snoc (p := u) (q := pr i j) upd_same)
    obtain ⟨dx3, hi3⟩ := D3.ins
    refine ⟨_, rfl, a, C, dx3, _, _, rfl, hi3, T.cl, T.nP, fS_p _ _ _, p0, _, rfl, .inl (.inl (.inl D3.hp)), (by show 1 ≤ sizeLine; decide), fun r hr => ?_⟩
    have e : (Planner.mk m).run (.connect i j) = (⟨{ m with adjacency := m.adjacency ++ [pr i j] }⟩, .number (m.adjacency.length + 1)) := (if_neg hb).trans ((if_neg n3).trans (if_neg (by rw [adj_eq hW i j, h4]; exact Bool.noConfusion)))
    refine Out.stored q D D3 ?_ (fun b hb => s1.free (s2.free (none_upd D2.hp b hb))) e hr ?_
    · intro b o hb n1 n2 n3 n4
      rw [upd_ne n4]
      exact s2 _ _ (s1 _ _ hb)
    · have el : ((ts ++ [u]).map V.ref).length = m.adjacency.length + 1 := by
        rw [List.length_map, List.length_append, D.prs.len]
        rfl
      rw [el]
      rfl
def spDis (C : Addr) : Sp := fun vs H Q _ => ∃ (a : Addr) (m : Stand) (i j : Nat), vs = [.ref a, .int i, .int j] ∧ Stad C H a m ∧ WF m ∧ Out C H a m (.disconnect i j) Q
theorem ok_dis {f : Addr} {fd : FuncData} (F : Fun K "disconnect" "disconnect" sDis f fd) (T : Txt K mg C) (Z : Cs mg) (GH : Mt P w K mg base C "has_block" 1 ["self", "block"] (spHb C)) (GA : Mt P w K mg base C "are_adjacent" 1 ["self", "i", "j"] (spAa C)) : FnOk P w K mg base CX0 2 f fd ["stadium", "i", "j"] (spDis C) := by
  refine F.ok scDis (fun vs H Q E h => ?_) (fun cdv A outer s H vs Q E hr h => ?_)
  · obtain ⟨a, m, i, x, rfl, _⟩ := h
    rfl
  · obtain ⟨a, m, i, j, rfl, hS, hW, q⟩ := h
    refine ⟨_, pss_cons (ps_if (pt_not (PW.pt (pw_and (pt_val (pe_mt GH T.cl hr (pv 0) (pa_cons (pv 1) pa_nil))) (pw_and1 (pt_val (pe_mt GH T.cl hr (pv 0) (pa_cons (pv 2) pa_nil))))))) (pss_one (ps_ret (pe_lst (pa_cons (pe_gi Z.noSuch) pa_nil)))) pss_nil)
      (pss_cons (ps_if (pt_not (pt_val (pe_mt GA T.cl hr (pv 0) (pa_cons (pv 1) (pa_cons (pv 2) pa_nil))))) (pss_one (ps_ret (pe_lst (pa_cons (pe_gi Z.nothing) pa_nil)))) pss_nil)
      (pss_cons (ps_expr (pe_bm PySem.F.plainAttrs_list PySem.F.slot_list_remove PySem.F.type_list_remove (mt_removeD (hu65 hr)) (pe_fld (pv 0) rfl) (pa_cons (pe_tup (pa_cons (pe_callB (call_min2 rfl) (by rfl) T.min (by decide +kernel) (pa_cons (pv 1) (pa_cons (pv 2) pa_nil))) (pa_cons (pe_callB (call_max2 rfl) (by rfl) T.max (by decide +kernel) (pa_cons (pv 1) (pa_cons (pv 2) pa_nil))) pa_nil))) pa_nil)))
      (pss_one (ps_ret (pe_lst (pa_cons (pe_callB call_len_seq (by rfl) T.len PySem.boot_len (pa_cons (pe_fld (pv 0) rfl) pa_nil)) pa_nil)))))), ?_⟩
    obtain ⟨s0, t0, p0, ts, D⟩ := hS
    obtain ⟨dx, hi⟩ := D.ins
    have hS : Stad C H a m := ⟨s0, t0, p0, ts, D⟩
    have nosuch : (¬ i < m.blocks.length ∨ ¬ j < m.blocks.length) → ∀ r, H r = none → Q (.ref r) (upd H r (.lst [.int (-2)])) := fun h r hr => by
      have e : (Planner.mk m).run (.disconnect i j) = (⟨m⟩, .error (-2)) := if_pos (h.imp isB_f isB_f)
      exact Out.pure q e rfl hS (same_upd hr) hr upd_same
    refine ⟨_, rfl, a, dx, _, rfl, hi, fS_no _ _ _ _ (by decide +kernel) (by decide +kernel) (by decide +kernel), _, rfl, a, m, i, rfl, hS, _, rfl, iteD (fun h => ?_) (fun h => ?_)⟩
    rotate_left
    · refine iteT ?_
      exact ⟨(by show 1 ≤ sizeLine; decide), nosuch (.inl (by omega))⟩
    refine ⟨_, rfl, a, dx, _, rfl, hi, fS_no _ _ _ _ (by decide +kernel) (by decide +kernel) (by decide +kernel), _, rfl, a, m, j, rfl, hS, _, rfl, iteND (fun h2 => ?_) (fun h2 => ?_)⟩
    · exact ⟨(by show 1 ≤ sizeLine; decide), nosuch (.inr (by omega))⟩
    have hil : i < m.blocks.length := by omega
    have hjl : j < m.blocks.length := by omega
    have hb : ¬ ((Planner.mk m).isBlock i = false ∨ (Planner.mk m).isBlock j = false) := fun z => z.elim (isB_t hil) (isB_t hjl)
    refine ⟨_, rfl, a, dx, _, rfl, hi, fS_no _ _ _ _ (by decide +kernel) (by decide +kernel) (by decide +kernel), _, rfl, _, rfl, a, m, i, j, rfl, hS, fun H1 s1 => ⟨_, rfl, iteNB (fun h4 => ?_) (fun h4 => ?_)⟩⟩
    · refine ⟨(by show 1 ≤ sizeLine; decide), fun r hr => ?_⟩
      have e : (Planner.mk m).run (.disconnect i j) = (⟨m⟩, .error (-6)) := (if_neg hb).trans (if_pos ((adj_eq hW i j).trans h4))
      exact Out.pure q e rfl hS (s1.trans (same_upd hr)) (s1.free hr) upd_same
    have D1 := D.same s1
    have hi1 := s1 _ _ hi
    refine ⟨_, rfl, a, C, dx, _, _, rfl, hi1, T.cl, T.nP, fS_p _ _ _, .inl ⟨rfl, _, .inl (.inl D1.hp)⟩, _, rfl, _, rfl, i, j, rfl, _, rfl, _, rfl, i, j, rfl, (by show 2 ≤ sizeLine; decide), fun u nu => ?_⟩
    rw [min_int, max_int]
    have s2 := same_upd (o := .tup [.int (min i j : Nat), .int (max i j : Nat)]) nu
    have D2 := D1.same s2
    obtain ⟨k, hk, hno⟩ := first_at (adj_true h4)
    refine ⟨p0, _, _, prD (pr i j), m.adjacency.map prD, k, prD (pr i j), rfl, rfl, D2.hp, D2.prs.data, .tup (.inl (.inl upd_same)) (.cons (.int _) (.cons (.int _) .nil)), prDs_shaped _, prD_shaped _, ?_, ?_, ?_, ?_⟩
    · rw [List.getElem?_map, hk]
      rfl
    · rw [prD_eqv]
      exact decide_eq_true rfl
    · intro n z hn hz
      rw [List.getElem?_map] at hz
      cases hz' : m.adjacency[n]? with
      | none =>
        rw [hz'] at hz
        cases hz
      | some z' =>
        rw [hz'] at hz
        have : prD z' = z := Option.some.inj hz
        rw [← this, prD_eqv]
        exact decide_eq_false (hno n z' hn hz')
    rw [refs_erase]
    have ea := erase_filter hW.nd hk
    have D3 := D2.setP (m' := { m with adjacency := m.adjacency.filter fun z => z != pr i j }) rfl (ea ▸ D2.prs.erase k)
    obtain ⟨dx3, hi3⟩ := D3.ins
    refine ⟨_, rfl, a, C, dx3, _, _, rfl, hi3, T.cl, T.nP, fS_p _ _ _, p0, _, rfl, .inl (.inl (.inl D3.hp)), (by show 1 ≤ sizeLine; decide), fun r hr => ?_⟩
    have e : (Planner.mk m).run (.disconnect i j) = (⟨{ m with adjacency := m.adjacency.filter fun z => z != pr i j }⟩, .number (m.adjacency.length - 1)) := (if_neg hb).trans (if_neg (by rw [adj_eq hW i j, h4]; exact Bool.noConfusion))
    refine Out.stored q D D3 ?_ (fun b hb => s1.free (s2.free (none_upd D2.hp b hb))) e hr ?_
    · intro b o hb n1 n2 n3 n4
      rw [upd_ne n4]
      exact s2 _ _ (s1 _ _ hb)
    · have hlt : k < ts.length := by
        rw [D.prs.len]
        exact (List.getElem?_eq_some_iff.mp hk).1
      have el : ((ts.eraseIdx k).map V.ref).length = m.adjacency.length - 1 := by
        rw [List.length_map, List.length_eraseIdx, if_pos hlt, D.prs.len]
      rw [el]
      rfl
end
end SB

set_option Elab.async false
set_option linter.all false
set_option maxRecDepth 100000
set_option maxHeartbeats 4000000
namespace SB
open PySem PySem.Spec PyProof.Rows L2
open Kv437 (Stand Block Planner Operation Response)
theorem take_more {α : Type} : ∀ {l : List α} {i : Nat} {x : α}, l[i]? = some x → l.take (i + 1) = l.take i ++ [x]
  | [], i, x, h => by simp at h
  | a :: l, 0, x, h => by
    have e : a = x := Option.some.inj h
    subst e
    rfl
  | a :: l, i + 1, x, h => by
    have ih := take_more (l := l) (i := i) (x := x) h
    show a :: l.take (i + 1) = a :: l.take i ++ [x]
    rw [ih]
    rfl
theorem filter_snoc {α : Type} (p : α → Bool) (l : List α) (x : α) : (l ++ [x]).filter p = l.filter p ++ (if p x = true then [x] else []) := by
  rw [List.filter_append]
  congr 1
  by_cases h : p x = true
  · simp [h]
  · simp [h]
theorem map_at {α β : Type} {f : α → β} {l : List α} {i : Nat} {y : β} (h : (l.map f)[i]? = some y) : ∃ x, l[i]? = some x ∧ y = f x := by
  rw [List.getElem?_map] at h
  cases e : l[i]? with
  | none =>
    rw [e] at h
    cases h
  | some z =>
    rw [e] at h
    exact ⟨z, rfl, (Option.some.inj h).symm⟩
theorem Prs.get {H : Hp} : ∀ {ts : List Addr} {qs : List (Nat × Nat)} {i : Nat} {t : Addr}, Prs H ts qs → ts[i]? = some t → ∃ q : Nat × Nat, qs[i]? = some q ∧ H t = some (.tup [.int q.1, .int q.2])
  | _, _, _, _, .nil, e => by simp at e
  | _, _, 0, _, .cons (q := q) h r, e => by
    have : _ = _ := Option.some.inj e
    subst this
    exact ⟨q, rfl, h⟩
  | _, _, i + 1, _, .cons h r, e => r.get (i := i) e
theorem drop_map {α β : Type} (f : α → β) (l : List α) : (l.map f).dropLast = l.dropLast.map f := by
  rw [List.map_dropLast]
abbrev sRem : Stmt := topS 25
abbrev sSwap : Stmt := topS 30
abbrev sOth : Stmt := topS 31
theorem scRem : FnScope ["stadium", "removed", "pair"] ["stadium"] (defScope sRem) := ⟨rfl, rfl, rfl, by decide +kernel, rfl, by decide +kernel, by decide +kernel⟩
theorem scSwap : FnScope ["stadium", "assignment"] ["stadium"] (defScope sSwap) := ⟨rfl, rfl, rfl, by decide +kernel, rfl, by decide +kernel, by decide +kernel⟩
theorem scOth : FnScope ["assignment"] ["assignment"] (defScope sOth) := ⟨rfl, rfl, rfl, by decide +kernel, rfl, by decide +kernel, by decide +kernel⟩
section
variable {P : Program} {w : World} {K : PySem.W.Frag} {mg : Str → Option Value} {base : Heap} {C : Addr}
def spRem (C : Addr) : Sp := fun vs H Q _ => ∃ (a : Addr) (m : Stand), vs = [.ref a] ∧ Stad C H a m ∧ WF m ∧ Out C H a m .removeLastBlock Q
theorem last_at {l : List Block} {f : Block → V} (h : l ≠ []) : ∃ y, (l.map f)[(l.map f).length - 1]? = some y := by
  have hl : (l.map f).length - 1 < (l.map f).length := by
    have : 0 < (l.map f).length := by
      rw [List.length_map]
      exact List.length_pos_iff.mpr h
    omega
  exact ⟨_, List.getElem?_eq_getElem hl⟩
theorem ok_rem {f : Addr} {fd : FuncData} (F : Fun K "remove_last_block" "remove_last_block" sRem f fd) (T : Txt K mg C) (Z : Cs mg) (GB : Mt P w K mg base C "block_count" 1 ["self"] (spBc C)) : FnOk P w K mg base CX0 2 f fd ["stadium"] (spRem C) := by
  refine F.ok scRem (fun vs H Q E h => ?_) (fun cdv A outer s H vs Q E hr h => ?_)
  · obtain ⟨a, m, rfl, _⟩ := h
    rfl
  · obtain ⟨a, m, rfl, hS, hW, q⟩ := h
    refine ⟨_, pss_cons (ps_if (pt_cmpR op_eq (pe_mt0 GB T.cl hr (pv 0)) pe_int (nomark _)) (pss_one (ps_ret (pe_lst (pa_cons (pe_gi Z.nothing) pa_nil)))) pss_nil)
      (pss_cons (ps_expr (pe_bm0 PySem.F.plainAttrs_list PySem.F.slot_list_pop PySem.F.type_list_pop mt_pop (pe_fld (pv 0) rfl)))
      (pss_cons (ps_expr (pe_bm0 PySem.F.plainAttrs_list PySem.F.slot_list_pop PySem.F.type_list_pop mt_pop (pe_fld (pv 0) rfl)))
      (pss_cons (ps_set (i := 1) scRem.nd rfl (.inr rfl) (pe_mt0 GB T.cl hr (pv 0)))
      (pss_cons (ps_fld (pv 0) (pe_lc (own := [("pair", 2)]) (g := gName 2) (by rfl) scRem.nd (pi_list (pe_fld (pv 0) rfl))
        (blkOk_by (own := [("pair", 2)]) (N := ["stadium", "removed", "pair"]) (sc := defScope sRem) (by decide +kernel)) (fun _ _ _ _ _ => pg_name (i := 2) scRem.nd rfl (Or.inl rfl))
        (fun _ _ _ _ _ => pts_one (pt_cmpR op_ne (pe_ix (show IxR _ (rIxT K) from ix_tup) (pv 2) pe_int (fun _ _ => rfl)) (pv 1) (nomark _))) (fun _ _ _ _ _ => pv 2)) rfl)
      (pss_one (ps_ret (pe_lst (pa_cons (pe_mt0 GB T.cl hr (pv 0)) pa_nil)))))))), ?_⟩
    obtain ⟨s0, t0, p0, ts, D⟩ := hS
    obtain ⟨dx, hi⟩ := D.ins
    have hS : Stad C H a m := ⟨s0, t0, p0, ts, D⟩
    have h6 := hW.six
    refine ⟨_, rfl, a, dx, _, rfl, hi, fS_no _ _ _ _ (by decide +kernel) (by decide +kernel) (by decide +kernel), a, m, rfl, hS, rfl, _, rfl, iteD (fun h => ?_) (fun h => ?_)⟩
    · have h0 : m.blocks = [] := List.length_eq_zero_iff.mp (by injection h with h; omega)
      refine ⟨(by show 1 ≤ sizeLine; decide), fun r hr => ?_⟩
      have e : (Planner.mk m).run .removeLastBlock = (⟨m⟩, .error (-6)) := if_pos (by show m.blocks.isEmpty = true; rw [h0]; rfl)
      exact Out.pure q e rfl hS (same_upd hr) hr upd_same
    have h0 : m.blocks ≠ [] := fun z => h (by rw [z]; rfl)
    have hne : ¬ m.blocks.isEmpty = true := fun z => h0 (List.isEmpty_iff.mp z)
    obtain ⟨y1, hy1⟩ := last_at (f := fun b => V.int b.seats) h0
    obtain ⟨y2, hy2⟩ := last_at (f := fun b => V.int b.assignment) h0
    refine ⟨_, rfl, a, C, dx, _, _, rfl, hi, T.cl, T.nS, fS_s _ _ _, .inl ⟨rfl, _, .inl (.inl D.hs)⟩, s0, _, y1, rfl, rfl, D.hs, hy1, ?_⟩
    have hi2 : (upd H s0 (.lst (seatsV m).dropLast)) a = some (.ins C dx (fS s0 t0 p0)) := (upd_ne (ne_of hi D.hs (by intro z; cases z))).trans hi
    have ht2 : (upd H s0 (.lst (seatsV m).dropLast)) t0 = some (.lst (assV m)) := (upd_ne D.st.symm).trans D.ht
    refine ⟨_, rfl, a, C, dx, _, _, rfl, hi2, T.cl, T.nT, fS_t _ _ _, .inl ⟨rfl, _, .inl (.inl ht2)⟩, t0, _, y2, rfl, rfl, ht2, hy2, ?_⟩
    generalize hH2 : upd (upd H s0 (.lst (seatsV m).dropLast)) t0 (.lst (assV m).dropLast) = H2
    have D2 : At C H2 a s0 t0 p0 ts { m with blocks := m.blocks.dropLast } := by
      subst hH2
      refine ⟨⟨dx, (upd_ne (ne_of hi D.ht (by intro z; cases z))).trans hi2⟩, ?_, ?_, ?_, ?_, D.st, D.sp, D.tp⟩
      · rw [upd_ne D.st, upd_same]
        exact congrArg (fun z => some (HO.lst z)) (drop_map _ _)
      · rw [upd_same]
        exact congrArg (fun z => some (HO.lst z)) (drop_map _ _)
      · rw [upd_ne D.tp.symm, upd_ne D.sp.symm]
        exact D.hp
      · exact (D.prs.keep (tup_upd D.hs)).keep (tup_upd ht2)
    have old2 : ∀ b o, H b = some o → b ≠ a → b ≠ s0 → b ≠ t0 → b ≠ p0 → H2 b = some o := fun b o hb n1 n2 n3 n4 => by
      rw [← hH2, upd_ne n3, upd_ne n2]
      exact hb
    have free2 : ∀ b, H2 b = none → H b = none := fun b hb => by
      rw [← hH2] at hb
      exact none_upd D.hs b (none_upd ht2 b hb)
    have hd : m.blocks.dropLast.length = m.blocks.length - 1 := List.length_dropLast
    obtain ⟨dx2, hj⟩ := D2.ins
    refine ⟨_, rfl, a, dx2, _, rfl, hj, fS_no _ _ _ _ (by decide +kernel) (by decide +kernel) (by decide +kernel), a, _, rfl, ⟨s0, t0, p0, ts, D2⟩, ?_⟩
    -- the comprehension
    refine ⟨_, rfl, a, C, dx2, _, _, rfl, hj, T.cl, T.nP, fS_p _ _ _, p0, rfl, ⟨_, .inl (.inl D2.hp)⟩, fun L hL => ?_⟩
    have sL := same_upd (o := .lst []) hL
    refine lc_list (K := K) (a := p0) (xs := ts.map V.ref) (fun k H' => Same H2 H' ∧ ∃ us : List Addr, H' L = some (.lst (us.map V.ref)) ∧ us.length ≤ k ∧ Prs H' us ((m.adjacency.take k).filter fun z => z.2 != m.blocks.length - 1)) ⟨sL, [], upd_same, Nat.le_refl _, .nil⟩ (fun i H' _ hh => .inl (.inl (hh.1 _ _ D2.hp))) ?_ ?_
    · rintro k y H3 hk ⟨e3, us, hus, hul, hpr⟩
      obtain ⟨t, ht, rfl⟩ := map_at hk
      obtain ⟨z, hz, hzt⟩ := D2.prs.get ht
      have hz3 := e3 _ _ hzt
      have hkl : k < ts.length := (List.getElem?_eq_some_iff.mp ht).1
      have hfew : ts.length ≤ 36 := by
        rw [D.prs.len]
        exact hW.few
      have hz' : m.adjacency[k]? = some z := hz
      have etk : (m.adjacency.take (k + 1)).filter (fun z => z.2 != m.blocks.length - 1) = (m.adjacency.take k).filter (fun z => z.2 != m.blocks.length - 1) ++ (if (z.2 != m.blocks.length - 1) = true then [z] else []) := by rw [take_more hz', filter_snoc]
      refine ⟨rfl, _, rfl, t, _, 1, _, rfl, rfl, .inl (.inl hz3), at_of (j := 1) rfl rfl, _, rfl, rfl, _, rfl, iteND (fun hq => ?_) (fun hq => ?_)⟩
      · have hq2 : (z.2 != m.blocks.length - 1) = true := bne_iff_ne.mpr fun e => hq (by rw [e]; show V.int _ = V.int ((m.blocks.dropLast.length : Nat) : Int); rw [hd])
        refine ⟨_, rfl, _, hus, ?_, ?_, us ++ [t], ?_, ?_, ?_⟩
        · rw [List.length_map]
          exact Nat.lt_of_le_of_lt (by omega : us.length ≤ 36) (by decide)
        · intro b o hb
          rw [upd_ne (ne_of_none hb hL)]
          exact e3 _ _ hb
        · rw [upd_same, List.map_append]
          rfl
        · rw [List.length_append]
          show us.length + 1 ≤ k + 1
          omega
        · rw [etk, if_pos hq2]
          exact (hpr.keep (tup_upd hus)).snoc (by rw [upd_ne (ne_of_none hzt hL)]; exact hz3)
      · have hq2 : ¬ (z.2 != m.blocks.length - 1) = true := fun e => bne_iff_ne.mp e (by
          injection hq with hq
          have hq' : ((z.2 : Nat) : Int) = ((m.blocks.dropLast.length : Nat) : Int) := hq
          omega)
        refine ⟨e3, us, hus, by omega, ?_⟩
        rw [etk, if_neg hq2, List.append_nil]
        exact hpr
    · rintro H3 ⟨e3, us, hus, hul, hpr⟩
      have ek : m.adjacency.take (ts.map V.ref).length = m.adjacency := List.take_of_length_le (by rw [List.length_map, D.prs.len]; exact Nat.le_refl _)
      rw [ek] at hpr
      have efl : (m.adjacency.filter fun z => z.2 != m.blocks.length - 1) = m.adjacency.filter fun pair => pair.1 != m.blocks.length - 1 && pair.2 != m.blocks.length - 1 := by
        refine List.filter_congr fun z hz => ?_
        obtain ⟨w1, w2⟩ := hW.prs z hz
        have : (z.1 != m.blocks.length - 1) = true := bne_iff_ne.mpr (by omega)
        rw [this, Bool.true_and]
      rw [efl] at hpr
      have D3 := D2.same e3
      obtain ⟨dx3, hj3⟩ := D3.ins
      refine ⟨_, rfl, a, C, dx3, _, rfl, hj3, T.cl, T.nP, (by show 3 < 1000; decide), ?_⟩
      rw [fS_put_p]
      have hsL : s0 ≠ L := ne_of_none D2.hs hL
      have htL : t0 ≠ L := ne_of_none D2.ht hL
      have has : ∀ {b xs}, H3 b = some (.lst xs) → b ≠ a := fun hb => ne_of hb hj3 (by intro z; cases z)
      have D4 : At C (upd H3 a (.ins C dx3 (fS s0 t0 L))) a s0 t0 L us ⟨m.blocks.dropLast, m.adjacency.filter fun pair => pair.1 != m.blocks.length - 1 && pair.2 != m.blocks.length - 1⟩ := by
        refine ⟨⟨dx3, upd_same⟩, ?_, ?_, ?_, ?_, D.st, hsL, htL⟩
        · rw [upd_ne (has D3.hs)]
          exact D3.hs
        · rw [upd_ne (has D3.ht)]
          exact D3.ht
        · rw [upd_ne (has hus)]
          exact hus
        · exact hpr.keep fun b xs hb => by
            rw [upd_ne (ne_of hb hj3 (by intro z; cases z))]
            exact hb
      obtain ⟨dx4, hj4⟩ := D4.ins
      refine ⟨_, rfl, a, dx4, _, rfl, hj4, fS_no _ _ _ _ (by decide +kernel) (by decide +kernel) (by decide +kernel), a, _, rfl, ⟨s0, t0, L, us, D4⟩, (by show 1 ≤ sizeLine; decide), fun r hr => ?_⟩
      have e : (Planner.mk m).run .removeLastBlock = (⟨⟨m.blocks.dropLast, m.adjacency.filter fun pair => pair.1 != m.blocks.length - 1 && pair.2 != m.blocks.length - 1⟩⟩, .number (m.blocks.length - 1)) := if_neg hne
      have n4 : ∀ b, (upd H3 a (.ins C dx3 (fS s0 t0 L))) b = none → H b = none := fun b hb => free2 b (e3.free (none_upd hj3 b hb))
      refine q _ r ?_ ?_ (n4 r hr) ?_
      · rw [e]
        exact ⟨s0, t0, L, us, D4.same (same_upd hr)⟩
      · refine Kept.store D (D4.same (same_upd hr)) (.inl rfl) (.inl rfl) (.inr (free2 _ hL)) fun b o hb n1 n2 n3 n4 => ?_
        refine same_upd hr b o ?_
        rw [upd_ne n1]
        exact e3 _ _ (old2 b o hb n1 n2 n3 n4)
      · rw [e, upd_same]
        show some (HO.lst [V.int ((m.blocks.dropLast.length : Nat) : Int)]) = _
        rw [hd]
        rfl
/-! ### other_side, swap_teams -/
def flip (x : Nat) : Nat := if x = 1 then 2 else if x = 2 then 1 else x
def spOth : Sp := fun vs H Q _ => ∃ (x : Nat), vs = [.int x] ∧ Q (.int (flip x : Nat)) H
theorem ok_oth {f : Addr} {fd : FuncData} (F : Fun K "other_side" "other_side" sOth f fd) (Z : Cs mg) : FnOk P w K mg base CX0 1 f fd ["assignment"] spOth := by
  refine F.ok scOth (fun vs H Q E h => ?_) (fun cdv A outer s H vs Q E hr h => ?_)
  · obtain ⟨x, rfl, _⟩ := h
    rfl
  · obtain ⟨x, rfl, q⟩ := h
    refine ⟨_, pss_cons (ps_if (pt_cmpR op_eq (pv 0) (pe_gi Z.home) (nomark _)) (pss_one (ps_ret (pe_gi Z.away))) pss_nil)
      (pss_cons (ps_if (pt_cmpR op_eq (pv 0) (pe_gi Z.away) (nomark _)) (pss_one (ps_ret (pe_gi Z.home))) pss_nil)
      (pss_one (ps_ret (pv 0)))), ?_⟩
    refine ⟨_, rfl, rfl, _, rfl, iteD (fun h => ?_) (fun h => ?_)⟩
    · have e : x = 1 := by injection h with h; omega
      have : flip x = 2 := if_pos e
      rw [this] at q
      exact q
    have n1 : ¬ x = 1 := fun e => h (by rw [e]; rfl)
    refine ⟨_, rfl, rfl, _, rfl, iteD (fun h2 => ?_) (fun h2 => ?_)⟩
    · have e : x = 2 := by injection h2 with h2; omega
      have : flip x = 1 := (if_neg n1).trans (if_pos e)
      rw [this] at q
      exact q
    have n2 : ¬ x = 2 := fun e => h2 (by rw [e]; rfl)
    have : flip x = x := (if_neg n1).trans (if_neg n2)
    rw [this] at q
    exact ⟨_, rfl, q⟩
def spSwap (C : Addr) : Sp := fun vs H Q _ => ∃ (a : Addr) (m : Stand), vs = [.ref a] ∧ Stad C H a m ∧ WF m ∧ Out C H a m .swapTeams Q
theorem ok_swap {f : Addr} {fd : FuncData} (F : Fun K "swap_teams" "swap_teams" sSwap f fd) (T : Txt K mg C) (GB : Mt P w K mg base C "block_count" 1 ["self"] (spBc C)) (GO : Fn P w K mg base "other_side" 1 ["assignment"] spOth) : FnOk P w K mg base CX0 2 f fd ["stadium"] (spSwap C) := by
  refine F.ok scSwap (fun vs H Q E h => ?_) (fun cdv A outer s H vs Q E hr h => ?_)
  · obtain ⟨a, m, rfl, _⟩ := h
    rfl
  · obtain ⟨a, m, rfl, hS, hW, q⟩ := h
    refine ⟨_, pss_cons (ps_fld (pv 0) (pe_lc (own := [("assignment", 1)]) (g := gName 1) (by rfl) scSwap.nd (pi_list (pe_fld (pv 0) rfl))
        (blkOk_by (own := [("assignment", 1)]) (N := ["stadium", "assignment"]) (sc := defScope sSwap) (by decide +kernel)) (fun _ _ _ _ _ => pg_name (i := 1) scSwap.nd rfl (Or.inl rfl))
        (fun _ _ _ _ _ => pts_nil) (fun _ _ _ _ _ => pe_fn GO hr (pa_cons (pv 1) pa_nil))) rfl)
      (pss_one (ps_ret (pe_lst (pa_cons (pe_mt0 GB T.cl hr (pv 0)) pa_nil)))), ?_⟩
    obtain ⟨s0, t0, p0, ts, D⟩ := hS
    obtain ⟨dx, hi⟩ := D.ins
    have hS : Stad C H a m := ⟨s0, t0, p0, ts, D⟩
    have h6 := hW.six
    refine ⟨_, rfl, a, C, dx, _, _, rfl, hi, T.cl, T.nT, fS_t _ _ _, t0, rfl, ⟨_, .inl (.inl D.ht)⟩, fun L hL => ?_⟩
    have sL := same_upd (o := .lst []) hL
    refine lc_list (K := K) (a := t0) (xs := assV m) (fun k H' => Same H H' ∧ H' L = some (.lst ((m.blocks.take k).map fun b => V.int (flip b.assignment : Nat)))) ⟨sL, upd_same⟩ (fun i H' _ hh => .inl (.inl (hh.1 _ _ D.ht))) ?_ ?_
    · rintro k y H3 hk ⟨e3, hus⟩
      obtain ⟨b, hb, rfl⟩ := map_at hk
      have hkl : k < m.blocks.length := (List.getElem?_eq_some_iff.mp hb).1
      refine ⟨rfl, ?_⟩
      unfold tYes
      refine iteT ?_
      refine ⟨_, rfl, b.assignment, rfl, _, hus, ?_, ?_, ?_⟩
      · rw [List.length_map, List.length_take]
        exact Nat.lt_of_le_of_lt (by omega : _ ≤ 6) (by decide)
      · intro c o hc
        rw [upd_ne (ne_of_none hc hL)]
        exact e3 _ _ hc
      · rw [upd_same, take_more hb, List.map_append]
        rfl
    · rintro H3 ⟨e3, hus⟩
      rw [assV_len, List.take_length] at hus
      have D3 := D.same e3
      obtain ⟨dx3, hj3⟩ := D3.ins
      refine ⟨_, rfl, a, C, dx3, _, rfl, hj3, T.cl, T.nT, (by show 3 < 1000; decide), ?_⟩
      rw [fS_put_t]
      have has : ∀ {b xs}, H3 b = some (.lst xs) → b ≠ a := fun hb => ne_of hb hj3 (by intro z; cases z)
      have D4 : At C (upd H3 a (.ins C dx3 (fS s0 L p0))) a s0 L p0 ts { m with blocks := m.blocks.map fun block => { block with assignment := if block.assignment = 1 then 2 else if block.assignment = 2 then 1 else block.assignment } } := by
        refine ⟨⟨dx3, upd_same⟩, ?_, ?_, ?_, ?_, ne_of_none D.hs hL, D.sp, (ne_of_none D.hp hL).symm⟩
        · rw [upd_ne (has D3.hs), D3.hs]
          show _ = some (HO.lst ((m.blocks.map _).map _))
          rw [List.map_map]
          rfl
        · rw [upd_ne (has hus), hus]
          show _ = some (HO.lst ((m.blocks.map _).map _))
          rw [List.map_map]
          rfl
        · rw [upd_ne (has D3.hp)]
          exact D3.hp
        · exact D3.prs.keep fun b xs hb => by
            rw [upd_ne (ne_of hb hj3 (by intro z; cases z))]
            exact hb
      obtain ⟨dx4, hj4⟩ := D4.ins
      refine ⟨_, rfl, a, dx4, _, rfl, hj4, fS_no _ _ _ _ (by decide +kernel) (by decide +kernel) (by decide +kernel), a, _, rfl, ⟨s0, L, p0, ts, D4⟩, (by show 1 ≤ sizeLine; decide), fun r hr => ?_⟩
      have n4 : ∀ b, (upd H3 a (.ins C dx3 (fS s0 L p0))) b = none → H b = none := fun b hb => e3.free (none_upd hj3 b hb)
      refine q _ r ⟨s0, L, p0, ts, D4.same (same_upd hr)⟩ ?_ (n4 r hr) ?_
      · refine Kept.store D (D4.same (same_upd hr)) (.inl rfl) (.inr hL) (.inl rfl) fun b o hb n1 n2 n3 n4 => ?_
        refine same_upd hr b o ?_
        rw [upd_ne n1]
        exact e3 _ _ hb
      · rw [upd_same]
        show some (HO.lst [V.int (((m.blocks.map _).length : Nat) : Int)]) = _
        rw [List.length_map]
        rfl
end
end SB

set_option Elab.async false
set_option linter.all false
namespace SB
open Kv437 (Stand Block Planner Operation Response)
/-! ### the mathematics of allocations, over the specification's own words -/
def allocs (bs : List Block) : List (List Nat) := bs.foldr (fun block rest => (Kv437.allowedUses block.assignment).flatMap fun use => rest.map fun a => use :: a) [[]]
theorem allocs_cons (b : Block) (bs : List Block) : allocs (b :: bs) = (Kv437.allowedUses b.assignment).flatMap fun use => (allocs bs).map fun a => use :: a := rfl
theorem allocs_snoc (b : Block) : ∀ bs : List Block, allocs (bs ++ [b]) = (allocs bs).flatMap fun a => (Kv437.allowedUses b.assignment).map fun u => a ++ [u]
  | [] => by
    show ((Kv437.allowedUses b.assignment).flatMap fun use => [[use]]) = (Kv437.allowedUses b.assignment).map (fun u => [u]) ++ []
    rw [List.append_nil]
    induction (Kv437.allowedUses b.assignment) with
    | nil => rfl
    | cons x l ih =>
      show [x] :: _ = [x] :: _
      rw [← ih]
      rfl
  | c :: bs => by
    show allocs (c :: (bs ++ [b])) = _
    rw [allocs_cons, allocs_cons, allocs_snoc b bs, List.flatMap_assoc]
    congr 1
    funext u
    rw [List.map_flatMap, List.flatMap_map]
    congr 1
    funext a
    rw [List.map_map]
    rfl
theorem uses_le {x : Nat} (h : x ≤ 3) : ∀ u ∈ Kv437.allowedUses x, u ≤ 2 := by
  intro u hu
  unfold Kv437.allowedUses at hu
  split at hu
  · simp at hu
    omega
  · split at hu
    · simp at hu
      omega
    · simp at hu
      omega
theorem uses_few (x : Nat) : (Kv437.allowedUses x).length ≤ 3 := by
  unfold Kv437.allowedUses
  split
  · decide
  · split <;> simp
theorem allocs_in : ∀ {bs : List Block} {a : List Nat}, (∀ b ∈ bs, b.assignment ≤ 3) → a ∈ allocs bs → a.length = bs.length ∧ ∀ u ∈ a, u ≤ 2
  | [], a, _, h => by
    have : a = [] := by simpa [allocs] using h
    subst this
    exact ⟨rfl, fun _ h => by simp at h⟩
  | b :: bs, a, hb, h => by
    rw [allocs_cons] at h
    obtain ⟨u, hu, h⟩ := List.mem_flatMap.mp h
    obtain ⟨r, hr, rfl⟩ := List.mem_map.mp h
    obtain ⟨h1, h2⟩ := allocs_in (fun c hc => hb c (.tail _ hc)) hr
    refine ⟨congrArg (· + 1) h1, fun v hv => ?_⟩
    rcases List.mem_cons.mp hv with rfl | hv
    · exact uses_le (hb b (.head _)) _ hu
    · exact h2 v hv
theorem flatMap_le {α β : Type} {f : α → List β} {k : Nat} : ∀ {l : List α}, (∀ x ∈ l, (f x).length ≤ k) → (l.flatMap f).length ≤ l.length * k
  | [], _ => by simp
  | x :: l, h => by
    have h1 := h x (.head _)
    have h2 := flatMap_le (l := l) fun y hy => h y (.tail _ hy)
    rw [List.flatMap_cons, List.length_append, List.length_cons, Nat.add_mul, Nat.one_mul]
    omega
theorem allocs_few : ∀ (bs : List Block), (allocs bs).length ≤ 3 ^ bs.length
  | [] => Nat.le_refl _
  | b :: bs => by
    have ih := allocs_few bs
    rw [allocs_cons]
    have h1 : ((Kv437.allowedUses b.assignment).flatMap fun use => (allocs bs).map fun a => use :: a).length ≤ (Kv437.allowedUses b.assignment).length * (allocs bs).length := flatMap_le fun u _ => by rw [List.length_map]; exact Nat.le_refl _
    refine Nat.le_trans h1 (Nat.le_trans (Nat.mul_le_mul (uses_few _) ih) ?_)
    rw [List.length_cons, Nat.pow_succ, Nat.mul_comm]
    exact Nat.le_refl _
/-- two uses that may stand side by side -/
def compat (x y : Nat) : Bool := x == 0 || y == 0 || x == y
def rivals (x y : Nat) : Bool := (x == 1 && y == 2) || (x == 2 && y == 1)
theorem compat_not {x y : Nat} (hx : x ≤ 2) (hy : y ≤ 2) : compat x y = !rivals x y := by
  have h1 : x = 0 ∨ x = 1 ∨ x = 2 := by omega
  have h2 : y = 0 ∨ y = 1 ∨ y = 2 := by omega
  rcases h1 with rfl | rfl | rfl <;> rcases h2 with rfl | rfl | rfl <;> rfl
/-- separated, as far as the first k blocks tell -/
def sep (m : Stand) (k : Nat) (a : List Nat) : Bool := m.adjacency.all fun q => !decide (q.2 < k) || compat (a.getD q.1 0) (a.getD q.2 0)
theorem sep_all {m : Stand} (h : WF m) (a : List Nat) : sep m m.blocks.length a = m.isSeparated a := by
  unfold sep Stand.isSeparated
  rw [Bool.eq_iff_iff, List.all_eq_true, List.all_eq_true]
  refine forall_congr' fun q => forall_congr' fun hq => ?_
  rw [decide_eq_true (h.prs q hq).2]
  rfl
/-- the earlier blocks that are adjacent -/
def earlier (m : Stand) (k : Nat) : List Nat := (nbs m k).filter fun o => decide (o < k)
theorem earlier_mem {m : Stand} (h : WF m) {k o : Nat} : o ∈ earlier m k ↔ o < k ∧ (o, k) ∈ m.adjacency := by
  unfold earlier nbs
  rw [List.mem_filter, List.mem_filter, List.mem_range, decide_eq_true_iff]
  constructor
  · rintro ⟨⟨h1, h2⟩, h3⟩
    refine ⟨h3, ?_⟩
    have := adj_true h2
    rw [show pr k o = (o, k) from by unfold pr; congr 1 <;> omega] at this
    exact this
  · rintro ⟨h1, h2⟩
    have hk := (h.prs _ h2).2
    refine ⟨⟨by show o < _; simp at hk; omega, ?_⟩, h1⟩
    unfold adj
    rw [List.any_eq_true]
    exact ⟨_, h2, decide_eq_true (show (o, k) = pr k o from by unfold pr; congr 1 <;> omega)⟩
def meets (a : List Nat) (l : List Nat) (u : Nat) : Bool := l.any fun o => rivals (a.getD o 0) u
theorem getD_le {a : List Nat} (h : ∀ u ∈ a, u ≤ 2) (o : Nat) : a.getD o 0 ≤ 2 := by
  rw [List.getD_eq_getElem?_getD]
  cases e : a[o]? with
  | none => exact Nat.zero_le _
  | some x => exact h x (List.mem_of_getElem? e)
theorem getD_left {a r : List Nat} {o : Nat} (h : o < a.length) : (a ++ r).getD o 0 = a.getD o 0 := by
  rw [List.getD_eq_getElem?_getD, List.getD_eq_getElem?_getD, List.getElem?_append_left h]
theorem getD_mid {a : List Nat} {u : Nat} : (a ++ [u]).getD a.length 0 = u := by
  rw [List.getD_eq_getElem?_getD, List.getElem?_append_right (Nat.le_refl _), Nat.sub_self]
  rfl
theorem sep_snoc {m : Stand} (h : WF m) {k u : Nat} {a : List Nat} (ha : a.length = k) (h2 : ∀ x ∈ a, x ≤ 2) (hu : u ≤ 2) : sep m (k + 1) (a ++ [u]) = (sep m k a && !meets a (earlier m k) u) := by
  subst ha
  rw [Bool.eq_iff_iff, Bool.and_eq_true]
  unfold sep
  rw [List.all_eq_true, List.all_eq_true]
  constructor
  · intro hh
    refine ⟨fun q hq => ?_, ?_⟩
    · have h1 := (h.prs q hq).1
      by_cases c : q.2 < a.length
      · have := hh q hq
        rw [getD_left (by omega), getD_left c, decide_eq_true (by omega : q.2 < a.length + 1)] at this
        rw [decide_eq_true c]
        exact this
      · rw [decide_eq_false c]
        rfl
    · rw [Bool.not_eq_true', meets, List.any_eq_false]
      intro o ho
      obtain ⟨h3, h4⟩ := (earlier_mem h).mp ho
      have := hh _ h4
      rw [decide_eq_true (by show a.length < a.length + 1; omega)] at this
      have e : compat ((a ++ [u]).getD o 0) ((a ++ [u]).getD a.length 0) = true := this
      rw [getD_left h3, getD_mid, compat_not (getD_le h2 o) hu] at e
      intro z
      rw [z] at e
      cases e
  · rintro ⟨h3, h4⟩ q hq
    have h1 := (h.prs q hq).1
    by_cases c : q.2 < a.length
    · have := h3 q hq
      rw [decide_eq_true c] at this
      rw [getD_left (by omega), getD_left c, decide_eq_true (by omega : q.2 < a.length + 1)]
      exact this
    · by_cases c2 : q.2 = a.length
      · have h5 : q.1 ∈ earlier m a.length := (earlier_mem h).mpr ⟨by omega, by rw [← c2]; exact hq⟩
        rw [Bool.not_eq_true', meets, List.any_eq_false] at h4
        have h6 : rivals (a.getD q.1 0) u = false := by
          have := h4 _ h5
          cases e : rivals (a.getD q.1 0) u with
          | true => exact absurd e this
          | false => rfl
        rw [c2, getD_mid, getD_left (by omega), compat_not (getD_le h2 _) hu, h6]
        simp
      · rw [decide_eq_false (by omega)]
        rfl
/-- the valid allocations of the first k blocks -/
def valids (m : Stand) (k : Nat) : List (List Nat) := (allocs (m.blocks.take k)).filter (sep m k)
theorem valids_zero (m : Stand) : valids m 0 = [[]] := by
  unfold valids
  rw [List.take_zero]
  show List.filter _ [[]] = [[]]
  rw [List.filter_cons, if_pos]
  · rfl
  · unfold sep
    rw [List.all_eq_true]
    intro q _
    rw [decide_eq_false (Nat.not_lt_zero _)]
    rfl
/-- one more block: each earlier allocation, with each use that meets no rival -/
def grow (m : Stand) (k : Nat) (a : List Nat) : List (List Nat) := ((Kv437.allowedUses (m.block k).assignment).filter fun u => !meets a (earlier m k) u).map fun u => a ++ [u]
theorem WF.assAt {m : Stand} (h : WF m) (k : Nat) : (m.block k).assignment ≤ 3 := by
  show (m.blocks.getD k ⟨0, 0⟩).assignment ≤ 3
  rw [List.getD_eq_getElem?_getD]
  cases e : m.blocks[k]? with
  | none => exact Nat.zero_le _
  | some b => exact h.ass b (List.mem_of_getElem? e)
theorem filter_flatMap' {α β : Type} (p : β → Bool) (f : α → List β) : ∀ l : List α, (l.flatMap f).filter p = l.flatMap fun x => (f x).filter p
  | [] => rfl
  | x :: l => by rw [List.flatMap_cons, List.flatMap_cons, List.filter_append, filter_flatMap' p f l]
theorem flatMap_filter' {α β : Type} (p : α → Bool) (f : α → List β) : ∀ l : List α, (l.filter p).flatMap f = l.flatMap fun x => if p x = true then f x else []
  | [] => rfl
  | x :: l => by
    rw [List.flatMap_cons, ← flatMap_filter' p f l]
    by_cases h : p x = true
    · rw [List.filter_cons, if_pos h, if_pos h]
      rfl
    · rw [List.filter_cons, if_neg h, if_neg h]
      rfl
theorem flatMap_congr' {α β : Type} {f g : α → List β} : ∀ {l : List α}, (∀ x ∈ l, f x = g x) → l.flatMap f = l.flatMap g
  | [], _ => rfl
  | x :: l, h => by rw [List.flatMap_cons, List.flatMap_cons, h x (.head _), flatMap_congr' fun y hy => h y (.tail _ hy)]
theorem valids_succ {m : Stand} (h : WF m) {k : Nat} (hk : k < m.blocks.length) : valids m (k + 1) = (valids m k).flatMap (grow m k) := by
  unfold valids
  rw [take_more (block_at hk), allocs_snoc, filter_flatMap', flatMap_filter']
  refine flatMap_congr' fun a ha => ?_
  obtain ⟨h1, h2⟩ := allocs_in (fun b hb => h.ass b (List.mem_of_mem_take hb)) ha
  have hl : a.length = k := by
    rw [h1, List.length_take]
    omega
  have hs : ∀ u ∈ Kv437.allowedUses (m.block k).assignment, sep m (k + 1) (a ++ [u]) = (sep m k a && !meets a (earlier m k) u) := fun u hu => sep_snoc h hl h2 (uses_le (h.assAt k) u hu)
  unfold grow
  rw [List.filter_map]
  by_cases c : sep m k a = true
  · rw [if_pos c]
    congr 1
    refine List.filter_congr fun u hu => ?_
    show sep m (k + 1) (a ++ [u]) = _
    rw [hs u hu, c, Bool.true_and]
  · rw [if_neg c]
    have : (Kv437.allowedUses (m.block k).assignment).filter ((sep m (k + 1)) ∘ fun u => a ++ [u]) = [] := by
      rw [List.filter_eq_nil_iff]
      intro u hu
      show ¬ sep m (k + 1) (a ++ [u]) = true
      rw [hs u hu]
      intro z
      rw [Bool.and_eq_true] at z
      exact c z.1
    rw [this]
    rfl
theorem valids_all {m : Stand} (h : WF m) : valids m m.blocks.length = m.validAllocations 0 := by
  unfold valids Stand.validAllocations
  rw [List.take_length]
  refine List.filter_congr fun a _ => ?_
  rw [sep_all h, decide_eq_true (Nat.zero_le _), Bool.and_true]
theorem valids_in {m : Stand} (h : WF m) {k : Nat} {a : List Nat} (hk : k ≤ m.blocks.length) (ha : a ∈ valids m k) : a.length = k ∧ ∀ u ∈ a, u ≤ 2 := by
  obtain ⟨h1, h2⟩ := allocs_in (fun b hb => h.ass b (List.mem_of_mem_take hb)) (List.mem_filter.mp ha).1
  refine ⟨?_, h2⟩
  rw [h1, List.length_take]
  omega
theorem valids_few {m : Stand} (h : WF m) (k : Nat) : (valids m k).length ≤ 729 := by
  refine Nat.le_trans (List.length_filter_le _ _) (Nat.le_trans (allocs_few _) ?_)
  have h6 := h.six
  have hl : (m.blocks.take k).length ≤ 6 := by
    rw [List.length_take]
    omega
  exact Nat.pow_le_pow_right (by decide) hl
end SB

set_option Elab.async false
set_option linter.all false
set_option maxRecDepth 100000
set_option maxHeartbeats 4000000
namespace SB
open PySem PySem.Spec PyProof.Rows L2
open Kv437 (Stand Block Planner Operation Response)
abbrev sRiv : Stmt := topS 13
abbrev sMee : Stmt := topS 12
abbrev sUse : Stmt := topS 11
abbrev sSold : Stmt := topS 14
abbrev sCs : Stmt := topS 15
theorem scRiv : FnScope ["first_use", "second_use"] ["first_use", "second_use"] (defScope sRiv) := ⟨rfl, rfl, rfl, by decide +kernel, rfl, by decide +kernel, by decide +kernel⟩
theorem scMee : FnScope ["allocation", "blocks", "use", "block"] ["allocation", "blocks", "use"] (defScope sMee) := ⟨rfl, rfl, rfl, by decide +kernel, rfl, by decide +kernel, by decide +kernel⟩
theorem scUse : FnScope ["assignment"] ["assignment"] (defScope sUse) := ⟨rfl, rfl, rfl, by decide +kernel, rfl, by decide +kernel, by decide +kernel⟩
theorem scCs : FnScope ["stadium", "allocation", "use", "block"] ["stadium", "allocation", "use"] (defScope sCs) := ⟨rfl, rfl, rfl, by decide +kernel, rfl, by decide +kernel, by decide +kernel⟩
theorem scSold : FnScope ["stadium", "allocation"] ["stadium", "allocation"] (defScope sSold) := ⟨rfl, rfl, rfl, by decide +kernel, rfl, by decide +kernel, by decide +kernel⟩
theorem natsV_at {l : List Nat} {i : Nat} (h : i < l.length) : (natsV l)[i]? = some (.int (l.getD i 0 : Nat)) := by
  unfold natsV
  rw [List.getElem?_map, List.getElem?_eq_getElem h, List.getD_eq_getElem?_getD, List.getElem?_eq_getElem h]
  rfl
theorem vint {x y : Nat} : (V.int (x : Nat) = V.int (y : Nat)) ↔ x = y := by
  constructor
  · intro h
    injection h with h
    omega
  · rintro rfl
    rfl
section
variable {P : Program} {w : World} {K : PySem.W.Frag} {mg : Str → Option Value} {base : Heap} {C : Addr}
def spRiv : Sp := fun vs H Q _ => ∃ (x y : Nat), vs = [.int x, .int y] ∧ Q (.bl (rivals x y)) H
theorem ok_riv {f : Addr} {fd : FuncData} (F : Fun K "are_rivals" "are_rivals" sRiv f fd) (Z : Cs mg) : FnOk P w K mg base CX0 1 f fd ["first_use", "second_use"] spRiv := by
  refine F.ok scRiv (fun vs H Q E h => ?_) (fun cdv A outer s H vs Q E hr h => ?_)
  · obtain ⟨x, y, rfl, _⟩ := h
    rfl
  · obtain ⟨x, y, rfl, q⟩ := h
    refine ⟨_, pss_cons (ps_if (pt_cmpR op_eq (pv 0) (pe_gi Z.home) (nomark _)) (pss_one (ps_ret (pe_cmpR op_eq (pv 1) (pe_gi Z.away) (nomark _)))) pss_nil)
      (pss_one (ps_ret (pe_and (pe_cmpR op_eq (pv 0) (pe_gi Z.away) (nomark _)) (pe_one (pe_cmpR op_eq (pv 1) (pe_gi Z.home) (nomark _)))))), ?_⟩
    have one : ∀ (x : Nat) (n : Nat), decide (V.int (x : Nat) = V.int ((n : Nat) : Int)) = (x == n) := fun x n => by
      rw [Bool.eq_iff_iff, decide_eq_true_iff, vint, beq_iff_eq]
    refine ⟨_, rfl, rfl, _, rfl, iteD (fun h => ?_) (fun h => ?_)⟩
    · have e : x = 1 := vint.mp h
      refine ⟨_, rfl, rfl, ?_⟩
      have : rivals x y = decide (V.int (y : Nat) = V.int ((2 : Nat) : Int)) := by
        rw [one, e]
        unfold rivals
        cases (y == 2) <;> rfl
      rw [this] at q
      exact q
    · have n1 : (x == 1) = false := beq_eq_false_iff_ne.mpr fun e => h (by rw [e]; rfl)
      refine ⟨_, rfl, rfl, _, rfl, iteD (fun h2 => ?_) (fun h2 => ?_)⟩
      · have e : x = 2 := vint.mp h2
        refine ⟨_, rfl, rfl, ?_⟩
        have : rivals x y = decide (V.int (y : Nat) = V.int ((1 : Nat) : Int)) := by
          rw [one, e]
          unfold rivals
          cases (y == 1) <;> rfl
        rw [this] at q
        exact q
      · have n2 : (x == 2) = false := beq_eq_false_iff_ne.mpr fun e => h2 (by rw [e]; rfl)
        have : rivals x y = false := by
          unfold rivals
          rw [n1, n2]
          rfl
        rw [this] at q
        exact q
def spMee (K : PySem.W.Frag) : Sp := fun vs H Q _ => ∃ (al bl : Addr) (a l : List Nat) (u : Nat), vs = [.ref al, .ref bl, .int u] ∧ SqL K H al (natsV a) ∧ SqL K H bl (natsV l) ∧ (∀ o ∈ l, o < a.length) ∧ Q (.bl (meets a l u)) H
theorem ok_mee {f : Addr} {fd : FuncData} (F : Fun K "meets_rival" "meets_rival" sMee f fd) (GR : Fn P w K mg base "are_rivals" 1 ["first_use", "second_use"] spRiv) : FnOk P w K mg base CX0 2 f fd ["allocation", "blocks", "use"] (spMee K) := by
  refine F.ok scMee (fun vs H Q E h => ?_) (fun cdv A outer s H vs Q E hr h => ?_)
  · obtain ⟨al, bl, a, l, u, rfl, _⟩ := h
    rfl
  · obtain ⟨al, bl, a, l, u, rfl, hA, hB, hlt, q⟩ := h
    refine ⟨_, pss_cons (ps_for PassesOwn.never rfl (pi_list (pv 1)) (pg_name (i := 3) scMee.nd rfl (.inl rfl))
        (pss_one (ps_if (pt_val (pe_fn GR hr (pa_cons (pe_ix ix_list (pv 0) (pv 3) (fun _ _ => rfl)) (pa_cons (pv 2) pa_nil)))) (pss_one (ps_ret pe_bl)) pss_nil)))
      (pss_one (ps_ret pe_bl)), ?_⟩
    refine ⟨_, rfl, bl, rfl, ⟨_, hB⟩, for_list (K := K) (a := bl) (xs := natsV l) (fun i σ H' => ∃ v : Option V, σ = [some (.ref al), some (.ref bl), some (.int u), v] ∧ H' = H ∧ meets a (l.take i) u = false) ⟨none, rfl, rfl, rfl⟩ (fun i σ H' _ ⟨_, _, e, _⟩ => by rw [e]; exact hB) ?_ ?_⟩
    · rintro i y σ H' hi ⟨v, rfl, rfl, hm⟩
      obtain ⟨o, ho, rfl⟩ := map_at hi
      have hol : o < a.length := hlt o (List.mem_of_getElem? ho)
      have em : meets a (l.take (i + 1)) u = rivals (a.getD o 0) u := by
        unfold meets at hm ⊢
        rw [take_more ho, List.any_append, hm, Bool.false_or]
        show (rivals _ _ || false) = _
        rw [Bool.or_false]
      refine ⟨_, rfl, _, rfl, al, _, _, _, rfl, rfl, hA, at_of rfl (natsV_at hol), _, rfl, _, u, rfl, _, rfl, iteB (fun h => ?_) (fun h => ?_)⟩
      · have : meets a l u = true := by
          unfold meets
          exact List.any_eq_true.mpr ⟨o, List.mem_of_getElem? ho, h⟩
        rw [this] at q
        exact q
      · exact ⟨_, rfl, rfl, by rw [em]; exact h⟩
    · rintro σ H' ⟨v, rfl, rfl, hm⟩
      rw [natsV_len, List.take_length] at hm
      rw [hm] at q
      exact q
def spUse : Sp := fun vs H Q _ => ∃ (x : Nat), vs = [.int x] ∧ ∀ r, H r = none → Q (.ref r) (upd H r (.lst (natsV (Kv437.allowedUses x))))
theorem ok_use {f : Addr} {fd : FuncData} (F : Fun K "allowed_uses" "allowed_uses" sUse f fd) (Z : Cs mg) : FnOk P w K mg base CX0 1 f fd ["assignment"] spUse := by
  refine F.ok scUse (fun vs H Q E h => ?_) (fun cdv A outer s H vs Q E hr h => ?_)
  · obtain ⟨x, rfl, _⟩ := h
    rfl
  · obtain ⟨x, rfl, q⟩ := h
    refine ⟨_, pss_cons (ps_if (pt_cmpR op_eq (pv 0) (pe_gi Z.anyUse) (nomark _)) (pss_one (ps_ret (pe_lst (pa_cons (pe_gi Z.empty) (pa_cons (pe_gi Z.home) (pa_cons (pe_gi Z.away) pa_nil)))))) pss_nil)
      (pss_cons (ps_if (pt_cmpR op_eq (pv 0) (pe_gi Z.closed) (nomark _)) (pss_one (ps_ret (pe_lst (pa_cons (pe_gi Z.empty) pa_nil)))) pss_nil)
      (pss_one (ps_ret (pe_lst (pa_cons (pv 0) pa_nil))))), ?_⟩
    refine ⟨_, rfl, rfl, _, rfl, iteD (fun h => ?_) (fun h => ?_)⟩
    · have e : x = 0 := vint.mp h
      refine ⟨(by show 3 ≤ sizeLine; decide), fun r hr => ?_⟩
      have := q r hr
      rw [e] at this
      exact this
    have n0 : ¬ x = 0 := fun e => h (by rw [e]; rfl)
    refine ⟨_, rfl, rfl, _, rfl, iteD (fun h2 => ?_) (fun h2 => ?_)⟩
    · have e : x = 3 := vint.mp h2
      refine ⟨(by show 1 ≤ sizeLine; decide), fun r hr => ?_⟩
      have := q r hr
      rw [e] at this
      exact this
    have n3 : ¬ x = 3 := fun e => h2 (by rw [e]; rfl)
    refine ⟨_, rfl, (by show 1 ≤ sizeLine; decide), fun r hr => ?_⟩
    have := q r hr
    rw [show Kv437.allowedUses x = [x] from (if_neg n0).trans (if_neg n3)] at this
    exact this
/-! ### the seats of blocks by their use -/
theorem zipIdx_range (a : List Nat) : a.zipIdx = (List.range a.length).map fun i => (a.getD i 0, i) := by
  refine List.ext_getElem? fun i => ?_
  rw [List.getElem?_map, List.getElem?_zipIdx]
  by_cases h : i < a.length
  · rw [List.getElem?_range h, List.getElem?_eq_getElem h]
    show some (a[i], 0 + i) = some (a.getD i 0, i)
    rw [List.getD_eq_getElem?_getD, List.getElem?_eq_getElem h, Nat.zero_add]
    rfl
  · rw [List.getElem?_eq_none (by omega), List.getElem?_eq_none (by rw [List.length_range]; omega)]
    rfl
/-- the places whose use is chosen -/
def chosen (a : List Nat) (sel : Nat → Bool) (k : Nat) : List Nat := (List.range k).filter fun i => sel (a.getD i 0)
theorem seatsWhere_eq (m : Stand) (a : List Nat) (sel : Nat → Bool) : m.seatsWhere a sel = ((chosen a sel a.length).map m.seatsOf).sum := by
  unfold Stand.seatsWhere chosen
  rw [zipIdx_range, List.filter_map, List.map_map]
  rfl
theorem sum_nats : ∀ l : List Nat, (l.map fun (n : Nat) => (n : Int)).sum = ((l.sum : Nat) : Int)
  | [] => rfl
  | x :: l => by
    rw [List.map_cons, List.sum_cons, List.sum_cons, sum_nats l]
    omega
theorem natsV_ints (l : List Nat) : natsV l = (l.map fun (n : Nat) => (n : Int)).map V.int := by
  unfold natsV
  rw [List.map_map]
  rfl
def spCs (C : Addr) (K : PySem.W.Frag) : Sp := fun vs H Q _ => ∃ (a al : Addr) (m : Stand) (l : List Nat) (u : Nat), vs = [.ref a, .ref al, .int u] ∧ Stad C H a m ∧ WF m ∧ SqL K H al (natsV l) ∧ l.length = m.blocks.length ∧ ∀ H', Same H H' → Q (.int (m.seatsWhere l (fun x => x == u) : Nat)) H'
theorem ok_cs {f : Addr} {fd : FuncData} (F : Fun K "count_seats" "count_seats" sCs f fd) (T : Txt K mg C) : FnOk P w K mg base CX0 1 f fd ["stadium", "allocation", "use"] (spCs C K) := by
  refine F.ok scCs (fun vs H Q E h => ?_) (fun cdv A outer s H vs Q E hr h => ?_)
  · obtain ⟨a, al, m, l, u, rfl, _⟩ := h
    rfl
  · obtain ⟨a, al, m, l, u, rfl, hS, hW, hA, hl, q⟩ := h
    refine ⟨_, pss_one (ps_ret (pe_callB (cr_sum rfl) (by rfl) T.sum (by decide +kernel) (pa_cons (pe_lc (own := [("block", 3)]) (g := gName 3) (by rfl) scCs.nd (pi_range1 (by rfl) T.range (pa_cons (pe_callB call_len_seq (by rfl) T.len PySem.boot_len (pa_cons (pv 1) pa_nil)) pa_nil))
      (blkOk_by (own := [("block", 3)]) (N := ["stadium", "allocation", "use", "block"]) (sc := defScope sCs) (by decide +kernel)) (fun _ _ _ _ _ => pg_name (i := 3) scCs.nd rfl (Or.inl rfl))
      (fun _ _ _ _ _ => pts_one (pt_cmpR op_eq (pe_ix (show IxR _ (rIxL K) from ix_list) (pv 1) (pv 3) (fun _ _ => rfl)) (pv 2) (nomark _)))
      (fun _ _ _ _ _ => pe_ix (show IxR _ (rIxL K) from ix_list) (show PE _ _ (tFld K (tVar 0) "seats") from pe_fld (pv 0) rfl) (pv 3) (fun _ _ => rfl))) pa_nil))), ?_⟩
    obtain ⟨s0, t0, p0, ts, D⟩ := hS
    obtain ⟨dx, hi⟩ := D.ins
    have h6 := hW.six
    refine ⟨_, rfl, al, _, rfl, .inl hA, (natsV l).length, rfl, ?_, ?_, fun L hL => ?_⟩
    · omega
    · rw [natsV_len]; omega
    have e0 := same_upd (o := .lst []) hL
    refine lc_range (lo := 0) (n := (natsV l).length) (fun k H' => Same H H' ∧ H' L = some (.lst (natsV ((chosen l (fun x => x == u) k).map m.seatsOf)))) ⟨e0, upd_same⟩ ?_ ?_
    · rintro k H2 hk ⟨e, hL2⟩
      rw [natsV_len] at hk
      have hkm : k < m.blocks.length := by omega
      have hi2 := e _ _ hi
      have er : chosen l (fun x => x == u) (k + 1) = chosen l (fun x => x == u) k ++ (if (l.getD k 0 == u) = true then [k] else []) := range_filter_succ _ k
      refine ⟨rfl, _, rfl, _, rfl, al, _, _, _, rfl, rfl, e.seq hA, at_of (j := k) (by omega) (natsV_at hk), _, rfl, rfl, _, rfl, iteD (fun h => ?_) (fun h => ?_)⟩
      · have hne : (l.getD k 0 == u) = true := beq_iff_eq.mpr (vint.mp h)
        refine ⟨_, rfl, a, C, dx, _, _, rfl, hi2, T.cl, T.nS, fS_s _ _ _, _, rfl, s0, _, _, _, rfl, rfl, .inl (.inl (e _ _ D.hs)), at_of (j := k) (by omega) (seatsV_at hkm), _, hL2, ?_, ?_, ?_⟩
        · rw [natsV_len, List.length_map]
          exact Nat.lt_of_le_of_lt (Nat.le_trans (List.length_filter_le _ _) (by rw [List.length_range]; omega)) (by decide : 6 < sizeLine)
        · intro b o hb
          rw [upd_ne (ne_of_none hb hL)]
          exact e _ _ hb
        · rw [upd_same, er, if_pos hne, List.map_append]
          exact congrArg (fun z => some (HO.lst z)) (natsV_snoc _ _).symm
      · have hne : ¬ (l.getD k 0 == u) = true := fun z => h (by rw [beq_iff_eq.mp z])
        refine ⟨e, ?_⟩
        rw [er, if_neg hne, List.append_nil]
        exact hL2
    · rintro H2 ⟨e, hL2⟩
      rw [natsV_len] at hL2
      refine ⟨L, _, rfl, .inl (.inl (hL2.trans (by rw [natsV_ints]))), ?_⟩
      rw [sum_nats]
      have := q H2 e
      rw [seatsWhere_eq] at this
      exact this
theorem split_sum {α : Type} (f : α → Nat) (p q r : α → Bool) : ∀ l : List α, (∀ x ∈ l, p x = (q x || r x) ∧ (q x && r x) = false) → ((l.filter p).map f).sum = ((l.filter q).map f).sum + ((l.filter r).map f).sum
  | [], _ => rfl
  | x :: l, h => by
    have ih := split_sum f p q r l (fun y hy => h y (.tail _ hy))
    obtain ⟨h1, h2⟩ := h x (.head _)
    rw [List.filter_cons, List.filter_cons, List.filter_cons, h1]
    cases hq : q x <;> cases hr : r x
    · simpa [hq, hr] using ih
    · simp only [Bool.false_or, if_true, Bool.false_eq_true, if_false, List.map_cons, List.sum_cons]
      omega
    · simp only [Bool.true_or, if_true, Bool.false_eq_true, if_false, List.map_cons, List.sum_cons]
      omega
    · rw [hq, hr] at h2
      cases h2
theorem sold_split {m : Stand} {l : List Nat} (h : ∀ u ∈ l, u ≤ 2) : m.soldSeats l = m.seatsWhere l (fun x => x == 1) + m.seatsWhere l (fun x => x == 2) := by
  refine split_sum _ _ _ _ _ fun x hx => ?_
  have hx1 : x.1 ∈ l := List.fst_mem_of_mem_zipIdx hx
  have h2 := h _ hx1
  have : x.1 = 0 ∨ x.1 = 1 ∨ x.1 = 2 := by omega
  rcases this with e | e | e <;> rw [e] <;> exact ⟨rfl, rfl⟩
def spSold (C : Addr) (K : PySem.W.Frag) : Sp := fun vs H Q _ => ∃ (a al : Addr) (m : Stand) (l : List Nat), vs = [.ref a, .ref al] ∧ Stad C H a m ∧ WF m ∧ SqL K H al (natsV l) ∧ l.length = m.blocks.length ∧ (∀ u ∈ l, u ≤ 2) ∧ ∀ H', Same H H' → Q (.int (m.soldSeats l : Nat)) H'
theorem ok_sold {f : Addr} {fd : FuncData} (F : Fun K "count_sold" "count_sold" sSold f fd) (Z : Cs mg) (GC : Fn P w K mg base "count_seats" 1 ["stadium", "allocation", "use"] (spCs C K)) : FnOk P w K mg base CX0 2 f fd ["stadium", "allocation"] (spSold C K) := by
  refine F.ok scSold (fun vs H Q E h => ?_) (fun cdv A outer s H vs Q E hr h => ?_)
  · obtain ⟨a, al, m, l, rfl, _⟩ := h
    rfl
  · obtain ⟨a, al, m, l, rfl, hS, hW, hA, hl, hu, q⟩ := h
    refine ⟨_, pss_one (ps_ret (pe_op op_add (pe_fn GC hr (pa_cons (pv 0) (pa_cons (pv 1) (pa_cons (pe_gi Z.home) pa_nil)))) (pe_fn GC hr (pa_cons (pv 0) (pa_cons (pv 1) (pa_cons (pe_gi Z.away) pa_nil)))))), ?_⟩
    refine ⟨_, rfl, _, rfl, a, al, m, l, 1, rfl, hS, hW, hA, hl, fun H1 s1 => ⟨_, rfl, _, rfl, a, al, m, l, 2, rfl, hS.same s1, hW, s1.seq hA, hl, fun H2 s2 => ⟨_, _, rfl, rfl, ?_⟩⟩⟩
    have := q H2 (s1.trans s2)
    rw [sold_split hu, Int.natCast_add] at this
    exact this
end
end SB

set_option Elab.async false
set_option linter.all false
set_option maxRecDepth 100000
set_option maxHeartbeats 4000000
namespace SB
open PySem PySem.Spec PyProof.Rows L2
open Kv437 (Stand Block Planner Operation Response)
/-- lists of numbers, each at an address of its own -/
inductive Als (H : Hp) : List Addr → List (List Nat) → Prop where
  | nil : Als H [] []
  | cons {a : Addr} {q : List Nat} {as : List Addr} {qs : List (List Nat)} : H a = some (.lst (natsV q)) → Als H as qs → Als H (a :: as) (q :: qs)
theorem Als.same {H H' : Hp} (e : Same H H') : ∀ {ts : List Addr} {qs : List (List Nat)}, Als H ts qs → Als H' ts qs
  | _, _, .nil => .nil
  | _, _, .cons h r => .cons (e _ _ h) (r.same e)
theorem Als.len {H : Hp} : ∀ {ts : List Addr} {qs : List (List Nat)}, Als H ts qs → ts.length = qs.length
  | _, _, .nil => rfl
  | _, _, .cons _ r => congrArg (· + 1) r.len
theorem Als.get {H : Hp} : ∀ {ts : List Addr} {qs : List (List Nat)} {i : Nat} {t : Addr}, Als H ts qs → ts[i]? = some t → ∃ q : List Nat, qs[i]? = some q ∧ H t = some (.lst (natsV q))
  | _, _, _, _, .nil, e => by simp at e
  | _, _, 0, _, .cons (q := q) h r, e => by
    have : _ = _ := Option.some.inj e
    subst this
    exact ⟨q, rfl, h⟩
  | _, _, i + 1, _, .cons h r, e => r.get (i := i) e
theorem Als.snoc {H : Hp} {p : Addr} {q : List Nat} (hp : H p = some (.lst (natsV q))) : ∀ {ts : List Addr} {qs : List (List Nat)}, Als H ts qs → Als H (ts ++ [p]) (qs ++ [q])
  | _, _, .nil => .cons hp .nil
  | _, _, .cons h r => .cons h (r.snoc hp)
/-- all but the object at e stands -/
def But (e : Addr) (H H' : Hp) : Prop := ∀ b o, H b = some o → b ≠ e → H' b = some o
theorem Als.but {H H' : Hp} {e : Addr} (k : But e H H') : ∀ {ts : List Addr} {qs : List (List Nat)}, e ∉ ts → Als H ts qs → Als H' ts qs
  | _, _, _, .nil => .nil
  | _, _, n, .cons h r => .cons (k _ _ h fun z => n (by rw [z]; exact .head _)) (r.but k fun z => n (.tail _ z))
theorem Als.tracked {H : Hp} : ∀ {ts : List Addr} {qs : List (List Nat)}, Als H ts qs → ∀ b ∈ ts, ∃ o, H b = some o
  | _, _, .cons h r, b, hb => by
    rcases List.mem_cons.mp hb with rfl | hb
    · exact ⟨_, h⟩
    · exact r.tracked b hb
/-- the list at r: lists of numbers -/
def LL (H : Hp) (r : Addr) (as : List (List Nat)) : Prop := ∃ ts : List Addr, H r = some (.lst (ts.map V.ref)) ∧ Als H ts as
theorem LL.same {H H' : Hp} {r : Addr} {as : List (List Nat)} (e : Same H H') : LL H r as → LL H' r as
  | ⟨ts, h, z⟩ => ⟨ts, e _ _ h, z.same e⟩
abbrev sExt : Stmt := topS 10
abbrev sVal : Stmt := topS 9
theorem scExt : FnScope ["stadium", "allocations", "block", "uses", "earlier", "extended", "allocation", "use", "other"] ["stadium", "allocations", "block"] (defScope sExt) := ⟨rfl, rfl, rfl, by decide +kernel, rfl, by decide +kernel, by decide +kernel⟩
theorem scVal : FnScope ["stadium", "allocations", "block"] ["stadium"] (defScope sVal) := ⟨rfl, rfl, rfl, by decide +kernel, rfl, by decide +kernel, by decide +kernel⟩
theorem grow_take (m : Stand) (k : Nat) (a : List Nat) {j : Nat} {u : Nat} {us : List Nat} (h : us[j]? = some u) :
    ((us.take (j + 1)).filter fun u => !meets a (earlier m k) u).map (fun u => a ++ [u]) = ((us.take j).filter fun u => !meets a (earlier m k) u).map (fun u => a ++ [u]) ++ (if (!meets a (earlier m k) u) = true then [a ++ [u]] else []) := by
  rw [take_more h, filter_snoc, List.map_append]
  by_cases c : (!meets a (earlier m k) u) = true
  · rw [if_pos c, if_pos c]
    rfl
  · rw [if_neg c, if_neg c]
    rfl
theorem flatMap_more {α β : Type} (f : α → List β) {l : List α} {i : Nat} {x : α} (h : l[i]? = some x) : (l.take (i + 1)).flatMap f = (l.take i).flatMap f ++ f x := by
  rw [take_more h, List.flatMap_append, List.flatMap_singleton]
theorem grow_len (m : Stand) (k : Nat) (a : List Nat) : (grow m k a).length ≤ 3 := by
  unfold grow
  rw [List.length_map]
  exact Nat.le_trans (List.length_filter_le _ _) (uses_few _)
section
variable {P : Program} {w : World} {K : PySem.W.Frag} {mg : Str → Option Value} {base : Heap} {C : Addr}
def spExt (C : Addr) : Sp := fun vs H Q _ => ∃ (a al : Addr) (m : Stand) (as : List (List Nat)) (k : Nat), vs = [.ref a, .ref al, .int k] ∧ Stad C H a m ∧ WF m ∧ k < m.blocks.length ∧ LL H al as ∧ (∀ x ∈ as, x.length = k) ∧ as.length ≤ 729 ∧
  ∀ H' r, Same H H' → H r = none → LL H' r (as.flatMap (grow m k)) → Q (.ref r) H'
theorem ok_ext {f : Addr} {fd : FuncData} (F : Fun K "extended_by_block" "extended_by_block" sExt f fd) (T : Txt K mg C) (Z : Cs mg) (GU : Fn P w K mg base "allowed_uses" 1 ["assignment"] spUse) (GM : Fn P w K mg base "meets_rival" 2 ["allocation", "blocks", "use"] (spMee K))
    (GA : Mt P w K mg base C "adjacent_blocks" 2 ["self", "block"] (spAb C)) : FnOk P w K mg base CX0 3 f fd ["stadium", "allocations", "block"] (spExt C) := by
  refine F.ok scExt (fun vs H Q E h => ?_) (fun cdv A outer s H vs Q E hr h => ?_)
  · obtain ⟨a, al, m, as, k, rfl, _⟩ := h
    rfl
  · obtain ⟨a, al, m, as, k, rfl, hS, hW, hk, hL, hlen, hfew, q⟩ := h
    refine ⟨_, pss_cons (ps_set (i := 3) scExt.nd rfl (.inl rfl) (pe_fn GU (hr.mono (by decide)) (pa_cons (pe_ix ix_list (pe_fld (pv 0) rfl) (pv 2) (fun _ _ => rfl)) pa_nil)))
      (pss_cons (ps_setLc (i := 4) (own := [("other", 8)]) (g := gName 8) (by rfl) scExt.nd rfl rfl (sw_true rfl rfl rfl (by decide +kernel)) (pi_list (pe_mt GA T.cl hr (pv 0) (pa_cons (pv 2) pa_nil)))
        (blkOk_by (own := [("other", 8)]) (N := ["stadium", "allocations", "block", "uses", "earlier", "extended", "allocation", "use", "other"]) (sc := defScope sExt) (by decide +kernel)) (fun _ _ _ _ _ => pg_name (i := 8) scExt.nd rfl (Or.inl rfl))
        (fun _ _ _ _ _ => pts_one (pt_cmpR op_lt (pv 8) (pv 2) (nomark _))) (fun _ _ _ _ _ => pv 8))
      (pss_cons (ps_set (i := 5) scExt.nd rfl (.inl rfl) (pe_lst pa_nil))
      (pss_cons (ps_for PassesOwn.never rfl (pi_list (pv 1)) (pg_name (i := 6) scExt.nd rfl (.inl rfl))
        (pss_one (ps_for PassesOwn.never rfl (pi_list (pv 3)) (pg_name (i := 7) scExt.nd rfl (.inl rfl))
          (pss_one (ps_if (pt_not (pt_val (pe_fn GM hr (pa_cons (pv 6) (pa_cons (pv 4) (pa_cons (pv 7) pa_nil)))))) 
            (pss_one (ps_expr (pe_bm PySem.F.plainAttrs_list PySem.F.slot_list_append PySem.F.type_list_append mt_append (pv 5) (pa_cons (pe_op op_cat (pv 6) (pe_lst (pa_cons (pv 7) pa_nil))) pa_nil)))) pss_nil)))))
      (pss_one (ps_ret (pv 5)))))), ?_⟩
    obtain ⟨s0, t0, p0, ts, D⟩ := hS
    obtain ⟨dx, hi⟩ := D.ins
    have hS : Stad C H a m := ⟨s0, t0, p0, ts, D⟩
    have h6 := hW.six
    refine ⟨_, rfl, a, C, dx, _, _, rfl, hi, T.cl, T.nT, fS_t _ _ _, _, rfl, t0, _, _, _, rfl, rfl, .inl (.inl D.ht), at_of rfl (assV_at hk), _, rfl, fun ua nua => ?_⟩
    have s1 := same_upd (o := .lst (natsV (Kv437.allowedUses (m.block k).assignment))) nua
    have hi1 := s1 _ _ hi
    refine ⟨_, rfl, a, dx, _, rfl, hi1, fS_no _ _ _ _ (by decide +kernel) (by decide +kernel) (by decide +kernel), _, rfl, a, m, k, rfl, hS.same s1, h6, fun H2 nb s2 nnb hnb => ⟨nb, rfl, ⟨_, .inl (.inl hnb)⟩, fun L nL => ?_⟩⟩
    have s3 := same_upd (o := .lst []) nL
    refine lc_list (K := K) (a := nb) (xs := natsV (nbs m k)) (fun i H' => Same H2 H' ∧ H' L = some (.lst (natsV (((nbs m k).take i).filter fun o => decide (o < k))))) ⟨s3, upd_same⟩ (fun i H' _ hh => .inl (.inl (hh.1 _ _ hnb))) ?_ ?_
    · rintro i y H3 hi3 ⟨e3, hL3⟩
      obtain ⟨o, ho, rfl⟩ := map_at hi3
      have er : ((nbs m k).take (i + 1)).filter (fun o => decide (o < k)) = ((nbs m k).take i).filter (fun o => decide (o < k)) ++ (if decide (o < k) = true then [o] else []) := by rw [take_more ho, filter_snoc]
      refine ⟨rfl, _, rfl, _, rfl, _, _, rfl, rfl, _, rfl, iteD (fun h => ?_) (fun h => ?_)⟩
      · have hok : decide (o < k) = true := decide_eq_true (by omega)
        refine ⟨_, rfl, _, hL3, ?_, ?_, ?_⟩
        · rw [natsV_len]
          refine Nat.lt_of_le_of_lt (Nat.le_trans (List.length_filter_le _ _) ?_) (by decide : 6 < sizeLine)
          rw [List.length_take]
          refine Nat.le_trans (Nat.min_le_right _ _) (Nat.le_trans (List.length_filter_le _ _) ?_)
          rw [List.length_range]
          exact h6
        · intro b o hb
          rw [upd_ne (ne_of_none hb nL)]
          exact e3 _ _ hb
        · rw [upd_same, er, if_pos hok, natsV_snoc]
      · have hok : ¬ decide (o < k) = true := fun z => h (by have := of_decide_eq_true z; omega)
        refine ⟨e3, ?_⟩
        rw [er, if_neg hok, List.append_nil]
        exact hL3
    · rintro H3 ⟨e3, hL3⟩
      have hea : H3 L = some (.lst (natsV (earlier m k))) := by
        rw [hL3, natsV_len, List.take_length]
        rfl
      refine ⟨Nat.zero_le _, fun x nx => ?_⟩
      -- extended stands at x
      have sAll : Same H H3 := s1.trans (s2.trans e3)
      have hua : H3 ua = some (.lst (natsV (Kv437.allowedUses (m.block k).assignment))) := e3 _ _ (s2 _ _ upd_same)
      obtain ⟨as0, hal, hals⟩ := hL.same sAll
      have fr : ∀ {H' : Hp}, Same H3 H' → (∃ us : List Addr, H' x = some (.lst (us.map V.ref))) → True := fun _ _ => trivial
      refine ⟨_, rfl, al, rfl, ⟨_, .inl (.inl ((upd_ne (ne_of_none hal nx)).trans hal))⟩, for_list (K := K) (a := al) (xs := as0.map V.ref) (fun i σ H' => ∃ v6 v7 v8 : Option V, σ = [some (.ref a), some (.ref al), some (.int k), some (.ref ua), some (.ref L), some (.ref x), v6, v7, v8] ∧ Same H3 H' ∧
          ∃ us : List Addr, H' x = some (.lst (us.map V.ref)) ∧ us.length ≤ 3 * i ∧ x ∉ us ∧ Als H' us ((as.take i).flatMap (grow m k)))
        ⟨none, none, none, rfl, same_upd nx, [], upd_same, Nat.le_refl _, by simp, .nil⟩ (fun i σ H' _ ⟨_, _, _, _, e, _⟩ => .inl (.inl (e _ _ hal))) ?_ ?_⟩
      · rintro i y σ H4 hi4 ⟨v6, v7, v8, rfl, e4, us, hx4, hul, hxu, hA4⟩
        obtain ⟨t, ht, rfl⟩ := map_at hi4
        obtain ⟨z, hz, hzt⟩ := hals.get ht
        have hil : i < as.length := (List.getElem?_eq_some_iff.mp hz).1
        have hzl : z.length = k := hlen z (List.mem_of_getElem? hz)
        refine ⟨_, rfl, ua, rfl, ⟨_, .inl (.inl (e4 _ _ hua))⟩, for_list (K := K) (a := ua) (xs := natsV (Kv437.allowedUses (m.block k).assignment)) (fun j σ H' => ∃ v7 v8 : Option V, σ = [some (.ref a), some (.ref al), some (.int k), some (.ref ua), some (.ref L), some (.ref x), some (.ref t), v7, v8] ∧ Same H3 H' ∧
            ∃ us : List Addr, H' x = some (.lst (us.map V.ref)) ∧ us.length ≤ 3 * i + j ∧ x ∉ us ∧ Als H' us ((as.take i).flatMap (grow m k) ++ (((Kv437.allowedUses (m.block k).assignment).take j).filter fun u => !meets z (earlier m k) u).map fun u => z ++ [u]))
          ⟨v7, v8, rfl, e4, us, hx4, by omega, hxu, by rw [List.take_zero, List.filter_nil, List.map_nil, List.append_nil]; exact hA4⟩ (fun j σ H' _ ⟨_, _, _, e, _⟩ => .inl (.inl (e _ _ hua))) ?_ ?_⟩
        · rintro j y σ H5 hi5 ⟨v7, v8, rfl, e5, us5, hx5, hul5, hxu5, hA5⟩
          obtain ⟨u, hu, rfl⟩ := map_at hi5
          have hj3 : j < 3 := Nat.lt_of_lt_of_le (List.getElem?_eq_some_iff.mp hu).1 (uses_few _)
          have eg := grow_take m k z hu
          refine ⟨_, rfl, _, rfl, _, rfl, t, L, z, earlier m k, u, rfl, .inl (.inl (e5 _ _ hzt)), .inl (.inl (e5 _ _ hea)), fun o ho => by rw [hzl]; exact ((earlier_mem hW).mp ho).1, _, rfl, iteNB (fun h => ?_) (fun h => ?_)⟩
          · refine ⟨_, rfl, .inl ⟨rfl, _, .inl (.inl hx5)⟩, _, rfl, _, rfl, (by show 1 ≤ sizeLine; decide), fun p np => ?_⟩
            have s6 := same_upd (o := .lst [.int u]) np
            refine ⟨t, p, _, _, rfl, rfl, s6 _ _ (e5 _ _ hzt), upd_same, ?_, fun r nr => ?_⟩
            · rw [natsV_len, hzl]
              exact Nat.le_trans (by show k + 1 ≤ 6; omega) (by decide : 6 ≤ sizeLine)
            have s7 := same_upd (o := .lst (natsV z ++ [.int u])) nr
            have hx7 := s7 _ _ (s6 _ _ hx5)
            refine ⟨x, _, _, rfl, rfl, hx7, ?_, ?_⟩
            · rw [List.length_map]
              exact Nat.lt_of_le_of_lt (by omega : us5.length ≤ 3000) (by decide)
            have nxr : x ≠ r := ne_of_none (s6 _ _ hx5) nr
            have nxp : x ≠ p := ne_of_none hx5 np
            refine ⟨_, _, rfl, fun b o hb => ?_, us5 ++ [r], ?_, ?_, ?_, ?_⟩
            · rw [upd_ne (ne_of_none hb nx)]
              exact s7 _ _ (s6 _ _ (e5 _ _ hb))
            · rw [upd_same, List.map_append]
              rfl
            · rw [List.length_append]
              show us5.length + 1 ≤ _
              omega
            · intro hm
              rcases List.mem_append.mp hm with hm | hm
              · exact hxu5 hm
              · exact nxr (List.mem_singleton.mp hm)
            · rw [eg, if_pos (by rw [h]; rfl), ← List.append_assoc]
              have kb : But x (upd (upd H5 p (.lst [.int u])) r (.lst (natsV z ++ [.int u]))) (upd (upd (upd H5 p (.lst [.int u])) r (.lst (natsV z ++ [.int u]))) x (.lst (us5.map V.ref ++ [.ref r]))) := fun b o hb n => by
                rw [upd_ne n]
                exact hb
              refine Als.snoc ?_ ((hA5.same (s6.trans s7)).but kb hxu5)
              rw [upd_ne nxr.symm, upd_same, natsV_snoc]
          · refine ⟨_, _, rfl, e5, us5, hx5, by omega, hxu5, ?_⟩
            rw [eg, if_neg (by rw [h]; exact Bool.noConfusion), List.append_nil]
            exact hA5
        · rintro σ H5 ⟨v7, v8, rfl, e5, us5, hx5, hul5, hxu5, hA5⟩
          rw [natsV_len] at hul5 hA5
          rw [List.take_length] at hA5
          have := uses_few (m.block k).assignment
          refine ⟨_, _, _, rfl, e5, us5, hx5, by omega, hxu5, ?_⟩
          rw [flatMap_more _ hz]
          exact hA5
      · rintro σ H4 ⟨v6, v7, v8, rfl, e4, us, hx4, hul, hxu, hA4⟩
        have : (as0.map V.ref).length = as.length := by rw [List.length_map, hals.len]
        rw [this, List.take_length] at hA4
        exact ⟨_, rfl, q H4 x (sAll.trans e4) (sAll.free nx) ⟨us, hx4, hA4⟩⟩
/-! ### valid_allocations -/
def spVal (C : Addr) : Sp := fun vs H Q _ => ∃ (a : Addr) (m : Stand), vs = [.ref a] ∧ Stad C H a m ∧ WF m ∧ ∀ H' r, Same H H' → H r = none → LL H' r (m.validAllocations 0) → Q (.ref r) H'
theorem ok_val {f : Addr} {fd : FuncData} (F : Fun K "valid_allocations" "valid_allocations" sVal f fd) (T : Txt K mg C) (GB : Mt P w K mg base C "block_count" 1 ["self"] (spBc C)) (GE : Fn P w K mg base "extended_by_block" 3 ["stadium", "allocations", "block"] (spExt C)) : FnOk P w K mg base CX0 4 f fd ["stadium"] (spVal C) := by
  refine F.ok scVal (fun vs H Q E h => ?_) (fun cdv A outer s H vs Q E hr h => ?_)
  · obtain ⟨a, m, rfl, _⟩ := h
    rfl
  · obtain ⟨a, m, rfl, hS, hW, q⟩ := h
    refine ⟨_, pss_cons (ps_set (i := 1) scVal.nd rfl (.inl rfl) (pe_lst (pa_cons (pe_lst pa_nil) pa_nil)))
      (pss_cons (ps_for PassesOwn.never rfl (pi_range1 (by rfl) T.range (pa_cons (pe_mt0 GB T.cl (hr.mono (by decide)) (pv 0)) pa_nil)) (pg_name (i := 2) scVal.nd rfl (.inl rfl))
        (pss_one (ps_set (i := 1) scVal.nd rfl (.inl rfl) (pe_fn GE hr (pa_cons (pv 0) (pa_cons (pv 1) (pa_cons (pv 2) pa_nil)))))))
      (pss_one (ps_ret (pv 1)))), ?_⟩
    have h6 := hW.six
    refine ⟨Nat.zero_le _, fun e ne => ⟨(by show 1 ≤ sizeLine; decide), fun l nl => ?_⟩⟩
    have s1 := same_upd (o := .lst []) ne
    have s2 := same_upd (o := .lst [.ref e]) nl
    have s12 := s1.trans s2
    obtain ⟨s0, t0, p0, ts, D⟩ := hS.same s12
    obtain ⟨dx, hi⟩ := D.ins
    refine ⟨_, rfl, a, dx, _, rfl, hi, fS_no _ _ _ _ (by decide +kernel) (by decide +kernel) (by decide +kernel), a, m, rfl, ⟨s0, t0, p0, ts, D⟩, (m.blocks.length : Nat), rfl, by omega, by omega, ?_⟩
    refine for_range (lo := 0) (n := m.blocks.length) (fun k σ H' => ∃ (r : Addr) (v2 : Option V), σ = [some (.ref a), some (.ref r), v2] ∧ Same H H' ∧ H r = none ∧ LL H' r (valids m k)) ⟨l, none, rfl, s12, s1.free nl, ?_⟩ ?_ ?_
    · rw [valids_zero]
      exact ⟨[e], upd_same, .cons (s2 _ _ upd_same) .nil⟩
    · rintro k σ H3 hk ⟨r, v2, rfl, e3, nr, hL⟩
      refine ⟨_, rfl, _, rfl, _, rfl, a, r, m, valids m k, k, ?_, hS.same e3, hW, hk, hL, fun x hx => (valids_in hW (by omega) hx).1, valids_few hW k, fun H4 r4 e4 n4 hL4 => ⟨r4, _, rfl, e3.trans e4, e3.free n4, ?_⟩⟩
      · rw [Int.zero_add]
        rfl
      · rw [valids_succ hW hk]
        exact hL4
    · rintro σ H3 ⟨r, v2, rfl, e3, nr, hL⟩
      rw [valids_all hW] at hL
      exact ⟨_, rfl, q H3 r e3 nr hL⟩
end
end SB

set_option Elab.async false
set_option linter.all false
set_option maxRecDepth 100000
set_option maxHeartbeats 4000000
namespace SB
open PySem PySem.Spec PyProof.Rows L2
open Kv437 (Stand Block Planner Operation Response)
/-! ### the first with the most sold seats -/
def better (m : Stand) (acc : Option (Nat × List Nat)) (a : List Nat) : Option (Nat × List Nat) := match acc with
  | none => some (m.soldSeats a, a)
  | some b => if b.1 < m.soldSeats a then some (m.soldSeats a, a) else some b
def bestF (m : Stand) (l : List (List Nat)) : Option (Nat × List Nat) := l.foldl (better m) none
theorem best_some (m : Stand) : ∀ (l : List (List Nat)) (b : Nat × List Nat), l.foldl (better m) (some b) = some (l.foldl (fun (best : Nat × List Nat) a => let sold := m.soldSeats a; if best.1 < sold then (sold, a) else best) b)
  | [], _ => rfl
  | a :: l, b => by
    rw [List.foldl_cons, List.foldl_cons]
    show l.foldl (better m) (if b.1 < m.soldSeats a then some (m.soldSeats a, a) else some b) = _
    by_cases h : b.1 < m.soldSeats a
    · rw [if_pos h, best_some m l]
      show _ = some (l.foldl _ (if b.1 < m.soldSeats a then (m.soldSeats a, a) else b))
      rw [if_pos h]
    · rw [if_neg h, best_some m l]
      show _ = some (l.foldl _ (if b.1 < m.soldSeats a then (m.soldSeats a, a) else b))
      rw [if_neg h]
theorem best_is (m : Stand) (k : Nat) : m.best k = (bestF m (m.validAllocations k)).map (·.2) := by
  unfold Stand.best bestF
  cases m.validAllocations k with
  | nil => rfl
  | cons a l =>
    rw [List.foldl_cons]
    show _ = Option.map (·.2) (l.foldl (better m) (some (m.soldSeats a, a)))
    rw [best_some]
    rfl
theorem better_in {m : Stand} {p : List Nat → Prop} {acc : Option (Nat × List Nat)} {a : List Nat} (h : ∀ b, acc = some b → b.1 = m.soldSeats b.2 ∧ p b.2) (ha : p a) : ∀ b, better m acc a = some b → b.1 = m.soldSeats b.2 ∧ p b.2 := by
  intro b hb
  cases acc with
  | none =>
    have : (m.soldSeats a, a) = b := Option.some.inj hb
    subst this
    exact ⟨rfl, ha⟩
  | some c =>
    have hb : (if c.1 < m.soldSeats a then some (m.soldSeats a, a) else some c) = some b := hb
    by_cases hc : c.1 < m.soldSeats a
    · rw [if_pos hc] at hb
      have : (m.soldSeats a, a) = b := Option.some.inj hb
      subst this
      exact ⟨rfl, ha⟩
    · rw [if_neg hc] at hb
      have : c = b := Option.some.inj hb
      subst this
      exact h c rfl
theorem best_fold_in {m : Stand} {p : List Nat → Prop} : ∀ (l : List (List Nat)) (acc : Option (Nat × List Nat)), (∀ a ∈ l, p a) → (∀ b, acc = some b → b.1 = m.soldSeats b.2 ∧ p b.2) → ∀ b, l.foldl (better m) acc = some b → b.1 = m.soldSeats b.2 ∧ p b.2
  | [], _, _, h => h
  | a :: l, acc, hl, h => best_fold_in l _ (fun c hc => hl c (.tail _ hc)) (better_in h (hl a (.head _)))
theorem bestF_in {m : Stand} {l : List (List Nat)} {b : Nat × List Nat} (h : bestF m l = some b) : b.1 = m.soldSeats b.2 ∧ b.2 ∈ l :=
  best_fold_in (p := (· ∈ l)) l none (fun _ h => h) (fun _ h => nomatch h) b h
theorem bestF_more (m : Stand) {l : List (List Nat)} {i : Nat} {a : List Nat} (h : l[i]? = some a) : bestF m (l.take (i + 1)) = better m (bestF m (l.take i)) a := by
  unfold bestF
  rw [take_more h, List.foldl_append]
  rfl
theorem validAll_in {m : Stand} (h : WF m) {k : Nat} {a : List Nat} (ha : a ∈ m.validAllocations k) : a.length = m.blocks.length ∧ ∀ u ∈ a, u ≤ 2 := by
  have h0 : a ∈ valids m m.blocks.length := by
    rw [valids_all h]
    unfold Stand.validAllocations at ha ⊢
    rw [List.mem_filter, Bool.and_eq_true] at ha ⊢
    exact ⟨ha.1, ha.2.1, decide_eq_true (Nat.zero_le _)⟩
  exact valids_in h (Nat.le_refl _) h0
theorem best_in {m : Stand} (h : WF m) {k : Nat} {a : List Nat} (ha : m.best k = some a) : a.length = m.blocks.length ∧ ∀ u ∈ a, u ≤ 2 := by
  rw [best_is] at ha
  cases e : bestF m (m.validAllocations k) with
  | none =>
    rw [e] at ha
    cases ha
  | some b =>
    rw [e] at ha
    have : b.2 = a := Option.some.inj ha
    rw [← this]
    exact validAll_in h (bestF_in e).2
/-- the value that stands for the best so far -/
def BV (H : Hp) (v : V) : Option (List Nat) → Prop
  | none => v = .non
  | some a => ∃ t, v = .ref t ∧ H t = some (.lst (natsV a))
theorem BV.same {H H' : Hp} (e : Same H H') {v : V} : ∀ {o : Option (List Nat)}, BV H v o → BV H' v o
  | none, h => h
  | some a, ⟨t, h1, h2⟩ => ⟨t, h1, e _ _ h2⟩
/-- whether an allocation has that many away seats -/
def keeps (m : Stand) (k : Nat) (a : List Nat) : Bool := decide (k ≤ m.awaySeats a)
theorem valid_keeps (m : Stand) (k : Nat) : m.validAllocations k = (m.validAllocations 0).filter (keeps m k) := by
  unfold Stand.validAllocations keeps
  rw [List.filter_filter]
  refine List.filter_congr fun a _ => ?_
  rw [decide_eq_true (Nat.zero_le _), Bool.and_true, Bool.and_comm]
theorem bestK_more (m : Stand) (k : Nat) {l : List (List Nat)} {i : Nat} {a : List Nat} (h : l[i]? = some a) :
    bestF m ((l.take (i + 1)).filter (keeps m k)) = if keeps m k a = true then better m (bestF m ((l.take i).filter (keeps m k))) a else bestF m ((l.take i).filter (keeps m k)) := by
  rw [take_more h, filter_snoc]
  by_cases c : keeps m k a = true
  · rw [if_pos c, if_pos c]
    unfold bestF
    rw [List.foldl_append]
    rfl
  · rw [if_neg c, if_neg c, List.append_nil]
abbrev sBest : Stmt := topS 8
theorem scBest : FnScope ["stadium", "min_away", "best", "most", "allocation", "sold"] ["stadium", "min_away"] (defScope sBest) := ⟨rfl, rfl, rfl, by decide +kernel, rfl, by decide +kernel, by decide +kernel⟩
section
variable {P : Program} {w : World} {K : PySem.W.Frag} {mg : Str → Option Value} {base : Heap} {C : Addr}
def spBest (C : Addr) : Sp := fun vs H Q _ => ∃ (a : Addr) (m : Stand) (k : Nat), vs = [.ref a, .int k] ∧ Stad C H a m ∧ WF m ∧ ∀ H' v, Same H H' → BV H' v (m.best k) → Q v H'
theorem ok_best {f : Addr} {fd : FuncData} (F : Fun K "find_best" "find_best" sBest f fd) (Z : Cs mg) (GV : Fn P w K mg base "valid_allocations" 4 ["stadium"] (spVal C)) (GC : Fn P w K mg base "count_seats" 1 ["stadium", "allocation", "use"] (spCs C K)) (GS : Fn P w K mg base "count_sold" 2 ["stadium", "allocation"] (spSold C K)) : FnOk P w K mg base CX0 5 f fd ["stadium", "min_away"] (spBest C) := by
  refine F.ok scBest (fun vs H Q E h => ?_) (fun cdv A outer s H vs Q E hr h => ?_)
  · obtain ⟨a, m, k, rfl, _⟩ := h
    rfl
  · obtain ⟨a, m, k, rfl, hS, hW, q⟩ := h
    refine ⟨_, pss_cons (ps_set (i := 2) scBest.nd rfl (.inl rfl) pe_non)
      (pss_cons (ps_set (i := 3) scBest.nd rfl (.inl rfl) pe_int)
      (pss_cons (ps_for PassesOwn.never rfl (pi_list (pe_fn GV hr (pa_cons (pv 0) pa_nil))) (pg_name (i := 4) scBest.nd rfl (.inl rfl))
        (pss_cons (ps_if (pt_cmpR op_lt (pe_fn GC (hr.mono (by decide)) (pa_cons (pv 0) (pa_cons (pv 4) (pa_cons (pe_gi Z.away) pa_nil)))) (pv 1) (nomark _)) (pss_one ps_continue) pss_nil)
        (pss_cons (ps_set (i := 5) scBest.nd rfl (.inl rfl) (pe_fn GS (hr.mono (by decide)) (pa_cons (pv 0) (pa_cons (pv 4) pa_nil))))
        (pss_one (ps_if (PW.pt (pw_or (pt_cmpR op_isN (pv 2) pe_non (nomark _)) (pw_or1 (pt_cmpR op_gt (pv 5) (pv 3) (nomark _)))))
          (pss_cons (ps_set (i := 2) scBest.nd rfl (.inl rfl) (pv 4)) (pss_one (ps_set (i := 3) scBest.nd rfl (.inl rfl) (pv 5)))) pss_nil)))))
      (pss_one (ps_ret (pv 2))))), ?_⟩
    refine ⟨_, rfl, a, m, rfl, hS, hW, fun H1 r s1 nr hL => ⟨r, rfl, ?_⟩⟩
    obtain ⟨ts, hr1, hA⟩ := hL
    have hvk := valid_keeps m k
    generalize hl : m.validAllocations 0 = l at hA hvk
    have hin : ∀ x ∈ l, x.length = m.blocks.length ∧ ∀ u ∈ x, u ≤ 2 := fun x hx => validAll_in hW (k := 0) (by rw [hl]; exact hx)
    refine ⟨⟨_, .inl (.inl hr1)⟩, for_list (K := K) (a := r) (xs := ts.map V.ref) (fun i σ H' => ∃ (v : V) (n : Nat) (v4 v5 : Option V), σ = [some (.ref a), some (.int k), some v, some (.int n), v4, v5] ∧ Same H1 H' ∧ BV H' v ((bestF m ((l.take i).filter (keeps m k))).map (·.2)) ∧ n = ((bestF m ((l.take i).filter (keeps m k))).map (·.1)).getD 0)
      ⟨.non, 0, none, none, rfl, Same.refl _, rfl, rfl⟩ (fun i σ H' _ ⟨_, _, _, _, _, e, _⟩ => .inl (.inl (e _ _ hr1))) ?_ ?_⟩
    · rintro i y σ H2 hi ⟨v, n, v4, v5, rfl, e2, hv, hn⟩
      obtain ⟨t, ht, rfl⟩ := map_at hi
      obtain ⟨z, hz, hzt⟩ := hA.get ht
      obtain ⟨hzl, hzu⟩ := hin z (List.mem_of_getElem? hz)
      have step := bestK_more m k hz
      refine ⟨_, rfl, _, rfl, a, t, m, z, 2, rfl, (hS.same s1).same e2, hW, .inl (.inl (e2 _ _ hzt)), hzl, fun H3 e3 => ⟨_, rfl, _, _, rfl, rfl, _, rfl, iteD (fun h => ?_) (fun h => ?_)⟩⟩
      · have c : ¬ keeps m k z = true := fun c => by
          have c := of_decide_eq_true c
          have : m.awaySeats z < k := by exact_mod_cast h
          omega
        rw [if_neg c] at step
        exact ⟨v, n, _, _, rfl, e2.trans e3, by rw [step]; exact hv.same e3, by rw [step]; exact hn⟩
      have c : keeps m k z = true := decide_eq_true (by
        have : ¬ m.awaySeats z < k := fun z => h (by exact_mod_cast z)
        omega)
      rw [if_pos c] at step
      have e23 := e2.trans e3
      refine ⟨_, rfl, _, rfl, a, t, m, z, rfl, (hS.same s1).same e23, hW, .inl (.inl (e23 _ _ hzt)), hzl, hzu, fun H4 e4 => ?_⟩
      have e24 := e23.trans e4
      have take : ∀ (c : bestF m ((l.take (i + 1)).filter (keeps m k)) = some (m.soldSeats z, z)), ∃ (v : V) (n : Nat) (v4 v5 : Option V), [some (V.ref a), some (.int k), some (.ref t), some (.int (m.soldSeats z : Nat)), some (.ref t), some (.int (m.soldSeats z : Nat))] = [some (.ref a), some (.int k), some v, some (.int n), v4, v5] ∧ Same H1 H4 ∧ BV H4 v ((bestF m ((l.take (i + 1)).filter (keeps m k))).map (·.2)) ∧ n = ((bestF m ((l.take (i + 1)).filter (keeps m k))).map (·.1)).getD 0 := fun c =>
        ⟨_, _, _, _, rfl, e24, by rw [c]; exact ⟨t, rfl, e24 _ _ hzt⟩, by rw [c]; rfl⟩
      cases hb : bestF m ((l.take i).filter (keeps m k)) with
      | none =>
        rw [hb] at hv step
        have hv : v = .non := hv
        subst hv
        refine ⟨_, rfl, rfl, _, rfl, iteT (iteT ?_)⟩
        exact ⟨_, rfl, _, rfl, take step⟩
      | some b =>
        rw [hb] at hv hn step
        obtain ⟨tb, rfl, htb⟩ := hv
        have hn : n = b.1 := hn
        refine ⟨_, rfl, rfl, _, rfl, iteF ⟨_, rfl, _, rfl, _, _, rfl, rfl, _, rfl, iteD (fun h => ?_) (fun h => ?_)⟩⟩
        · have c : b.1 < m.soldSeats z := by omega
          exact ⟨_, rfl, _, rfl, take (step.trans (if_pos c))⟩
        · have c : ¬ b.1 < m.soldSeats z := by omega
          have st : bestF m ((l.take (i + 1)).filter (keeps m k)) = some b := step.trans (if_neg c)
          exact ⟨_, _, _, _, rfl, e24, by rw [st]; exact ⟨tb, rfl, e4 _ _ (e3 _ _ htb)⟩, by rw [st]; exact hn⟩
    · rintro σ H2 ⟨v, n, v4, v5, rfl, e2, hv, hn⟩
      have : l.take (ts.map V.ref).length = l := List.take_of_length_le (by rw [List.length_map, hA.len]; exact Nat.le_refl _)
      rw [this, ← hvk, ← best_is] at hv
      exact ⟨_, rfl, q H2 v (s1.trans e2) hv⟩
end
end SB

set_option Elab.async false
set_option linter.all false
set_option maxRecDepth 100000
set_option maxHeartbeats 4000000
namespace SB
open PySem PySem.Spec PyProof.Rows L2
open Kv437 (Stand Block Planner Operation Response)
abbrev sList : Stmt := topS 43
abbrev sNb : Stmt := topS 44
abbrev sBa : Stmt := topS 46
abbrev sBwa : Stmt := topS 47
abbrev sEs : Stmt := topS 48
theorem scList : FnScope ["stadium", "answer", "block"] ["stadium"] (defScope sList) := ⟨rfl, rfl, rfl, by decide +kernel, rfl, by decide +kernel, by decide +kernel⟩
theorem scNb : FnScope ["stadium", "block", "adjacent"] ["stadium", "block"] (defScope sNb) := ⟨rfl, rfl, rfl, by decide +kernel, rfl, by decide +kernel, by decide +kernel⟩
theorem scBwa : FnScope ["stadium", "min_away", "best"] ["stadium", "min_away"] (defScope sBwa) := ⟨rfl, rfl, rfl, by decide +kernel, rfl, by decide +kernel, by decide +kernel⟩
theorem scBa : FnScope ["stadium"] ["stadium"] (defScope sBa) := ⟨rfl, rfl, rfl, by decide +kernel, rfl, by decide +kernel, by decide +kernel⟩
theorem scEs : FnScope ["stadium", "best"] ["stadium"] (defScope sEs) := ⟨rfl, rfl, rfl, by decide +kernel, rfl, by decide +kernel, by decide +kernel⟩
/-- an answer at a new list, nothing changed -/
theorem Out.new {C : Addr} {H H' : Hp} {a r : Addr} {m : Stand} {op : Operation} {Q : VK} {v : Response} {xs : List V} (q : Out C H a m op Q) (e : (Planner.mk m).run op = (⟨m⟩, v)) (hS : Stad C H a m) (s : Same H H') (hr : H' r = none) (hv : xs = rowV v) : Q (.ref r) (upd H' r (.lst xs)) :=
  Out.pure q e rfl hS (s.trans (same_upd hr)) (s.free hr) (by rw [upd_same, hv])
theorem nbs_eq {m : Stand} (h : WF m) (i : Nat) : (List.range m.blocks.length).filter (m.areAdjacent i) = nbs m i := by
  unfold nbs
  exact List.filter_congr fun j _ => adj_eq h i j
/-- the seats and the assignments of the first k blocks, one behind the other -/
def pairsOf (m : Stand) (k : Nat) : List Nat := (m.blocks.take k).flatMap fun b => [b.seats, b.assignment]
section
variable {P : Program} {w : World} {K : PySem.W.Frag} {mg : Str → Option Value} {base : Heap} {C : Addr}
def spOp0 (C : Addr) (op : Operation) : Sp := fun vs H Q _ => ∃ (a : Addr) (m : Stand), vs = [.ref a] ∧ Stad C H a m ∧ WF m ∧ Out C H a m op Q
def spOp1 (C : Addr) (op : Nat → Operation) : Sp := fun vs H Q _ => ∃ (a : Addr) (m : Stand) (x : Nat), vs = [.ref a, .int x] ∧ Stad C H a m ∧ WF m ∧ Out C H a m (op x) Q
theorem ok_list {f : Addr} {fd : FuncData} (F : Fun K "list_blocks" "list_blocks" sList f fd) (T : Txt K mg C) (GB : Mt P w K mg base C "block_count" 1 ["self"] (spBc C)) : FnOk P w K mg base CX0 2 f fd ["stadium"] (spOp0 C .listBlocks) := by
  refine F.ok scList (fun vs H Q E h => ?_) (fun cdv A outer s H vs Q E hr h => ?_)
  · obtain ⟨a, m, rfl, _⟩ := h
    rfl
  · obtain ⟨a, m, rfl, hS, hW, q⟩ := h
    refine ⟨_, pss_cons (ps_set (i := 1) scList.nd rfl (.inl rfl) (pe_lst (pa_cons (pe_mt0 GB T.cl hr (pv 0)) pa_nil)))
      (pss_cons (ps_for PassesOwn.never rfl (pi_range1 (by rfl) T.range (pa_cons (pe_mt0 GB T.cl hr (pv 0)) pa_nil)) (pg_name (i := 2) scList.nd rfl (.inl rfl))
        (pss_cons (ps_expr (pe_bm PySem.F.plainAttrs_list PySem.F.slot_list_append PySem.F.type_list_append mt_append (pv 1) (pa_cons (pe_ix ix_list (pe_fld (pv 0) rfl) (pv 2) (fun _ _ => rfl)) pa_nil)))
        (pss_one (ps_expr (pe_bm PySem.F.plainAttrs_list PySem.F.slot_list_append PySem.F.type_list_append mt_append (pv 1) (pa_cons (pe_ix ix_list (pe_fld (pv 0) rfl) (pv 2) (fun _ _ => rfl)) pa_nil))))))
      (pss_one (ps_ret (pv 1)))), ?_⟩
    obtain ⟨s0, t0, p0, ts, D⟩ := hS
    obtain ⟨dx, hi⟩ := D.ins
    have hS : Stad C H a m := ⟨s0, t0, p0, ts, D⟩
    have h6 := hW.six
    refine ⟨_, rfl, a, dx, _, rfl, hi, fS_no _ _ _ _ (by decide +kernel) (by decide +kernel) (by decide +kernel), a, m, rfl, hS, (by show 1 ≤ sizeLine; decide), fun x nx => ?_⟩
    have s1 := same_upd (o := .lst [.int (m.blocks.length : Nat)]) nx
    refine ⟨_, rfl, a, dx, _, rfl, s1 _ _ hi, fS_no _ _ _ _ (by decide +kernel) (by decide +kernel) (by decide +kernel), a, m, rfl, hS.same s1, (m.blocks.length : Nat), rfl, by omega, by omega, ?_⟩
    refine for_range (lo := 0) (n := m.blocks.length) (fun k σ H' => ∃ v2 : Option V, σ = [some (.ref a), some (.ref x), v2] ∧ Same H H' ∧ H' x = some (.lst (natsV (m.blocks.length :: pairsOf m k))) ∧ (pairsOf m k).length = 2 * k) ⟨none, rfl, s1, upd_same, rfl⟩ ?_ ?_
    · rintro k σ H2 hk ⟨v2, rfl, e2, hx, hl⟩
      have hx0 : H x = none := nx
      have hi2 := e2 _ _ hi
      refine ⟨_, rfl, .inl ⟨rfl, _, .inl (.inl hx)⟩, _, rfl, a, C, dx, _, _, rfl, hi2, T.cl, T.nS, fS_s _ _ _, _, rfl, s0, _, _, _, rfl, rfl, .inl (.inl (e2 _ _ D.hs)), at_of (j := k) (by omega) (seatsV_at hk), x, _, _, rfl, rfl, hx, ?_, ?_⟩
      · rw [natsV_len, List.length_cons, hl]
        exact Nat.lt_of_le_of_lt (by omega : _ ≤ 13) (by decide : 13 < sizeLine)
      have e3 : ∀ {o}, Same H (upd H2 x o) := fun {o} b u hb => by
        rw [upd_ne (ne_of_none hb hx0)]
        exact e2 _ _ hb
      refine ⟨_, rfl, .inl ⟨rfl, _, .inl (.inl upd_same)⟩, _, rfl, a, C, dx, _, _, rfl, e3 _ _ hi, T.cl, T.nT, fS_t _ _ _, _, rfl, t0, _, _, _, rfl, rfl, .inl (.inl (e3 _ _ D.ht)), at_of (j := k) (by omega) (assV_at hk), x, _, _, rfl, rfl, upd_same, ?_, ?_⟩
      · rw [List.length_append, natsV_len, List.length_cons, hl]
        exact Nat.lt_of_le_of_lt (by show _ + 1 ≤ 14; omega : _ ≤ 14) (by decide : 14 < sizeLine)
      have ep : pairsOf m (k + 1) = pairsOf m k ++ [(m.block k).seats, (m.block k).assignment] := by
        unfold pairsOf
        rw [flatMap_more _ (block_at hk)]
      refine ⟨_, rfl, fun b u hb => ?_, ?_, ?_⟩
      · rw [upd_ne (ne_of_none hb hx0)]
        exact e3 _ _ hb
      · rw [upd_same, ep, show m.blocks.length :: (pairsOf m k ++ [(m.block k).seats, (m.block k).assignment]) = (m.blocks.length :: pairsOf m k) ++ [(m.block k).seats] ++ [(m.block k).assignment] from by simp, natsV_snoc, natsV_snoc]
        rfl
      · rw [ep, List.length_append, hl]
        show 2 * k + 2 = _
        omega
    · rintro σ H2 ⟨v2, rfl, e2, hx, hl⟩
      refine ⟨_, rfl, Out.pure q rfl rfl hS e2 nx ?_⟩
      rw [hx]
      unfold pairsOf
      rw [List.take_length]
      rfl
theorem ok_nb {f : Addr} {fd : FuncData} (F : Fun K "neighbors" "neighbors" sNb f fd) (T : Txt K mg C) (Z : Cs mg) (GH : Mt P w K mg base C "has_block" 1 ["self", "block"] (spHb C)) (GA : Mt P w K mg base C "adjacent_blocks" 2 ["self", "block"] (spAb C)) : FnOk P w K mg base CX0 3 f fd ["stadium", "block"] (spOp1 C .neighbors) := by
  refine F.ok scNb (fun vs H Q E h => ?_) (fun cdv A outer s H vs Q E hr h => ?_)
  · obtain ⟨a, m, i, rfl, _⟩ := h
    rfl
  · obtain ⟨a, m, i, rfl, hS, hW, q⟩ := h
    refine ⟨_, pss_cons (ps_if (pt_not (pt_val (pe_mt GH T.cl (hr.mono (by decide)) (pv 0) (pa_cons (pv 1) pa_nil)))) (pss_one (ps_ret (pe_lst (pa_cons (pe_gi Z.noSuch) pa_nil)))) pss_nil)
      (pss_cons (ps_set (i := 2) scNb.nd rfl (.inl rfl) (pe_mt GA T.cl hr (pv 0) (pa_cons (pv 1) pa_nil)))
      (pss_one (ps_ret (pe_op op_cat (pe_lst (pa_cons (pe_callB call_len_seq (by rfl) T.len PySem.boot_len (pa_cons (pv 2) pa_nil)) pa_nil)) (pv 2))))), ?_⟩
    obtain ⟨s0, t0, p0, ts, D⟩ := hS
    obtain ⟨dx, hi⟩ := D.ins
    have hS : Stad C H a m := ⟨s0, t0, p0, ts, D⟩
    refine ⟨_, rfl, a, dx, _, rfl, hi, fS_no _ _ _ _ (by decide +kernel) (by decide +kernel) (by decide +kernel), _, rfl, a, m, i, rfl, hS, _, rfl, iteND (fun h => ?_) (fun h => ?_)⟩
    · exact ⟨(by show 1 ≤ sizeLine; decide), fun r hr => Out.new q (if_pos (isB_f (by omega))) hS (Same.refl _) hr rfl⟩
    have hil : i < m.blocks.length := by omega
    have h6 := hW.six
    refine ⟨_, rfl, a, dx, _, rfl, hi, fS_no _ _ _ _ (by decide +kernel) (by decide +kernel) (by decide +kernel), _, rfl, a, m, i, rfl, hS, h6, fun H1 n s1 nn hn => ?_⟩
    refine ⟨_, rfl, n, _, rfl, .inl (.inl (.inl hn)), (by show 1 ≤ sizeLine; decide), fun p np => ?_⟩
    have s2 := same_upd (o := .lst [.int (natsV (nbs m i)).length]) np
    have hf : (nbs m i).length ≤ 6 := by
      refine Nat.le_trans (List.length_filter_le _ _) ?_
      rw [List.length_range]
      exact h6
    refine ⟨_, rfl, p, n, _, _, rfl, rfl, upd_same, s2 _ _ hn, ?_, fun r hr => ?_⟩
    · rw [natsV_len]
      exact Nat.le_trans (by show 1 + _ ≤ 7; omega) (by decide : 7 ≤ sizeLine)
    · refine Out.new q (if_neg (isB_t hil)) hS (s1.trans s2) hr ?_
      rw [nbs_eq hW, natsV_len]
      rfl
theorem ok_bwa {f : Addr} {fd : FuncData} (F : Fun K "best_with_away" "best_with_away" sBwa f fd) (Z : Cs mg) (GF : Fn P w K mg base "find_best" 5 ["stadium", "min_away"] (spBest C)) (GS : Fn P w K mg base "count_sold" 2 ["stadium", "allocation"] (spSold C K)) : FnOk P w K mg base CX0 6 f fd ["stadium", "min_away"] (spOp1 C .bestWithAway) := by
  refine F.ok scBwa (fun vs H Q E h => ?_) (fun cdv A outer s H vs Q E hr h => ?_)
  · obtain ⟨a, m, k, rfl, _⟩ := h
    rfl
  · obtain ⟨a, m, k, rfl, hS, hW, q⟩ := h
    refine ⟨_, pss_cons (ps_set (i := 2) scBwa.nd rfl (.inl rfl) (pe_fn GF hr (pa_cons (pv 0) (pa_cons (pv 1) pa_nil))))
      (pss_cons (ps_if (pt_cmpR op_isN (pv 2) pe_non (nomark _)) (pss_one (ps_ret (pe_lst (pa_cons (pe_gi Z.noAlloc) pa_nil)))) pss_nil)
      (pss_one (ps_ret (pe_op op_cat (pe_lst (pa_cons (pe_fn GS (hr.mono (by decide)) (pa_cons (pv 0) (pa_cons (pv 2) pa_nil))) pa_nil)) (pv 2))))), ?_⟩
    refine ⟨_, rfl, _, rfl, a, m, k, rfl, hS, hW, fun H1 v s1 hv => ?_⟩
    cases hb : m.best k with
    | none =>
      rw [hb] at hv
      have hv : v = .non := hv
      subst hv
      refine ⟨_, rfl, rfl, _, rfl, iteT ⟨(by show 1 ≤ sizeLine; decide), fun r hr => Out.new q (v := .error (-33)) ?_ hS s1 hr rfl⟩⟩
      show (_, Kv437.allocationResponse m (m.best k)) = _
      rw [hb]
      rfl
    | some l =>
      rw [hb] at hv
      obtain ⟨t, rfl, ht⟩ := hv
      obtain ⟨hl, hu⟩ := best_in hW hb
      have h6 := hW.six
      refine ⟨_, rfl, rfl, _, rfl, iteF ⟨_, rfl, _, rfl, a, t, m, l, rfl, hS.same s1, hW, .inl (.inl ht), hl, hu, fun H2 s2 => ⟨(by show 1 ≤ sizeLine; decide), fun p np => ?_⟩⟩⟩
      have s3 := same_upd (o := .lst [.int (m.soldSeats l : Nat)]) np
      refine ⟨_, rfl, p, t, _, _, rfl, rfl, upd_same, s3 _ _ (s2 _ _ ht), ?_, fun r hr => Out.new q (v := ⟨(m.soldSeats l : Nat), l⟩) ?_ hS (s1.trans (s2.trans s3)) hr rfl⟩
      · rw [natsV_len, hl]
        exact Nat.le_trans (by show 1 + _ ≤ 7; omega) (by decide : 7 ≤ sizeLine)
      · show (_, Kv437.allocationResponse m (m.best k)) = _
        rw [hb]
        rfl
theorem ok_ba {f : Addr} {fd : FuncData} (F : Fun K "best_allocation" "best_allocation" sBa f fd) (GW : Fn P w K mg base "best_with_away" 6 ["stadium", "min_away"] (spOp1 C .bestWithAway)) : FnOk P w K mg base CX0 7 f fd ["stadium"] (spOp0 C .bestAllocation) := by
  refine F.ok scBa (fun vs H Q E h => ?_) (fun cdv A outer s H vs Q E hr h => ?_)
  · obtain ⟨a, m, rfl, _⟩ := h
    rfl
  · obtain ⟨a, m, rfl, hS, hW, q⟩ := h
    refine ⟨_, pss_one (ps_ret (pe_fn GW hr (pa_cons (pv 0) (pa_cons pe_int pa_nil)))), ?_⟩
    exact ⟨_, rfl, a, m, 0, rfl, hS, hW, q⟩
theorem sum_le_of {α : Type} (f : α → Nat) (p : α → Bool) : ∀ l : List α, ((l.filter p).map f).sum ≤ (l.map f).sum
  | [] => Nat.le_refl _
  | x :: l => by
    have ih := sum_le_of f p l
    rw [List.map_cons, List.sum_cons]
    by_cases h : p x = true
    · rw [List.filter_cons, if_pos h, List.map_cons, List.sum_cons]
      omega
    · rw [List.filter_cons, if_neg h]
      omega
theorem total_eq (m : Stand) : m.totalSeats = ((List.range m.blocks.length).map m.seatsOf).sum := by
  unfold Stand.totalSeats
  congr 1
  refine List.ext_getElem? fun i => ?_
  rw [List.getElem?_map, List.getElem?_map]
  by_cases h : i < m.blocks.length
  · rw [block_at h, List.getElem?_range h]
    rfl
  · rw [List.getElem?_eq_none (by omega), List.getElem?_eq_none (by rw [List.length_range]; omega)]
    rfl
theorem sold_le {m : Stand} {l : List Nat} (h : l.length = m.blocks.length) : m.soldSeats l ≤ m.totalSeats := by
  rw [show m.soldSeats l = ((chosen l (fun use => use != 0) l.length).map m.seatsOf).sum from seatsWhere_eq _ _ _, total_eq, h]
  exact sum_le_of _ _ _
theorem seatsV_ints (m : Stand) : seatsV m = ((m.blocks.map Block.seats).map fun (n : Nat) => (n : Int)).map V.int := by
  unfold seatsV
  rw [List.map_map, List.map_map]
  rfl
theorem ok_es {f : Addr} {fd : FuncData} (F : Fun K "empty_seats" "empty_seats" sEs f fd) (T : Txt K mg C) (Z : Cs mg) (GF : Fn P w K mg base "find_best" 5 ["stadium", "min_away"] (spBest C)) (GS : Fn P w K mg base "count_sold" 2 ["stadium", "allocation"] (spSold C K)) : FnOk P w K mg base CX0 6 f fd ["stadium"] (spOp0 C .emptySeats) := by
  refine F.ok scEs (fun vs H Q E h => ?_) (fun cdv A outer s H vs Q E hr h => ?_)
  · obtain ⟨a, m, rfl, _⟩ := h
    rfl
  · obtain ⟨a, m, rfl, hS, hW, q⟩ := h
    refine ⟨_, pss_cons (ps_set (i := 1) scEs.nd rfl (.inl rfl) (pe_fn GF hr (pa_cons (pv 0) (pa_cons pe_int pa_nil))))
      (pss_cons (ps_if (pt_cmpR op_isN (pv 1) pe_non (nomark _)) (pss_one (ps_ret (pe_lst (pa_cons (pe_gi Z.noAlloc) pa_nil)))) pss_nil)
      (pss_one (ps_ret (pe_lst (pa_cons (pe_op op_sub (pe_callB (cr_sum rfl) (by rfl) T.sum (by decide +kernel) (pa_cons (pe_fld (pv 0) rfl) pa_nil)) (pe_fn GS (hr.mono (by decide)) (pa_cons (pv 0) (pa_cons (pv 1) pa_nil)))) pa_nil))))), ?_⟩
    refine ⟨_, rfl, a, m, 0, rfl, hS, hW, fun H1 v s1 hv => ?_⟩
    cases hb : m.best 0 with
    | none =>
      rw [hb] at hv
      have hv : v = .non := hv
      subst hv
      refine ⟨_, rfl, rfl, _, rfl, iteT ⟨(by show 1 ≤ sizeLine; decide), fun r hr => Out.new q (v := .error (-33)) ?_ hS s1 hr rfl⟩⟩
      show (match m.best 0 with | none => (_, Response.error (-33)) | some a => _) = _
      rw [hb]
    | some l =>
      rw [hb] at hv
      obtain ⟨t, rfl, ht⟩ := hv
      obtain ⟨hl, hu⟩ := best_in hW hb
      obtain ⟨s0, t0, p0, ts, D⟩ := hS.same s1
      obtain ⟨dx, hi⟩ := D.ins
      refine ⟨_, rfl, rfl, _, rfl, iteF ⟨_, rfl, a, C, dx, _, _, rfl, hi, T.cl, T.nS, fS_s _ _ _, s0, _, rfl, .inl (.inl (D.hs.trans (by rw [seatsV_ints]))), _, rfl, _, rfl, a, t, m, l, rfl, hS.same s1, hW, .inl (.inl ht), hl, hu, fun H2 s2 => ⟨_, _, rfl, rfl, (by show 1 ≤ sizeLine; decide), fun r hr => Out.new q (v := .number (m.totalSeats - m.soldSeats l)) ?_ hS (s1.trans s2) hr ?_⟩⟩⟩
      · show (match m.best 0 with | none => (_, Response.error (-33)) | some a => _) = _
        rw [hb]
      · have := sold_le hl
        rw [sum_nats]
        show [V.int (((m.totalSeats : Nat) : Int) - ((m.soldSeats l : Nat) : Int))] = [V.int ((m.totalSeats - m.soldSeats l : Nat) : Int)]
        congr 2
        omega
end
end SB

set_option Elab.async false
set_option linter.all false
set_option maxRecDepth 100000
set_option maxHeartbeats 4000000
namespace SB
open PySem PySem.Spec PyProof.Rows L2
open Kv437 (Stand Block Planner Operation Response)
/-! ### get_state, count_valid, max_away -/
abbrev sGs : Stmt := topS 45
abbrev sMa : Stmt := topS 49
abbrev sCv : Stmt := topS 50
theorem scGs : FnScope ["stadium"] ["stadium"] (defScope sGs) := ⟨rfl, rfl, rfl, by decide +kernel, rfl, by decide +kernel, by decide +kernel⟩
theorem scMa : FnScope ["stadium", "allocations", "allocation"] ["stadium"] (defScope sMa) := ⟨rfl, rfl, rfl, by decide +kernel, rfl, by decide +kernel, by decide +kernel⟩
theorem scCv : FnScope ["stadium"] ["stadium"] (defScope sCv) := ⟨rfl, rfl, rfl, by decide +kernel, rfl, by decide +kernel, by decide +kernel⟩
theorem max_up : ∀ (l : List Nat) (a b : Nat), a ≤ b → (∀ x ∈ l, x ≤ b) → l.foldl max a ≤ b
  | [], _, _, h, _ => h
  | x :: l, a, b, h, g => max_up l _ b (Nat.max_le.mpr ⟨h, g x (.head _)⟩) fun y hy => g y (.tail _ hy)
theorem max_ge : ∀ (l : List Nat) (a : Nat), a ≤ l.foldl max a ∧ ∀ x ∈ l, x ≤ l.foldl max a
  | [], a => ⟨Nat.le_refl _, fun _ h => nomatch h⟩
  | x :: l, a => by
    obtain ⟨h1, h2⟩ := max_ge l (max a x)
    refine ⟨Nat.le_trans (Nat.le_max_left _ _) h1, fun y hy => ?_⟩
    rcases List.mem_cons.mp hy with rfl | hy
    · exact Nat.le_trans (Nat.le_max_right _ _) h1
    · exact h2 y hy
theorem max_is {l : List Nat} {z : Nat} (h1 : z ∈ l) (h2 : ∀ y ∈ l, y ≤ z) : z = l.foldl max 0 :=
  Nat.le_antisymm ((max_ge l 0).2 z h1) (max_up l 0 z (Nat.zero_le _) h2)
theorem max_int_is {l : List Nat} {z : Int} (h1 : z ∈ l.map fun (n : Nat) => (n : Int)) (h2 : ∀ y, (y ∈ l.map fun (n : Nat) => (n : Int)) → y ≤ z) : z = ((l.foldl max 0 : Nat) : Int) := by
  obtain ⟨n, hn, rfl⟩ := List.mem_map.mp h1
  rw [← max_is hn fun y hy => by
    have := h2 (y : Int) (List.mem_map.mpr ⟨y, hy, rfl⟩)
    omega]
theorem valid_few {m : Stand} (h : WF m) : (m.validAllocations 0).length ≤ 729 := by
  rw [← valids_all h]
  exact valids_few h _
section
variable {P : Program} {w : World} {K : PySem.W.Frag} {mg : Str → Option Value} {base : Heap} {C : Addr}
theorem ok_gs {f : Addr} {fd : FuncData} (F : Fun K "get_state" "get_state" sGs f fd) (T : Txt K mg C) (GB : Mt P w K mg base C "block_count" 1 ["self"] (spBc C)) : FnOk P w K mg base CX0 2 f fd ["stadium"] (spOp0 C .getState) := by
  refine F.ok scGs (fun vs H Q E h => ?_) (fun cdv A outer s H vs Q E hr h => ?_)
  · obtain ⟨a, m, rfl, _⟩ := h
    rfl
  · obtain ⟨a, m, rfl, hS, hW, q⟩ := h
    refine ⟨_, pss_one (ps_ret (pe_lst (pa_cons (pe_mt0 GB T.cl hr (pv 0)) (pa_cons (pe_callB call_len_seq (by rfl) T.len PySem.boot_len (pa_cons (pe_fld (pv 0) rfl) pa_nil)) (pa_cons (pe_callB (cr_sum rfl) (by rfl) T.sum (by decide +kernel) (pa_cons (pe_fld (pv 0) rfl) pa_nil)) pa_nil))))), ?_⟩
    obtain ⟨s0, t0, p0, ts, D⟩ := hS
    obtain ⟨dx, hi⟩ := D.ins
    have hS : Stad C H a m := ⟨s0, t0, p0, ts, D⟩
    refine ⟨_, rfl, a, dx, _, rfl, hi, fS_no _ _ _ _ (by decide +kernel) (by decide +kernel) (by decide +kernel), a, m, rfl, hS, _, rfl, a, C, dx, _, _, rfl, hi, T.cl, T.nP, fS_p _ _ _, p0, _, rfl, .inl (.inl (.inl D.hp)), _, rfl, a, C, dx, _, _, rfl, hi, T.cl, T.nS, fS_s _ _ _, s0, _, rfl, .inl (.inl (D.hs.trans (by rw [seatsV_ints]))), (by show 3 ≤ sizeLine; decide), fun r hr => Out.new q rfl hS (Same.refl _) hr ?_⟩
    rw [sum_nats, List.length_map, D.prs.len]
    rfl
theorem ok_cv {f : Addr} {fd : FuncData} (F : Fun K "count_valid" "count_valid" sCv f fd) (T : Txt K mg C) (GV : Fn P w K mg base "valid_allocations" 4 ["stadium"] (spVal C)) : FnOk P w K mg base CX0 5 f fd ["stadium"] (spOp0 C .countValid) := by
  refine F.ok scCv (fun vs H Q E h => ?_) (fun cdv A outer s H vs Q E hr h => ?_)
  · obtain ⟨a, m, rfl, _⟩ := h
    rfl
  · obtain ⟨a, m, rfl, hS, hW, q⟩ := h
    refine ⟨_, pss_one (ps_ret (pe_lst (pa_cons (pe_callB call_len_seq (by rfl) T.len PySem.boot_len (pa_cons (pe_fn GV hr (pa_cons (pv 0) pa_nil)) pa_nil)) pa_nil))), ?_⟩
    refine ⟨_, rfl, a, m, rfl, hS, hW, fun H1 r s1 nr ⟨ts, hr1, hA⟩ => ⟨r, _, rfl, .inl (.inl (.inl hr1)), (by show 1 ≤ sizeLine; decide), fun x hx => Out.new q rfl hS s1 hx ?_⟩⟩
    rw [List.length_map, hA.len]
    rfl
theorem ok_ma {f : Addr} {fd : FuncData} (F : Fun K "max_away" "max_away" sMa f fd) (T : Txt K mg C) (Z : Cs mg) (GV : Fn P w K mg base "valid_allocations" 4 ["stadium"] (spVal C)) (GC : Fn P w K mg base "count_seats" 1 ["stadium", "allocation", "use"] (spCs C K)) : FnOk P w K mg base CX0 5 f fd ["stadium"] (spOp0 C .maxAway) := by
  refine F.ok scMa (fun vs H Q E h => ?_) (fun cdv A outer s H vs Q E hr h => ?_)
  · obtain ⟨a, m, rfl, _⟩ := h
    rfl
  · obtain ⟨a, m, rfl, hS, hW, q⟩ := h
    refine ⟨_, pss_cons (ps_set (i := 1) scMa.nd rfl (.inl rfl) (pe_fn GV hr (pa_cons (pv 0) pa_nil)))
      (pss_cons (ps_if (pt_not (pt_truth (pv 1) (by intro _; rfl))) (pss_one (ps_ret (pe_lst (pa_cons (pe_gi Z.noAlloc) pa_nil)))) pss_nil)
      (pss_one (ps_ret (pe_lst (pa_cons (pe_callB (cr_max rfl) (by rfl) T.max (by decide +kernel) (pa_cons (pe_lc (own := [("allocation", 2)]) (g := gName 2) (by rfl) scMa.nd (pi_list (pv 1))
        (blkOk_by (own := [("allocation", 2)]) (N := ["stadium", "allocations", "allocation"]) (sc := defScope sMa) (by decide +kernel)) (fun _ _ _ _ _ => pg_name (i := 2) scMa.nd rfl (Or.inl rfl))
        (fun _ _ _ _ _ => pts_nil) (fun _ _ _ _ _ => pe_fn GC (hr.mono (by decide)) (pa_cons (pv 0) (pa_cons (pv 2) (pa_cons (pe_gi Z.away) pa_nil))))) pa_nil)) pa_nil))))), ?_⟩
    refine ⟨_, rfl, a, m, rfl, hS, hW, fun H1 r s1 nr ⟨ts, hr1, hA⟩ => ?_⟩
    have hin : ∀ x ∈ m.validAllocations 0, x.length = m.blocks.length ∧ ∀ u ∈ x, u ≤ 2 := fun x hx => validAll_in hW hx
    have hfew := valid_few hW
    refine ⟨_, rfl, _, .inl ⟨_, .inl (.inl hr1), rfl⟩, iteNB (fun h => ?_) (fun h => ?_)⟩
    · have e : m.validAllocations 0 = [] := by
        have := hA.len
        cases ts with
        | nil => exact List.eq_nil_of_length_eq_zero this.symm
        | cons _ _ => cases h
      refine ⟨(by show 1 ≤ sizeLine; decide), fun x hx => Out.new q (v := .error (-33)) ?_ hS s1 hx rfl⟩
      show (match m.validAllocations 0 with | [] => (_, Response.error (-33)) | allocations => _) = _
      rw [e]
    · have e : 0 < (m.validAllocations 0).length := by
        have := hA.len
        cases ts with
        | nil => cases h
        | cons _ _ =>
          rw [← this]
          exact Nat.succ_pos _
      refine ⟨_, rfl, r, rfl, ⟨_, .inl (.inl hr1)⟩, fun L hL => ?_⟩
      have e0 := same_upd (o := .lst []) hL
      refine lc_list (K := K) (a := r) (xs := ts.map V.ref) (fun k H' => Same H1 H' ∧ H' L = some (.lst (natsV (((m.validAllocations 0).take k).map m.awaySeats)))) ⟨e0, upd_same⟩ (fun i H' _ hh => .inl (.inl (hh.1 _ _ hr1))) ?_ ?_
      · rintro k y H3 hk ⟨e3, hus⟩
        obtain ⟨t, ht, rfl⟩ := map_at hk
        obtain ⟨z, hz, hzt⟩ := hA.get ht
        obtain ⟨hzl, hzu⟩ := hin z (List.mem_of_getElem? hz)
        refine ⟨rfl, ?_⟩
        unfold tYes
        refine iteT ?_
        refine ⟨_, rfl, _, rfl, a, t, m, z, 2, rfl, (hS.same s1).same e3, hW, .inl (.inl (e3 _ _ hzt)), hzl, fun H4 e4 => ⟨_, e4 _ _ hus, ?_, ?_, ?_⟩⟩
        · rw [natsV_len, List.length_map, List.length_take]
          exact Nat.lt_of_le_of_lt (by omega : _ ≤ 729) (by decide)
        · intro c o hc
          rw [upd_ne (ne_of_none hc hL)]
          exact e4 _ _ (e3 _ _ hc)
        · rw [upd_same, take_more hz, List.map_append]
          exact congrArg (fun z => some (HO.lst z)) (natsV_snoc _ _).symm
      · rintro H3 ⟨e3, hus⟩
        rw [List.length_map, hA.len, List.take_length] at hus
        refine ⟨L, _, rfl, .inl (.inl (hus.trans (by rw [natsV_ints]))), ?_, fun z h1 h2 => ⟨(by show 1 ≤ sizeLine; decide), fun x hx => Out.new q (v := .number (((m.validAllocations 0).map m.awaySeats).foldl max 0)) ?_ hS (s1.trans e3) hx ?_⟩⟩
        · rw [List.length_map, List.length_map]
          exact e
        · show (match m.validAllocations 0 with | [] => (_, Response.error (-33)) | allocations => (_, Response.number ((allocations.map m.awaySeats).foldl max 0))) = _
          cases hc : m.validAllocations 0 with
          | nil =>
            rw [hc] at e
            cases e
          | cons _ _ => rfl
        · rw [max_int_is h1 h2]
          rfl
end
end SB

set_option Elab.async false
set_option linter.all false
set_option maxRecDepth 100000
set_option maxHeartbeats 4000000
namespace SB
open PySem PySem.Spec PyProof.Rows L2
open Kv437 (Stand Block Planner Operation Response)
/-! ### allocations that are handed in -/
abbrev sIv : Stmt := topS 35
abbrev sSs : Stmt := topS 36
abbrev sJoin : Stmt := topS 37
abbrev sMeet : Stmt := topS 38
abbrev sComb : Stmt := topS 39
abbrev sCu : Stmt := topS 40
abbrev sIsA : Stmt := topS 41
theorem scIv : FnScope ["stadium", "allocation"] ["stadium", "allocation"] (defScope sIv) := ⟨rfl, rfl, rfl, by decide +kernel, rfl, by decide +kernel, by decide +kernel⟩
theorem scSs : FnScope ["stadium", "allocation", "home", "away"] ["stadium", "allocation"] (defScope sSs) := ⟨rfl, rfl, rfl, by decide +kernel, rfl, by decide +kernel, by decide +kernel⟩
theorem scJoin : FnScope ["stadium", "first", "second"] ["stadium", "first", "second"] (defScope sJoin) := ⟨rfl, rfl, rfl, by decide +kernel, rfl, by decide +kernel, by decide +kernel⟩
theorem scMeet : FnScope ["stadium", "first", "second"] ["stadium", "first", "second"] (defScope sMeet) := ⟨rfl, rfl, rfl, by decide +kernel, rfl, by decide +kernel, by decide +kernel⟩
theorem scComb : FnScope ["stadium", "first", "second", "side", "answer", "first_use", "second_use"] ["stadium", "first", "second", "side"] (defScope sComb) := ⟨rfl, rfl, rfl, by decide +kernel, rfl, by decide +kernel, by decide +kernel⟩
theorem scCu : FnScope ["first_use", "second_use", "side"] ["first_use", "second_use", "side"] (defScope sCu) := ⟨rfl, rfl, rfl, by decide +kernel, rfl, by decide +kernel, by decide +kernel⟩
theorem scIsA : FnScope ["stadium", "given", "use"] ["stadium", "given"] (defScope sIsA) := ⟨rfl, rfl, rfl, by decide +kernel, rfl, by decide +kernel, by decide +kernel⟩
theorem isA_t {m : Stand} {l : List Nat} (h : m.isAllocation l = true) : l.length = m.blocks.length ∧ ∀ u ∈ l, u ≤ 2 := by
  have h : (l.length == m.blocks.length && l.all fun use => decide (use ≤ 2)) = true := h
  rw [Bool.and_eq_true, List.all_eq_true] at h
  exact ⟨beq_iff_eq.mp h.1, fun u hu => of_decide_eq_true (h.2 u hu)⟩
/-- lists of numbers as data -/
def dts (l : List Nat) : List PyData := l.map fun (n : Nat) => PyData.int n
def dtl (l : List Nat) : PyData := .list (dts l)
theorem dts_lay : ∀ l : List Nat, PyData.canLayAll0 (dts l) = true
  | [] => by simp [dts, PyData.canLayAll0]
  | x :: l => by
    show PyData.canLayAll0 (PyData.int x :: dts l) = true
    simp [PyData.canLayAll0, PyData.canLay0, dts_lay l]
theorem dts_depth : ∀ l : List Nat, PyData.depthAll (dts l) = 0
  | [] => by simp [dts, PyData.depthAll]
  | x :: l => by
    show PyData.depthAll (PyData.int x :: dts l) = 0
    simp [PyData.depthAll, PyData.depth, dts_depth l]
theorem dtl_lay (l : List Nat) : (dtl l).canLay0 = true := by
  unfold dtl
  simp only [PyData.canLay0]
  exact dts_lay l
theorem dtl_depth (l : List Nat) : (dtl l).depth = 1 := by
  unfold dtl
  simp only [PyData.depth, dts_depth]
theorem dtls_lay : ∀ l : List (List Nat), PyData.canLayAll0 (l.map dtl) = true
  | [] => by simp [PyData.canLayAll0]
  | x :: l => by simp [PyData.canLayAll0, dtl_lay x, dtls_lay l]
theorem dtls_depth : ∀ l : List (List Nat), PyData.depthAll (l.map dtl) ≤ 1
  | [] => by simp [PyData.depthAll]
  | z :: zs => by
    have h1 := dtls_depth zs
    have h2 := dtl_depth z
    simp only [List.map_cons, PyData.depthAll]
    omega
theorem dtl_shaped (z : List Nat) : SeqAt.shaped (dtl z) = true := by
  have h := dtl_depth z
  show ((dtl z).canLay0 && decide ((dtl z).depth ≤ 64)) = true
  rw [Bool.and_eq_true]
  exact ⟨dtl_lay z, decide_eq_true (by omega)⟩
theorem dtls_shaped (zs : List (List Nat)) : SeqAt.shaped (.list (zs.map dtl)) = true := by
  have h1 := dtls_depth zs
  have h2 : PyData.depth (.list (zs.map dtl)) ≤ 64 := by
    simp only [PyData.depth]
    omega
  show (PyData.canLay0 (.list (zs.map dtl)) && decide (PyData.depth (.list (zs.map dtl)) ≤ 64)) = true
  rw [Bool.and_eq_true]
  exact ⟨by simp only [PyData.canLay0]; exact dtls_lay zs, decide_eq_true h2⟩
theorem dts_eqv : ∀ v w : List Nat, PyData.eqvAll (dts v) (dts w) = decide (v = w)
  | [], [] => by simp [dts, PyData.eqvAll]
  | [], _ :: _ => by simp [dts, PyData.eqvAll]
  | _ :: _, [] => by simp [dts, PyData.eqvAll]
  | x :: v, y :: w => by
    have ih := dts_eqv v w
    show PyData.eqvAll (PyData.int x :: dts v) (PyData.int y :: dts w) = _
    simp only [PyData.eqvAll, PyData.eqv, ih]
    by_cases h : x = y
    · subst h
      simp
    · have : ((x : Int) == (y : Int)) = false := beq_eq_false_iff_ne.mpr (by omega)
      rw [this]
      simp [h]
theorem dtl_eqv (v w : List Nat) : PyData.eqv (dtl v) (dtl w) = decide (v = w) := by
  unfold dtl
  simp only [PyData.eqv]
  exact dts_eqv v w
theorem nats_data {K : PySem.W.Frag} {H : Hp} : ∀ l : List Nat, DpAll K H (natsV l) (dts l)
  | [] => .nil
  | _ :: l => .cons (.int _) (nats_data l)
theorem Als.data {K : PySem.W.Frag} {H : Hp} : ∀ {ts : List Addr} {qs : List (List Nat)}, Als H ts qs → DpAll K H (ts.map V.ref) (qs.map dtl)
  | _, _, .nil => .nil
  | _, _, .cons h r => .cons (.lst (.inl (.inl h)) (nats_data _)) r.data
theorem any_dtl (q : List Nat) : ∀ l : List (List Nat), (l.map dtl).any (fun z => PyData.eqv z (dtl q)) = l.any fun z => decide (z = q)
  | [] => rfl
  | z :: l => by
    show (PyData.eqv (dtl z) (dtl q) || (l.map dtl).any _) = (decide (z = q) || l.any _)
    rw [dtl_eqv, any_dtl q l]
theorem valid_any (m : Stand) (a : List Nat) : ((m.validAllocations 0).any fun z => decide (z = a)) = (m.isSeparated a && m.allocations.contains a) := by
  rw [Bool.eq_iff_iff, List.any_eq_true, Bool.and_eq_true, List.contains_iff_mem]
  unfold Stand.validAllocations
  constructor
  · rintro ⟨z, hz, e⟩
    have e := of_decide_eq_true e
    subst e
    rw [List.mem_filter, Bool.and_eq_true] at hz
    exact ⟨hz.2.1, hz.1⟩
  · rintro ⟨h1, h2⟩
    exact ⟨a, List.mem_filter.mpr ⟨h2, by rw [h1, decide_eq_true (Nat.zero_le _)]; rfl⟩, decide_eq_true rfl⟩
section
variable {P : Program} {w : World} {K : PySem.W.Frag} {mg : Str → Option Value} {base : Heap} {C : Addr}
def spIsA (C : Addr) (K : PySem.W.Frag) : Sp := fun vs H Q _ => ∃ (a g : Addr) (m : Stand) (l : List Nat), vs = [.ref a, .ref g] ∧ Stad C H a m ∧ SqL K H g (natsV l) ∧ Q (.bl (m.isAllocation l)) H
theorem ok_isa {f : Addr} {fd : FuncData} (F : Fun K "is_allocation" "is_allocation" sIsA f fd) (T : Txt K mg C) (Z : Cs mg) (GB : Mt P w K mg base C "block_count" 1 ["self"] (spBc C)) : FnOk P w K mg base CX0 2 f fd ["stadium", "given"] (spIsA C K) := by
  refine F.ok scIsA (fun vs H Q E h => ?_) (fun cdv A outer s H vs Q E hr h => ?_)
  · obtain ⟨a, g, m, l, rfl, _⟩ := h
    rfl
  · obtain ⟨a, g, m, l, rfl, hS, hG, q⟩ := h
    refine ⟨_, pss_cons (ps_if (pt_cmpR op_ne (pe_callB call_len_seq (by rfl) T.len PySem.boot_len (pa_cons (pv 1) pa_nil)) (pe_mt0 GB T.cl hr (pv 0)) (nomark _)) (pss_one (ps_ret pe_bl)) pss_nil)
      (pss_cons (ps_for PassesOwn.never rfl (pi_list (pv 1)) (pg_name (i := 2) scIsA.nd rfl (.inl rfl))
        (pss_one (ps_if (pt_cmpR op_gt (pv 2) (pe_gi Z.away) (nomark _)) (pss_one (ps_ret pe_bl)) pss_nil)))
      (pss_one (ps_ret pe_bl))), ?_⟩
    obtain ⟨s0, t0, p0, ts, D⟩ := hS
    obtain ⟨dx, hi⟩ := D.ins
    have hS : Stad C H a m := ⟨s0, t0, p0, ts, D⟩
    have unf : m.isAllocation l = (l.length == m.blocks.length && l.all fun use => decide (use ≤ 2)) := rfl
    refine ⟨_, rfl, g, _, rfl, .inl hG, _, rfl, a, dx, _, rfl, hi, fS_no _ _ _ _ (by decide +kernel) (by decide +kernel) (by decide +kernel), a, m, rfl, hS, rfl, _, rfl, iteND (fun h => ?_) (fun h => ?_)⟩
    · have e : m.isAllocation l = false := by
        rw [unf, beq_eq_false_iff_ne.mpr fun z => h (by rw [natsV_len, z]), Bool.false_and]
      rw [e] at q
      exact q
    have hl : (l.length == m.blocks.length) = true := by
      rw [natsV_len] at h
      exact beq_iff_eq.mpr (vint.mp h)
    refine ⟨_, rfl, g, rfl, ⟨_, hG⟩, for_list (K := K) (a := g) (xs := natsV l) (fun i σ H' => ∃ v : Option V, σ = [some (.ref a), some (.ref g), v] ∧ H' = H ∧ ((l.take i).all fun use => decide (use ≤ 2)) = true) ⟨none, rfl, rfl, rfl⟩ (fun i σ H' _ ⟨_, _, e, _⟩ => by rw [e]; exact hG) ?_ ?_⟩
    · rintro i y σ H' hiy ⟨v, rfl, rfl, hm⟩
      obtain ⟨o, ho, rfl⟩ := map_at hiy
      refine ⟨_, rfl, _, _, rfl, rfl, _, rfl, iteD (fun h => ?_) (fun h => ?_)⟩
      · have e : m.isAllocation l = false := by
          rw [unf, hl, Bool.true_and, List.all_eq_false]
          exact ⟨o, List.mem_of_getElem? ho, fun z => by have := of_decide_eq_true z; omega⟩
        rw [e] at q
        exact q
      · refine ⟨_, rfl, rfl, ?_⟩
        rw [take_more ho, List.all_append, hm]
        show (decide (o ≤ 2) && true) = true
        rw [decide_eq_true (by omega : o ≤ 2)]
        rfl
    · rintro σ H' ⟨v, rfl, rfl, hm⟩
      rw [natsV_len, List.take_length] at hm
      have e : m.isAllocation l = true := by rw [unf, hl, hm]; rfl
      rw [e] at q
      exact q
def spGiv1 (C : Addr) (K : PySem.W.Frag) (op : List Nat → Operation) : Sp := fun vs H Q _ => ∃ (a g : Addr) (m : Stand) (l : List Nat), vs = [.ref a, .ref g] ∧ Stad C H a m ∧ WF m ∧ SqL K H g (natsV l) ∧ Out C H a m (op l) Q
def spGiv2 (C : Addr) (K : PySem.W.Frag) (op : List Nat → List Nat → Operation) : Sp := fun vs H Q _ => ∃ (a g g2 : Addr) (m : Stand) (v w : List Nat), vs = [.ref a, .ref g, .ref g2] ∧ Stad C H a m ∧ WF m ∧ SqL K H g (natsV v) ∧ SqL K H g2 (natsV w) ∧ Out C H a m (op v w) Q
theorem ok_iv {f : Addr} {fd : FuncData} (F : Fun K "is_valid" "is_valid" sIv f fd) (Z : Cs mg) (GI : Fn P w K mg base "is_allocation" 2 ["stadium", "given"] (spIsA C K)) (GV : Fn P w K mg base "valid_allocations" 4 ["stadium"] (spVal C)) : FnOk P w K mg base CX0 5 f fd ["stadium", "allocation"] (spGiv1 C K .isValid) := by
  refine F.ok scIv (fun vs H Q E h => ?_) (fun cdv A outer s H vs Q E hr h => ?_)
  · obtain ⟨a, g, m, l, rfl, _⟩ := h
    rfl
  · obtain ⟨a, g, m, l, rfl, hS, hW, hG, q⟩ := h
    refine ⟨_, pss_cons (ps_if (pt_not (pt_val (pe_fn GI (hr.mono (by decide)) (pa_cons (pv 0) (pa_cons (pv 1) pa_nil))))) (pss_one (ps_ret (pe_lst (pa_cons (pe_gi Z.out) pa_nil)))) pss_nil)
      (pss_cons (ps_if (pt_cmpR (op_inD (hu65 hr)) (pv 1) (pe_fn GV hr (pa_cons (pv 0) pa_nil)) (by rfl)) (pss_one (ps_ret (pe_lst (pa_cons pe_int pa_nil)))) pss_nil)
      (pss_one (ps_ret (pe_lst (pa_cons pe_int pa_nil))))), ?_⟩
    refine ⟨_, rfl, _, rfl, a, g, m, l, rfl, hS, hG, _, rfl, iteNB (fun h => ?_) (fun h => ?_)⟩
    · exact ⟨(by show 1 ≤ sizeLine; decide), fun r hr => Out.new q (if_pos h) hS (Same.refl _) hr rfl⟩
    have run : (Planner.mk m).run (.isValid l) = (⟨m⟩, .number (Kv437.flag (m.isSeparated l && m.allocations.contains l))) := if_neg (by rw [h]; exact Bool.noConfusion)
    rw [← valid_any] at run
    refine ⟨_, rfl, _, rfl, a, m, rfl, hS, hW, fun H1 r s1 nr ⟨ts, hr1, hA⟩ => ⟨dtl l, (m.validAllocations 0).map dtl, .lst (s1.seq hG) (nats_data l), .lst (.inl (.inl hr1)) hA.data, dtl_shaped l, dtls_shaped _, _, rfl, ?_⟩⟩
    rw [any_dtl]
    refine iteB (fun h2 => ?_) (fun h2 => ?_)
    · rw [h2] at run
      exact ⟨(by show 1 ≤ sizeLine; decide), fun r hr => Out.new q run hS s1 hr rfl⟩
    · rw [h2] at run
      exact ⟨(by show 1 ≤ sizeLine; decide), fun r hr => Out.new q run hS s1 hr rfl⟩
theorem ok_ss {f : Addr} {fd : FuncData} (F : Fun K "sold_seats" "sold_seats" sSs f fd) (Z : Cs mg) (GI : Fn P w K mg base "is_allocation" 2 ["stadium", "given"] (spIsA C K)) (GC : Fn P w K mg base "count_seats" 1 ["stadium", "allocation", "use"] (spCs C K)) (GS : Fn P w K mg base "count_sold" 2 ["stadium", "allocation"] (spSold C K)) : FnOk P w K mg base CX0 3 f fd ["stadium", "allocation"] (spGiv1 C K .soldSeats) := by
  refine F.ok scSs (fun vs H Q E h => ?_) (fun cdv A outer s H vs Q E hr h => ?_)
  · obtain ⟨a, g, m, l, rfl, _⟩ := h
    rfl
  · obtain ⟨a, g, m, l, rfl, hS, hW, hG, q⟩ := h
    refine ⟨_, pss_cons (ps_if (pt_not (pt_val (pe_fn GI hr (pa_cons (pv 0) (pa_cons (pv 1) pa_nil))))) (pss_one (ps_ret (pe_lst (pa_cons (pe_gi Z.out) pa_nil)))) pss_nil)
      (pss_cons (ps_set (i := 2) scSs.nd rfl (.inl rfl) (pe_fn GC (hr.mono (by decide)) (pa_cons (pv 0) (pa_cons (pv 1) (pa_cons (pe_gi Z.home) pa_nil)))))
      (pss_cons (ps_set (i := 3) scSs.nd rfl (.inl rfl) (pe_fn GC (hr.mono (by decide)) (pa_cons (pv 0) (pa_cons (pv 1) (pa_cons (pe_gi Z.away) pa_nil)))))
      (pss_one (ps_ret (pe_lst (pa_cons (pe_fn GS hr (pa_cons (pv 0) (pa_cons (pv 1) pa_nil))) (pa_cons (pv 2) (pa_cons (pv 3) pa_nil)))))))), ?_⟩
    refine ⟨_, rfl, _, rfl, a, g, m, l, rfl, hS, hG, _, rfl, iteNB (fun h => ?_) (fun h => ?_)⟩
    · exact ⟨(by show 1 ≤ sizeLine; decide), fun r hr => Out.new q (if_pos h) hS (Same.refl _) hr rfl⟩
    obtain ⟨hl, hu⟩ := isA_t h
    have run : (Planner.mk m).run (.soldSeats l) = (⟨m⟩, ⟨(m.soldSeats l : Nat), [m.seatsWhere l (fun use => use == 1), m.awaySeats l]⟩) := if_neg (by rw [h]; exact Bool.noConfusion)
    refine ⟨_, rfl, _, rfl, a, g, m, l, 1, rfl, hS, hW, hG, hl, fun H1 s1 => ⟨_, rfl, _, rfl, a, g, m, l, 2, rfl, hS.same s1, hW, s1.seq hG, hl, fun H2 s2 => ?_⟩⟩
    have s12 := s1.trans s2
    exact ⟨_, rfl, _, rfl, a, g, m, l, rfl, hS.same s12, hW, s12.seq hG, hl, hu, fun H3 s3 => ⟨_, rfl, _, rfl, (by show 3 ≤ sizeLine; decide), fun r hr => Out.new q run hS (s12.trans s3) hr rfl⟩⟩
/-! ### join and meet -/
def cu (x y s : Nat) : Nat := if x = s ∨ y = s then s else if x = y then x else 0
def spCu : Sp := fun vs H Q _ => ∃ (x y s : Nat), vs = [.int x, .int y, .int s] ∧ ∀ H', Same H H' → Q (.int (cu x y s : Nat)) H'
theorem ok_cu {f : Addr} {fd : FuncData} (F : Fun K "combined_use" "combined_use" sCu f fd) (Z : Cs mg) : FnOk P w K mg base CX0 1 f fd ["first_use", "second_use", "side"] spCu := by
  refine F.ok scCu (fun vs H Q E h => ?_) (fun cdv A outer s H vs Q E hr h => ?_)
  · obtain ⟨x, y, s, rfl, _⟩ := h
    rfl
  · obtain ⟨x, y, s, rfl, q⟩ := h
    refine ⟨_, pss_cons (ps_if (pt_cmpR op_in_seq (pv 2) (pe_tup (pa_cons (pv 0) (pa_cons (pv 1) pa_nil))) (by rfl)) (pss_one (ps_ret (pv 2))) pss_nil)
      (pss_cons (ps_if (pt_cmpR op_eq (pv 0) (pv 1) (nomark _)) (pss_one (ps_ret (pv 0))) pss_nil)
      (pss_one (ps_ret (pe_gi Z.empty)))), ?_⟩
    refine ⟨_, rfl, _, rfl, _, rfl, (by show 2 ≤ sizeLine; decide), fun p np => ?_⟩
    have s1 := same_upd (o := .tup [.int (x : Nat), .int (y : Nat)]) np
    have q := q _ s1
    refine ⟨p, _, rfl, .inr (.inl (.inl upd_same)), rfl, rfl, _, rfl, ?_⟩
    have e : inV (V.int (s : Nat)) [V.int (x : Nat), V.int (y : Nat)] = decide (x = s ∨ y = s) := by
      show (((x : Int) == (s : Int)) || (((y : Int) == (s : Int)) || false)) = _
      rw [Bool.eq_iff_iff, decide_eq_true_iff, Bool.or_false, Bool.or_eq_true, beq_iff_eq, beq_iff_eq]
      omega
    show (if inV (V.int (s : Nat)) [V.int (x : Nat), V.int (y : Nat)] = true then _ else _)
    rw [e]
    refine iteD (fun h => ?_) (fun h => ?_)
    · rw [show cu x y s = s from if_pos h] at q
      exact ⟨_, rfl, q⟩
    have e1 : cu x y s = if x = y then x else 0 := if_neg h
    rw [e1] at q
    refine ⟨_, rfl, _, rfl, rfl, _, rfl, iteD (fun h2 => ?_) (fun h2 => ?_)⟩
    · rw [if_pos (vint.mp h2)] at q
      exact ⟨_, rfl, q⟩
    · rw [if_neg fun z => h2 (by rw [z])] at q
      exact q
/-- what combine answers -/
def combV (m : Stand) (v w : List Nat) (s : Nat) : List V := if (m.isAllocation v && m.isAllocation w) = true then natsV (v.length :: List.zipWith (fun x y => cu x y s) v w) else [.int (-22)]
def spComb (C : Addr) (K : PySem.W.Frag) : Sp := fun vs H Q _ => ∃ (a g g2 : Addr) (m : Stand) (v w : List Nat) (s : Nat), vs = [.ref a, .ref g, .ref g2, .int s] ∧ Stad C H a m ∧ WF m ∧ SqL K H g (natsV v) ∧ SqL K H g2 (natsV w) ∧
  ∀ H' r, Same H H' → H r = none → H' r = some (.lst (combV m v w s)) → Q (.ref r) H'
theorem zip_more {f : Nat → Nat → Nat} {v w : List Nat} {i x y : Nat} (hx : v[i]? = some x) (hy : w[i]? = some y) : (List.zipWith f v w).take (i + 1) = (List.zipWith f v w).take i ++ [f x y] :=
  take_more (by rw [List.getElem?_zipWith, hx, hy])
theorem ok_comb {f : Addr} {fd : FuncData} (F : Fun K "combine" "combine" sComb f fd) (T : Txt K mg C) (Z : Cs mg) (bz : mg "zip" = none) (GI : Fn P w K mg base "is_allocation" 2 ["stadium", "given"] (spIsA C K)) (GU : Fn P w K mg base "combined_use" 1 ["first_use", "second_use", "side"] spCu) : FnOk P w K mg base CX0 3 f fd ["stadium", "first", "second", "side"] (spComb C K) := by
  refine F.ok scComb (fun vs H Q E h => ?_) (fun cdv A outer s H vs Q E hr h => ?_)
  · obtain ⟨a, g, g2, m, v, w', s, rfl, _⟩ := h
    rfl
  · obtain ⟨a, g, g2, m, v, u, s, rfl, hS, hW, hG, hG2, q⟩ := h
    refine ⟨_, pss_cons (ps_if (pt_not (PW.pt (pw_and (pt_val (pe_fn GI hr (pa_cons (pv 0) (pa_cons (pv 1) pa_nil)))) (pw_and1 (pt_val (pe_fn GI hr (pa_cons (pv 0) (pa_cons (pv 2) pa_nil)))))))) (pss_one (ps_ret (pe_lst (pa_cons (pe_gi Z.out) pa_nil)))) pss_nil)
      (pss_cons (ps_set (i := 4) scComb.nd rfl (.inl rfl) (pe_lst (pa_cons (pe_callB call_len_seq (by rfl) T.len PySem.boot_len (pa_cons (pv 1) pa_nil)) pa_nil)))
      (pss_cons (ps_for PassesOwn.never rfl (pi_zip (by rfl) bz (pa_cons (pv 1) (pa_cons (pv 2) pa_nil))) (pg_tup rfl (pgs_cons (pg_name (i := 5) scComb.nd rfl (.inl rfl)) (pgs_cons (pg_name (i := 6) scComb.nd rfl (.inl rfl)) pgs_nil)))
        (pss_one (ps_expr (pe_bm PySem.F.plainAttrs_list PySem.F.slot_list_append PySem.F.type_list_append mt_append (pv 4) (pa_cons (pe_fn GU (hr.mono (by decide)) (pa_cons (pv 5) (pa_cons (pv 6) (pa_cons (pv 3) pa_nil)))) pa_nil)))))
      (pss_one (ps_ret (pv 4))))), ?_⟩
    have bad : (m.isAllocation v && m.isAllocation u) = false → ∀ r, H r = none → Q (.ref r) (upd H r (.lst [.int (-22)])) := fun h r hr => q _ r (same_upd hr) hr (by
      rw [upd_same]
      unfold combV
      rw [if_neg (by rw [h]; exact Bool.noConfusion)])
    refine ⟨_, rfl, _, rfl, a, g, m, v, rfl, hS, hG, _, rfl, iteB (fun h => ?_) (fun h => ?_)⟩
    rotate_left
    · refine iteT ?_
      exact ⟨(by show 1 ≤ sizeLine; decide), bad (by rw [h]; rfl)⟩
    refine ⟨_, rfl, _, rfl, a, g2, m, u, rfl, hS, hG2, _, rfl, iteNB (fun h2 => ?_) (fun h2 => ?_)⟩
    · exact ⟨(by show 1 ≤ sizeLine; decide), bad (by rw [h2, Bool.and_false])⟩
    obtain ⟨hlv, huv⟩ := isA_t h
    obtain ⟨hlu, huu⟩ := isA_t h2
    have h6 := hW.six
    refine ⟨_, rfl, g, _, rfl, .inl hG, (by show 1 ≤ sizeLine; decide), fun x nx => ?_⟩
    have s1 := same_upd (o := .lst [.int ((natsV v).length : Nat)]) nx
    have hzl : (List.zipWith (fun x y => cu x y s) v u).length = m.blocks.length := by
      rw [List.length_zipWith]
      omega
    refine ⟨_, rfl, _, rfl, g, g2, _, _, rfl, s1.seq hG, s1.seq hG2, RZ.for_zipL (K := K) (a := g) (b := g2) (xs := natsV v) (ys := natsV u) (by rw [natsV_len, natsV_len]; omega) (fun i σ H' => ∃ v5 v6 : Option V, σ = [some (.ref a), some (.ref g), some (.ref g2), some (.int s), some (.ref x), v5, v6] ∧ Same H H' ∧ H' x = some (.lst (natsV (v.length :: (List.zipWith (fun x y => cu x y s) v u).take i))))
      ⟨none, none, rfl, s1, by rw [upd_same, natsV_len]; rfl⟩ (fun i σ H' ⟨_, _, _, e, _⟩ => ⟨e.seq hG, e.seq hG2⟩) ?_ ?_⟩
    · rintro i y z t σ H2 hy hz ⟨v5, v6, rfl, e2, hx2⟩ nt
      obtain ⟨o, ho, rfl⟩ := map_at hy
      obtain ⟨o2, ho2, rfl⟩ := map_at hz
      have s3 := same_upd (o := .tup [.int (o : Nat), .int (o2 : Nat)]) nt
      refine ⟨t, _, rfl, .inl (.inl upd_same), rfl, _, _, rfl, _, _, rfl, rfl, ?_⟩
      refine ⟨_, rfl, .inl ⟨rfl, _, .inl (.inl (s3 _ _ hx2))⟩, _, rfl, _, rfl, _, rfl, o, o2, s, rfl, fun H4 e4 => ⟨x, _, _, rfl, rfl, e4 _ _ (s3 _ _ hx2), ?_, ?_⟩⟩
      · rw [natsV_len, List.length_cons, List.length_take, hzl]
        exact Nat.lt_of_le_of_lt (by omega : _ ≤ 7) (by decide : 7 < sizeLine)
      · refine ⟨_, _, rfl, fun b o hb => ?_, ?_⟩
        · rw [upd_ne (ne_of_none hb nx)]
          exact e4 _ _ (s3 _ _ (e2 _ _ hb))
        · rw [upd_same, zip_more ho ho2, ← List.cons_append, natsV_snoc]
    · rintro σ H2 ⟨v5, v6, rfl, e2, hx2⟩
      refine ⟨_, rfl, q H2 x e2 nx ?_⟩
      rw [hx2, natsV_len, List.take_of_length_le (by omega)]
      unfold combV
      rw [if_pos (by rw [h, h2]; rfl)]
theorem join_eq : ∀ (v w : List Nat), (∀ u ∈ v, u ≤ 2) → List.zipWith (fun x y => cu x y 1) v w = Kv437.join v w
  | [], _, _ => rfl
  | _ :: _, [], _ => rfl
  | x :: v, y :: w, h => by
    have ih := join_eq v w fun u hu => h u (.tail _ hu)
    have hx := h x (.head _)
    show cu x y 1 :: List.zipWith (fun x y => cu x y 1) v w = (if x = 1 ∨ y = 1 then 1 else if x = 2 ∧ y = 2 then 2 else 0) :: Kv437.join v w
    rw [ih]
    congr 1
    unfold cu
    by_cases c : x = 1 ∨ y = 1
    · rw [if_pos c, if_pos c]
    · rw [if_neg c, if_neg c]
      by_cases d : x = y
      · rw [if_pos d]
        by_cases e : x = 2
        · rw [if_pos ⟨e, by omega⟩, e]
        · rw [if_neg fun z => e z.1]
          omega
      · rw [if_neg d, if_neg fun z => d (by omega)]
theorem meet_eq : ∀ (v w : List Nat), (∀ u ∈ v, u ≤ 2) → List.zipWith (fun x y => cu x y 2) v w = Kv437.meet v w
  | [], _, _ => rfl
  | _ :: _, [], _ => rfl
  | x :: v, y :: w, h => by
    have ih := meet_eq v w fun u hu => h u (.tail _ hu)
    have hx := h x (.head _)
    show cu x y 2 :: List.zipWith (fun x y => cu x y 2) v w = (if x = 2 ∨ y = 2 then 2 else if x = 1 ∧ y = 1 then 1 else 0) :: Kv437.meet v w
    rw [ih]
    congr 1
    unfold cu
    by_cases c : x = 2 ∨ y = 2
    · rw [if_pos c, if_pos c]
    · rw [if_neg c, if_neg c]
      by_cases d : x = y
      · rw [if_pos d]
        by_cases e : x = 1
        · rw [if_pos ⟨e, by omega⟩, e]
        · rw [if_neg fun z => e z.1]
          omega
      · rw [if_neg d, if_neg fun z => d (by omega)]
theorem comb_run (m : Stand) (v w : List Nat) : (Planner.mk m).run (.join v w) = (⟨m⟩, if m.isAllocation v = false ∨ m.isAllocation w = false then .error (-22) else .list (Kv437.join v w)) ∧ (Planner.mk m).run (.meet v w) = (⟨m⟩, if m.isAllocation v = false ∨ m.isAllocation w = false then .error (-22) else .list (Kv437.meet v w)) := by
  constructor
  · show (if _ then _ else _) = _
    by_cases h : m.isAllocation v = false ∨ m.isAllocation w = false
    · rw [if_pos h, if_pos h]
    · rw [if_neg h, if_neg h]
  · show (if _ then _ else _) = _
    by_cases h : m.isAllocation v = false ∨ m.isAllocation w = false
    · rw [if_pos h, if_pos h]
    · rw [if_neg h, if_neg h]
theorem join_len {m : Stand} {v w : List Nat} (h : m.isAllocation v = true) (h2 : m.isAllocation w = true) : (Kv437.join v w).length = v.length ∧ (Kv437.meet v w).length = v.length := by
  have h3 := (isA_t h).1
  have h4 := (isA_t h2).1
  unfold Kv437.join Kv437.meet
  rw [List.length_map, List.length_map, List.length_zip]
  omega
theorem comb_row (m : Stand) (v w : List Nat) : combV m v w 1 = rowV ((Planner.mk m).run (.join v w)).2 ∧ combV m v w 2 = rowV ((Planner.mk m).run (.meet v w)).2 := by
  rw [(comb_run m v w).1, (comb_run m v w).2]
  unfold combV
  cases h : m.isAllocation v with
  | false => exact ⟨rfl, rfl⟩
  | true =>
    cases h2 : m.isAllocation w with
    | false => exact ⟨rfl, rfl⟩
    | true =>
      have hu := (isA_t h).2
      obtain ⟨l1, l2⟩ := join_len h h2
      refine ⟨?_, ?_⟩
      · rw [if_pos (show (true && true) = true from rfl), if_neg (show ¬ (true = false ∨ true = false) by decide), join_eq v w hu]
        show natsV (v.length :: _) = V.int (((Kv437.join v w).length : Nat) : Int) :: natsV _
        rw [l1]
        rfl
      · rw [if_pos (show (true && true) = true from rfl), if_neg (show ¬ (true = false ∨ true = false) by decide), meet_eq v w hu]
        show natsV (v.length :: _) = V.int (((Kv437.meet v w).length : Nat) : Int) :: natsV _
        rw [l2]
        rfl
theorem ok_join {f : Addr} {fd : FuncData} (F : Fun K "join" "join" sJoin f fd) (Z : Cs mg) (GC : Fn P w K mg base "combine" 3 ["stadium", "first", "second", "side"] (spComb C K)) : FnOk P w K mg base CX0 4 f fd ["stadium", "first", "second"] (spGiv2 C K .join) := by
  refine F.ok scJoin (fun vs H Q E h => ?_) (fun cdv A outer s H vs Q E hr h => ?_)
  · obtain ⟨a, g, g2, m, v, w', rfl, _⟩ := h
    rfl
  · obtain ⟨a, g, g2, m, v, u, rfl, hS, hW, hG, hG2, q⟩ := h
    refine ⟨_, pss_one (ps_ret (pe_fn GC hr (pa_cons (pv 0) (pa_cons (pv 1) (pa_cons (pv 2) (pa_cons (pe_gi Z.home) pa_nil)))))), ?_⟩
    refine ⟨_, rfl, _, rfl, _, rfl, a, g, g2, m, v, u, 1, rfl, hS, hW, hG, hG2, fun H' r s1 nr hv => Out.pure q (comb_run m v u).1 rfl hS s1 nr ?_⟩
    rw [hv, (comb_row m v u).1, (comb_run m v u).1]
theorem ok_meet {f : Addr} {fd : FuncData} (F : Fun K "meet" "meet" sMeet f fd) (Z : Cs mg) (GC : Fn P w K mg base "combine" 3 ["stadium", "first", "second", "side"] (spComb C K)) : FnOk P w K mg base CX0 4 f fd ["stadium", "first", "second"] (spGiv2 C K .meet) := by
  refine F.ok scMeet (fun vs H Q E h => ?_) (fun cdv A outer s H vs Q E hr h => ?_)
  · obtain ⟨a, g, g2, m, v, w', rfl, _⟩ := h
    rfl
  · obtain ⟨a, g, g2, m, v, u, rfl, hS, hW, hG, hG2, q⟩ := h
    refine ⟨_, pss_one (ps_ret (pe_fn GC hr (pa_cons (pv 0) (pa_cons (pv 1) (pa_cons (pv 2) (pa_cons (pe_gi Z.away) pa_nil)))))), ?_⟩
    refine ⟨_, rfl, _, rfl, _, rfl, a, g, g2, m, v, u, 2, rfl, hS, hW, hG, hG2, fun H' r s1 nr hv => Out.pure q (comb_run m v u).2 rfl hS s1 nr ?_⟩
    rw [hv, (comb_row m v u).2, (comb_run m v u).2]
end
end SB

set_option Elab.async false
set_option linter.all false
/-! ### the calls of a request, over the specification's own words -/
namespace SB
open Kv437 (Stand Block Planner Operation Response)
def nums (l : List Nat) : List Int := l.map fun (n : Nat) => (n : Int)
/-- how a call stands in the request, as its place, numbers and lists -/
inductive Coded : List (List Int) → Operation → Prop where
  | create : Coded [[0]] .create
  | addBlock (x : Nat) : Coded [[1, (x : Int)]] (.addBlock x)
  | removeLastBlock : Coded [[2]] .removeLastBlock
  | setSeats (i x : Nat) : Coded [[3, (i : Int), (x : Int)]] (.setSeats i x)
  | assign (i x : Nat) : Coded [[4, (i : Int), (x : Int)]] (.assign i x)
  | connect (i j : Nat) : Coded [[5, (i : Int), (j : Int)]] (.connect i j)
  | disconnect (i j : Nat) : Coded [[6, (i : Int), (j : Int)]] (.disconnect i j)
  | swapTeams : Coded [[7]] .swapTeams
  | listBlocks : Coded [[8]] .listBlocks
  | neighbors (i : Nat) : Coded [[9, (i : Int)]] (.neighbors i)
  | bestAllocation : Coded [[10]] .bestAllocation
  | emptySeats : Coded [[11]] .emptySeats
  | bestWithAway (k : Nat) : Coded [[12, (k : Int)]] (.bestWithAway k)
  | maxAway : Coded [[13]] .maxAway
  | isValid (l : List Nat) : l.length ≤ 40 → Coded [[14], nums l] (.isValid l)
  | soldSeats (l : List Nat) : l.length ≤ 40 → Coded [[15], nums l] (.soldSeats l)
  | join (v w : List Nat) : v.length ≤ 40 → w.length ≤ 40 → Coded [[16], nums v, nums w] (.join v w)
  | meet (v w : List Nat) : v.length ≤ 40 → w.length ≤ 40 → Coded [[17], nums v, nums w] (.meet v w)
  | soldIfAssigned (i x : Nat) : Coded [[18, (i : Int), (x : Int)]] (.soldIfAssigned i x)
  | soldIfClosed (i : Nat) : Coded [[19, (i : Int)]] (.soldIfClosed i)
  | countValid : Coded [[20]] .countValid
  | fixBest : Coded [[21]] .fixBest
  | getState : Coded [[22]] .getState
theorem whole_id (c : List (List Int)) : PyKv437.whole c = c := by
  unfold PyKv437.whole
  split <;> rfl
theorem nat_of {z : Int} {b : Nat} (h : Kv437Neutral.isNatural z b = true) : ∃ n : Nat, z = (n : Int) := by
  unfold Kv437Neutral.isNatural at h
  rw [Bool.and_eq_true] at h
  exact ⟨z.toNat, (Int.toNat_of_nonneg (of_decide_eq_true h.1)).symm⟩
theorem ints_of {b : Nat} : ∀ {l : List Int}, (l.all fun z => Kv437Neutral.isNatural z b) = true → ∃ n : List Nat, l = nums n
  | [], _ => ⟨[], rfl⟩
  | z :: l, h => by
    rw [List.all_cons, Bool.and_eq_true] at h
    obtain ⟨n, rfl⟩ := nat_of h.1
    obtain ⟨ns, rfl⟩ := ints_of h.2
    exact ⟨n :: ns, rfl⟩
theorem ints_len (l : List Nat) : (nums l).length = l.length := List.length_map _
theorem natural_ints : ∀ l : List Nat, Kv437Neutral.naturals (nums l) = l
  | [] => rfl
  | n :: l => by
    show Int.toNat (n : Int) :: Kv437Neutral.naturals (nums l) = n :: l
    rw [natural_ints l, Int.toNat_natCast]
theorem len_of {lo hi : Int} {a b : Nat} {r : List Int} {bs : List (Int × Int × Nat × Nat)} {rs : List (List Int)} (h : PyInside.lists ((lo, hi, a, b) :: bs) (r :: rs) = true) : r.length ≤ b ∧ PyInside.lists bs rs = true := by
  have h' : (decide (a ≤ r.length) && decide (r.length ≤ b) && r.all (PyInside.within lo hi) && PyInside.lists bs rs) = true := h
  rw [Bool.and_eq_true, Bool.and_eq_true, Bool.and_eq_true] at h'
  exact ⟨of_decide_eq_true h'.1.1.2, h'.2⟩
theorem inside_lists {p : Int} {rows : List (List Int)} (h : PyInside.call PyKv437.bound ([p] :: rows) = true) : PyInside.lists (PyKv437.bound p).2 rows = true := by
  have h' : (PyInside.each (PyKv437.bound p).1 [] && PyInside.lists (PyKv437.bound p).2 rows) = true := h
  rw [Bool.and_eq_true] at h'
  exact h'.2
theorem coded_of (c : List (List Int)) (hb : PyInside.call PyKv437.bound c = true) (ha : Kv437Neutral.asked1 (PyKv437.whole c) = true) : ∃ op, Coded c op := by
  rw [whole_id] at ha
  unfold Kv437Neutral.asked1 at ha
  split at ha
  · exact ⟨_, .create⟩
  · obtain ⟨x, rfl⟩ := nat_of ha
    exact ⟨_, .addBlock x⟩
  · exact ⟨_, .removeLastBlock⟩
  · rw [Bool.and_eq_true] at ha
    obtain ⟨x, rfl⟩ := nat_of ha.1
    obtain ⟨y, rfl⟩ := nat_of ha.2
    exact ⟨_, .setSeats x y⟩
  · rw [Bool.and_eq_true] at ha
    obtain ⟨x, rfl⟩ := nat_of ha.1
    obtain ⟨y, rfl⟩ := nat_of ha.2
    exact ⟨_, .assign x y⟩
  · rw [Bool.and_eq_true] at ha
    obtain ⟨x, rfl⟩ := nat_of ha.1
    obtain ⟨y, rfl⟩ := nat_of ha.2
    exact ⟨_, .connect x y⟩
  · rw [Bool.and_eq_true] at ha
    obtain ⟨x, rfl⟩ := nat_of ha.1
    obtain ⟨y, rfl⟩ := nat_of ha.2
    exact ⟨_, .disconnect x y⟩
  · exact ⟨_, .swapTeams⟩
  · exact ⟨_, .listBlocks⟩
  · obtain ⟨x, rfl⟩ := nat_of ha
    exact ⟨_, .neighbors x⟩
  · exact ⟨_, .bestAllocation⟩
  · exact ⟨_, .emptySeats⟩
  · obtain ⟨x, rfl⟩ := nat_of ha
    exact ⟨_, .bestWithAway x⟩
  · exact ⟨_, .maxAway⟩
  · obtain ⟨l, rfl⟩ := ints_of ha
    have h1 := len_of (show PyInside.lists [(0, 65535, 0, 40)] _ = true from inside_lists hb)
    rw [ints_len] at h1
    exact ⟨_, .isValid l h1.1⟩
  · obtain ⟨l, rfl⟩ := ints_of ha
    have h1 := len_of (show PyInside.lists [(0, 65535, 0, 40)] _ = true from inside_lists hb)
    rw [ints_len] at h1
    exact ⟨_, .soldSeats l h1.1⟩
  · rw [Bool.and_eq_true] at ha
    obtain ⟨v, rfl⟩ := ints_of ha.1
    obtain ⟨w, rfl⟩ := ints_of ha.2
    have h1 := len_of (show PyInside.lists [(0, 65535, 0, 40), (0, 65535, 0, 40)] _ = true from inside_lists hb)
    have h2 := len_of h1.2
    rw [ints_len] at h1 h2
    exact ⟨_, .join v w h1.1 h2.1⟩
  · rw [Bool.and_eq_true] at ha
    obtain ⟨v, rfl⟩ := ints_of ha.1
    obtain ⟨w, rfl⟩ := ints_of ha.2
    have h1 := len_of (show PyInside.lists [(0, 65535, 0, 40), (0, 65535, 0, 40)] _ = true from inside_lists hb)
    have h2 := len_of h1.2
    rw [ints_len] at h1 h2
    exact ⟨_, .meet v w h1.1 h2.1⟩
  · rw [Bool.and_eq_true] at ha
    obtain ⟨x, rfl⟩ := nat_of ha.1
    obtain ⟨y, rfl⟩ := nat_of ha.2
    exact ⟨_, .soldIfAssigned x y⟩
  · obtain ⟨x, rfl⟩ := nat_of ha
    exact ⟨_, .soldIfClosed x⟩
  · exact ⟨_, .countValid⟩
  · exact ⟨_, .fixBest⟩
  · exact ⟨_, .getState⟩
  · cases ha
theorem op_of {c : List (List Int)} {op : Operation} (h : Coded c op) : Kv437Neutral.operationOf c = some op := by
  cases h with
  | isValid l hl =>
    show some (Operation.isValid (Kv437Neutral.naturals (nums l))) = _
    rw [natural_ints]
  | soldSeats l hl =>
    show some (Operation.soldSeats (Kv437Neutral.naturals (nums l))) = _
    rw [natural_ints]
  | join v w hv hw =>
    show some (Operation.join (Kv437Neutral.naturals (nums v)) (Kv437Neutral.naturals (nums w))) = _
    rw [natural_ints, natural_ints]
  | meet v w hv hw =>
    show some (Operation.meet (Kv437Neutral.naturals (nums v)) (Kv437Neutral.naturals (nums w))) = _
    rw [natural_ints, natural_ints]
  | _ => rfl
theorem step_of {c : List (List Int)} {op : Operation} (h : Coded c op) (s : Kv437.State) : Kv437Neutral.step s c = ((Kv437.execute s op).1, Kv437Neutral.resultRow (Kv437.execute s op).2) := by
  unfold Kv437Neutral.step
  rw [op_of h]
/-- what the specification answers to the operations, from a state -/
def toldOf : Kv437.State → List Operation → List Int
  | _, [] => []
  | s, op :: r => (((Kv437Neutral.resultRow (Kv437.execute s op).2).length : Nat) : Int) :: (Kv437Neutral.resultRow (Kv437.execute s op).2 ++ toldOf (Kv437.execute s op).1 r)
inductive Codeds : List (List (List Int)) → List Operation → Prop where
  | nil : Codeds [] []
  | cons {c : List (List Int)} {op : Operation} {cs : List (List (List Int))} {ops : List Operation} : Coded c op → Codeds cs ops → Codeds (c :: cs) (op :: ops)
theorem Codeds.len : ∀ {cs : List (List (List Int))} {ops : List Operation}, Codeds cs ops → cs.length = ops.length
  | _, _, .nil => rfl
  | _, _, .cons _ r => congrArg (· + 1) r.len
theorem told_played : ∀ {cs : List (List (List Int))} {ops : List Operation} (s : Kv437.State), Codeds cs ops → PyFlat.told (PyFlat.played Kv437Neutral.step s cs) = toldOf s ops
  | _, _, _, .nil => rfl
  | c :: cs, op :: ops, s, .cons h r => by
    show (((Kv437Neutral.step s c).2.length : Nat) : Int) :: ((Kv437Neutral.step s c).2 ++ PyFlat.told (PyFlat.played Kv437Neutral.step (Kv437Neutral.step s c).1 cs)) = _
    rw [told_played _ r, step_of h]
    rfl
theorem codeds_of : ∀ {cs : List (List (List Int))}, PyInside.calls PyKv437.bound cs = true → (cs.map PyKv437.whole).all Kv437Neutral.asked1 = true → ∃ ops, Codeds cs ops
  | [], _, _ => ⟨[], .nil⟩
  | c :: cs, hb, ha => by
    have hb' : (PyInside.call PyKv437.bound c && PyInside.calls PyKv437.bound cs) = true := hb
    have ha' : (Kv437Neutral.asked1 (PyKv437.whole c) && (cs.map PyKv437.whole).all Kv437Neutral.asked1) = true := ha
    rw [Bool.and_eq_true] at hb' ha'
    obtain ⟨op, h1⟩ := coded_of c hb'.1 ha'.1
    obtain ⟨ops, h2⟩ := codeds_of hb'.2 ha'.2
    exact ⟨op :: ops, .cons h1 h2⟩
theorem map_whole : ∀ cs : List (List (List Int)), cs.map PyKv437.whole = cs
  | [] => rfl
  | c :: cs => by rw [List.map_cons, whole_id, map_whole cs]
/-- a request that may be handed in: its calls, and what is due -/
theorem request {l : List Int} (h : PyKv437.answers_asked l = true) : ∃ cs ops, Codeds cs ops ∧ l = PyFlat.put cs ∧ cs.length ≤ 256 ∧ PyKv437.answers l = toldOf none ops := by
  unfold PyKv437.answers_asked at h
  cases e : PyFlat.calls PyKv437.shape l.length l with
  | none =>
    rw [e] at h
    cases h
  | some raw =>
    rw [e] at h
    have h' : (!raw.isEmpty && PyFlat.atMost 256 raw && PyInside.calls PyKv437.bound raw && Kv437Neutral.asked (raw.map PyKv437.whole) && PyFlat.short 10000000 (PyKv437.answers l)) = true := h
    rw [Bool.and_eq_true, Bool.and_eq_true, Bool.and_eq_true, Bool.and_eq_true] at h'
    obtain ⟨⟨⟨⟨_, h1⟩, h2⟩, h3⟩, _⟩ := h'
    unfold Kv437Neutral.asked at h3
    rw [Bool.and_eq_true] at h3
    obtain ⟨ops, ho⟩ := codeds_of h2 h3.2
    refine ⟨raw, ops, ho, (PyFlat.put_calls _ _ _ e).1, of_decide_eq_true h1, ?_⟩
    unfold PyKv437.answers PyKv437.calls
    rw [e]
    show PyFlat.told (PyFlat.played Kv437Neutral.step Kv437Neutral.start (raw.map PyKv437.whole)) = _
    rw [map_whole]
    exact told_played none ho
end SB

set_option Elab.async false
set_option linter.all false
set_option maxRecDepth 100000
namespace SB
open Kv437 (Stand Block Planner Operation Response)
theorem wf_nil : WF ⟨[], []⟩ := ⟨Nat.zero_le _, (fun _ h => nomatch h), (fun _ h => nomatch h), (fun _ h => nomatch h), List.nodup_nil⟩
theorem mem_mod {f : Block → Block} {b : Block} : ∀ {l : List Block} {i : Nat}, b ∈ l.modify i f → b ∈ l ∨ ∃ c ∈ l, b = f c
  | [], 0, h => nomatch h
  | [], _ + 1, h => nomatch h
  | c :: l, 0, h => by
    rcases List.mem_cons.mp (show b ∈ f c :: l from h) with h | h
    · exact .inr ⟨c, .head _, h⟩
    · exact .inl (.tail _ h)
  | c :: l, i + 1, h => by
    rcases List.mem_cons.mp (show b ∈ c :: l.modify i f from h) with h | h
    · exact .inl (by rw [h]; exact .head _)
    · rcases mem_mod h with h | ⟨d, hd, e⟩
      · exact .inl (.tail _ h)
      · exact .inr ⟨d, .tail _ hd, e⟩
/-- the blocks change, not how many there are -/
theorem WF.blocks {m : Stand} (h : WF m) {bs : List Block} (hl : bs.length = m.blocks.length) (hs : ∀ b ∈ bs, b.seats ≤ 99 ∧ b.assignment ≤ 3) : WF { m with blocks := bs } :=
  ⟨by show bs.length ≤ 6; rw [hl]; exact h.six, fun b hb => (hs b hb).1, fun b hb => (hs b hb).2, fun q hq => ⟨(h.prs q hq).1, by show q.2 < bs.length; rw [hl]; exact (h.prs q hq).2⟩, h.nd⟩
theorem WF.both {m : Stand} (h : WF m) {b : Block} (hb : b ∈ m.blocks) : b.seats ≤ 99 ∧ b.assignment ≤ 3 := ⟨h.seats b hb, h.ass b hb⟩
theorem WF.withA {m : Stand} (h : WF m) {i x : Nat} (hx : x ≤ 3) : WF (m.withAssignment i x) := by
  refine h.blocks (List.length_modify _ _ _) fun b hb => ?_
  rcases mem_mod hb with hb | ⟨c, hc, rfl⟩
  · exact h.both hb
  · exact ⟨(h.both hc).1, hx⟩
theorem pr_lt {i j : Nat} (h : i ≠ j) : (pr i j).1 < (pr i j).2 := by
  show min i j < max i j
  omega
theorem wf_run {m : Stand} (h : WF m) (op : Operation) : WF ((Planner.mk m).run op).1.stand := by
  cases op with
  | create => exact wf_nil
  | addBlock x =>
    by_cases h1 : 99 < x
    · rw [show (Planner.mk m).run (.addBlock x) = (⟨m⟩, .error (-22)) from if_pos h1]
      exact h
    by_cases h2 : 6 ≤ m.blocks.length
    · rw [show (Planner.mk m).run (.addBlock x) = (⟨m⟩, .error (-28)) from (if_neg h1).trans (if_pos h2)]
      exact h
    rw [show (Planner.mk m).run (.addBlock x) = (⟨{ m with blocks := m.blocks ++ [⟨x, 0⟩] }⟩, .number m.blocks.length) from (if_neg h1).trans (if_neg h2)]
    have hl : (m.blocks ++ [(⟨x, 0⟩ : Block)]).length = m.blocks.length + 1 := by
      rw [List.length_append]
      rfl
    have hb : ∀ b ∈ m.blocks ++ [(⟨x, 0⟩ : Block)], b.seats ≤ 99 ∧ b.assignment ≤ 3 := fun b hb => by
      rcases List.mem_append.mp hb with hb | hb
      · exact h.both hb
      · rw [List.mem_singleton.mp hb]
        exact ⟨by show x ≤ 99; omega, Nat.zero_le _⟩
    exact ⟨by show (m.blocks ++ [_]).length ≤ 6; omega, fun b hb' => (hb b hb').1, fun b hb' => (hb b hb').2, fun q hq => ⟨(h.prs q hq).1, by show q.2 < (m.blocks ++ [_]).length; have := (h.prs q hq).2; omega⟩, h.nd⟩
  | removeLastBlock =>
    by_cases h1 : m.blocks.isEmpty = true
    · rw [show (Planner.mk m).run .removeLastBlock = (⟨m⟩, .error (-6)) from if_pos h1]
      exact h
    rw [show (Planner.mk m).run .removeLastBlock = (⟨⟨m.blocks.dropLast, m.adjacency.filter fun pair => pair.1 != m.blocks.length - 1 && pair.2 != m.blocks.length - 1⟩⟩, .number (m.blocks.length - 1)) from if_neg h1]
    have h6 := h.six
    have hl : m.blocks.dropLast.length = m.blocks.length - 1 := List.length_dropLast
    refine ⟨by show m.blocks.dropLast.length ≤ 6; omega, fun b hb => h.seats b ((List.dropLast_sublist _).subset hb), fun b hb => h.ass b ((List.dropLast_sublist _).subset hb), fun q hq => ?_, h.nd.filter _⟩
    obtain ⟨hq1, hq2⟩ := List.mem_filter.mp hq
    rw [Bool.and_eq_true] at hq2
    have n2 : q.2 ≠ m.blocks.length - 1 := bne_iff_ne.mp hq2.2
    obtain ⟨h3, h4⟩ := h.prs q hq1
    refine ⟨h3, ?_⟩
    show q.2 < m.blocks.dropLast.length
    omega
  | setSeats i x =>
    by_cases h1 : (Planner.mk m).isBlock i = false
    · rw [show (Planner.mk m).run (.setSeats i x) = (⟨m⟩, .error (-2)) from if_pos h1]
      exact h
    by_cases h2 : 99 < x
    · rw [show (Planner.mk m).run (.setSeats i x) = (⟨m⟩, .error (-22)) from (if_neg h1).trans (if_pos h2)]
      exact h
    rw [show (Planner.mk m).run (.setSeats i x) = (⟨{ m with blocks := m.blocks.modify i fun block => { block with seats := x } }⟩, .number (m.seatsOf i)) from (if_neg h1).trans (if_neg h2)]
    refine h.blocks (List.length_modify _ _ _) fun b hb => ?_
    rcases mem_mod hb with hb | ⟨c, hc, rfl⟩
    · exact h.both hb
    · exact ⟨by show x ≤ 99; omega, (h.both hc).2⟩
  | assign i x =>
    by_cases h1 : (Planner.mk m).isBlock i = false
    · rw [show (Planner.mk m).run (.assign i x) = (⟨m⟩, .error (-2)) from if_pos h1]
      exact h
    by_cases h2 : 3 < x
    · rw [show (Planner.mk m).run (.assign i x) = (⟨m⟩, .error (-22)) from (if_neg h1).trans (if_pos h2)]
      exact h
    rw [show (Planner.mk m).run (.assign i x) = (⟨m.withAssignment i x⟩, .number (m.block i).assignment) from (if_neg h1).trans (if_neg h2)]
    exact h.withA (by omega)
  | connect i j =>
    by_cases h1 : (Planner.mk m).isBlock i = false ∨ (Planner.mk m).isBlock j = false
    · rw [show (Planner.mk m).run (.connect i j) = (⟨m⟩, .error (-2)) from if_pos h1]
      exact h
    by_cases h2 : i = j
    · rw [show (Planner.mk m).run (.connect i j) = (⟨m⟩, .error (-22)) from (if_neg h1).trans (if_pos h2)]
      exact h
    by_cases h3 : m.areAdjacent i j = true
    · rw [show (Planner.mk m).run (.connect i j) = (⟨m⟩, .error (-17)) from (if_neg h1).trans ((if_neg h2).trans (if_pos h3))]
      exact h
    rw [show (Planner.mk m).run (.connect i j) = (⟨{ m with adjacency := m.adjacency ++ [pr i j] }⟩, .number (m.adjacency.length + 1)) from (if_neg h1).trans ((if_neg h2).trans (if_neg h3))]
    have hi : i < m.blocks.length := Decidable.byContradiction fun z => h1 (.inl (isB_f z))
    have hj : j < m.blocks.length := Decidable.byContradiction fun z => h1 (.inr (isB_f z))
    refine ⟨h.six, h.seats, h.ass, fun q hq => ?_, ?_⟩
    · rcases List.mem_append.mp hq with hq | hq
      · exact h.prs q hq
      · rw [List.mem_singleton.mp hq]
        refine ⟨pr_lt h2, ?_⟩
        show max i j < m.blocks.length
        omega
    · refine List.nodup_append.mpr ⟨h.nd, List.nodup_cons.mpr ⟨(fun z => nomatch z), List.nodup_nil⟩, fun q hq r hr e => ?_⟩
      have hf : adj m i j = false := by
        rw [← adj_eq h]
        cases e : m.areAdjacent i j with
        | true => exact absurd e h3
        | false => rfl
      rw [List.mem_singleton.mp hr] at e
      exact adj_false hf (by rw [← e]; exact hq)
  | disconnect i j =>
    by_cases h1 : (Planner.mk m).isBlock i = false ∨ (Planner.mk m).isBlock j = false
    · rw [show (Planner.mk m).run (.disconnect i j) = (⟨m⟩, .error (-2)) from if_pos h1]
      exact h
    by_cases h3 : m.areAdjacent i j = false
    · rw [show (Planner.mk m).run (.disconnect i j) = (⟨m⟩, .error (-6)) from (if_neg h1).trans (if_pos h3)]
      exact h
    rw [show (Planner.mk m).run (.disconnect i j) = (⟨{ m with adjacency := m.adjacency.filter fun z => z != pr i j }⟩, .number (m.adjacency.length - 1)) from (if_neg h1).trans (if_neg h3)]
    exact ⟨h.six, h.seats, h.ass, fun q hq => h.prs q (List.mem_filter.mp hq).1, h.nd.filter _⟩
  | swapTeams =>
    refine h.blocks (List.length_map _) fun b hb => ?_
    obtain ⟨c, hc, rfl⟩ := List.mem_map.mp hb
    refine ⟨(h.both hc).1, ?_⟩
    have := (h.both hc).2
    show (if c.assignment = 1 then 2 else if c.assignment = 2 then 1 else c.assignment) ≤ 3
    split
    · decide
    · split
      · decide
      · exact this
  | listBlocks => exact h
  | neighbors i =>
    show WF (if (Planner.mk m).isBlock i = false then _ else _ : Planner × Response).1.stand
    split <;> exact h
  | bestAllocation => exact h
  | emptySeats =>
    show WF (match m.best 0 with | none => _ | some a => _ : Planner × Response).1.stand
    split <;> exact h
  | bestWithAway k => exact h
  | maxAway =>
    show WF (match m.validAllocations 0 with | [] => _ | allocations => _ : Planner × Response).1.stand
    split <;> exact h
  | isValid a =>
    show WF (if m.isAllocation a = false then _ else _ : Planner × Response).1.stand
    split <;> exact h
  | soldSeats a =>
    show WF (if m.isAllocation a = false then _ else _ : Planner × Response).1.stand
    split <;> exact h
  | join v w =>
    show WF (if m.isAllocation v = false ∨ m.isAllocation w = false then _ else _ : Planner × Response).1.stand
    split <;> exact h
  | meet v w =>
    show WF (if m.isAllocation v = false ∨ m.isAllocation w = false then _ else _ : Planner × Response).1.stand
    split <;> exact h
  | soldIfAssigned i x =>
    show WF (if (Planner.mk m).isBlock i = false then _ else if 3 < x then _ else _ : Planner × Response).1.stand
    split
    · exact h
    · split <;> exact h
  | soldIfClosed i =>
    show WF (if (Planner.mk m).isBlock i = false then _ else _ : Planner × Response).1.stand
    split <;> exact h
  | countValid => exact h
  | fixBest =>
    cases e : m.best 0 with
    | none =>
      have er : (Planner.mk m).run .fixBest = (⟨m⟩, .error (-33)) := by
        show (match m.best 0 with | none => _ | some a => _) = _
        rw [e]
      rw [er]
      exact h
    | some a =>
      have er : (Planner.mk m).run .fixBest = (⟨{ m with blocks := (m.blocks.zip a).map fun q => { q.1 with assignment := if q.2 = 0 then 3 else q.2 } }⟩, .number (m.soldSeats a)) := by
        show (match m.best 0 with | none => _ | some a => _) = _
        rw [e]
      rw [er]
      obtain ⟨hl, h2⟩ := best_in h e
      refine h.blocks ?_ fun b hb => ?_
      · rw [List.length_map, List.length_zip, hl, Nat.min_self]
      · obtain ⟨q, hq, rfl⟩ := List.mem_map.mp hb
        obtain ⟨x, y⟩ := q
        obtain ⟨h3, h4⟩ := List.of_mem_zip hq
        refine ⟨(h.both h3).1, ?_⟩
        have := h2 y h4
        show (if y = 0 then 3 else y) ≤ 3
        split <;> omega
  | getState => exact h
end SB

set_option Elab.async false
set_option linter.all false
namespace SB
open Kv437 (Stand Block Planner Operation Response)
/-! ### one call more -/
theorem asked_short {l : List Int} (h : PyKv437.answers_asked l = true) : (PyKv437.answers l).length ≤ 10000000 := by
  unfold PyKv437.answers_asked at h
  cases e : PyFlat.calls PyKv437.shape l.length l with
  | none =>
    rw [e] at h
    cases h
  | some raw =>
    rw [e] at h
    have h' : (!raw.isEmpty && PyFlat.atMost 256 raw && PyInside.calls PyKv437.bound raw && Kv437Neutral.asked (raw.map PyKv437.whole) && PyFlat.short 10000000 (PyKv437.answers l)) = true := h
    rw [Bool.and_eq_true] at h'
    exact of_decide_eq_true h'.2
/-- the state behind the operations -/
def afterOf : Kv437.State → List Operation → Kv437.State
  | s, [] => s
  | s, op :: r => afterOf (Kv437.execute s op).1 r
theorem after_snoc : ∀ (ops : List Operation) (s : Kv437.State) (op : Operation), afterOf s (ops ++ [op]) = (Kv437.execute (afterOf s ops) op).1
  | [], _, _ => rfl
  | _ :: ops, s, op => after_snoc ops _ op
theorem told_app : ∀ (ops : List Operation) (s : Kv437.State) (r : List Operation), toldOf s (ops ++ r) = toldOf s ops ++ toldOf (afterOf s ops) r
  | [], _, _ => rfl
  | op :: ops, s, r => by
    show _ :: (_ ++ toldOf _ (ops ++ r)) = (_ :: (_ ++ toldOf _ ops)) ++ _
    rw [told_app ops, List.cons_append, List.append_assoc]
    rfl
/-- what one call answers -/
def rowOf (s : Kv437.State) (op : Operation) : List Int := Kv437Neutral.resultRow (Kv437.execute s op).2
theorem told_snoc (ops : List Operation) (s : Kv437.State) (op : Operation) : toldOf s (ops ++ [op]) = toldOf s ops ++ (((rowOf (afterOf s ops) op).length : Nat) : Int) :: rowOf (afterOf s ops) op := by
  rw [told_app]
  show _ = toldOf s ops ++ (_ :: _)
  congr 1
  show _ :: (_ ++ []) = _
  rw [List.append_nil]
  rfl
theorem put_app : ∀ cs ds : List (List (List Int)), PyFlat.put (cs ++ ds) = PyFlat.put cs ++ PyFlat.put ds
  | [], _ => rfl
  | c :: cs, ds => by
    show PyFlat.put1 c ++ PyFlat.put (cs ++ ds) = (PyFlat.put1 c ++ PyFlat.put cs) ++ PyFlat.put ds
    rw [put_app cs ds, List.append_assoc]
theorem Codeds.app : ∀ {cs : List (List (List Int))} {ops : List Operation} (i : Nat), Codeds cs ops → Codeds (cs.take i) (ops.take i) ∧ Codeds (cs.drop i) (ops.drop i)
  | _, _, 0, h => ⟨.nil, h⟩
  | _, _, _ + 1, .nil => ⟨.nil, .nil⟩
  | _, _, i + 1, .cons h r => ⟨.cons h (r.app i).1, (r.app i).2⟩
/-- the loop's state behind i calls: either all is read, or the next call stands at start -/
theorem next_call {cs : List (List (List Int))} {ops : List Operation} (h : Codeds cs ops) (i : Nat) (hi : i ≤ cs.length) :
    (i = cs.length ∧ PyFlat.put (cs.take i) = PyFlat.put cs ∧ ops.take i = ops) ∨
    ∃ c op, Coded c op ∧ i < cs.length ∧ PyFlat.put cs = PyFlat.put (cs.take i) ++ (PyFlat.put1 c ++ PyFlat.put (cs.drop (i + 1))) ∧ PyFlat.put (cs.take (i + 1)) = PyFlat.put (cs.take i) ++ PyFlat.put1 c ∧ ops.take (i + 1) = ops.take i ++ [op] := by
  have hl := h.len
  by_cases e : i = cs.length
  · subst e
    refine .inl ⟨rfl, by rw [List.take_length], ?_⟩
    rw [hl, List.take_length]
  · have hlt : i < cs.length := by omega
    have hlo : i < ops.length := by omega
    have hd := (h.app i).2
    rw [List.drop_eq_getElem_cons hlt, List.drop_eq_getElem_cons hlo] at hd
    cases hd with
    | cons hc _ =>
      have et : cs.take (i + 1) = cs.take i ++ [cs[i]] := by rw [List.take_add_one, List.getElem?_eq_getElem hlt]; rfl
      have eo : ops.take (i + 1) = ops.take i ++ [ops[i]] := by rw [List.take_add_one, List.getElem?_eq_getElem hlo]; rfl
      refine .inr ⟨cs[i], ops[i], hc, hlt, ?_, ?_, eo⟩
      · have e2 : cs = cs.take i ++ (cs[i] :: cs.drop (i + 1)) := by
          rw [← List.drop_eq_getElem_cons hlt, List.take_append_drop]
        have e3 := congrArg PyFlat.put e2
        rw [put_app] at e3
        exact e3
      · rw [et, put_app]
        show _ ++ (PyFlat.put1 _ ++ []) = _
        rw [List.append_nil]
end SB

set_option Elab.async false
set_option linter.all false
set_option maxRecDepth 100000
namespace SB
open Kv437 (Stand Block Planner Operation Response)
/-! ### a call as its number, its plain numbers, its lists -/
inductive CodedN : Nat → List Nat → List (List Nat) → Operation → Prop where
  | create : CodedN 0 [] [] .create
  | addBlock (x : Nat) : CodedN 1 [x] [] (.addBlock x)
  | removeLastBlock : CodedN 2 [] [] .removeLastBlock
  | setSeats (i x : Nat) : CodedN 3 [i, x] [] (.setSeats i x)
  | assign (i x : Nat) : CodedN 4 [i, x] [] (.assign i x)
  | connect (i j : Nat) : CodedN 5 [i, j] [] (.connect i j)
  | disconnect (i j : Nat) : CodedN 6 [i, j] [] (.disconnect i j)
  | swapTeams : CodedN 7 [] [] .swapTeams
  | listBlocks : CodedN 8 [] [] .listBlocks
  | neighbors (i : Nat) : CodedN 9 [i] [] (.neighbors i)
  | bestAllocation : CodedN 10 [] [] .bestAllocation
  | emptySeats : CodedN 11 [] [] .emptySeats
  | bestWithAway (k : Nat) : CodedN 12 [k] [] (.bestWithAway k)
  | maxAway : CodedN 13 [] [] .maxAway
  | isValid (l : List Nat) : CodedN 14 [] [l] (.isValid l)
  | soldSeats (l : List Nat) : CodedN 15 [] [l] (.soldSeats l)
  | join (v w : List Nat) : CodedN 16 [] [v, w] (.join v w)
  | meet (v w : List Nat) : CodedN 17 [] [v, w] (.meet v w)
  | soldIfAssigned (i x : Nat) : CodedN 18 [i, x] [] (.soldIfAssigned i x)
  | soldIfClosed (i : Nat) : CodedN 19 [i] [] (.soldIfClosed i)
  | countValid : CodedN 20 [] [] .countValid
  | fixBest : CodedN 21 [] [] .fixBest
  | getState : CodedN 22 [] [] .getState
def numTab : List Nat := [0, 1, 0, 2, 2, 2, 2, 0, 0, 1, 0, 0, 1, 0, 0, 0, 0, 0, 2, 1, 0, 0, 0]
def lstTab : List Nat := [0, 0, 0, 0, 0, 0, 0, 0, 0, 0, 0, 0, 0, 0, 1, 1, 2, 2, 0, 0, 0, 0, 0]
theorem coded_n {c : List (List Int)} {op : Operation} (h : Coded c op) : ∃ p ns rs, CodedN p ns rs op ∧ c = ((p : Int) :: nums ns) :: rs.map nums := by
  cases h with
  | create => exact ⟨_, _, _, .create, rfl⟩
  | addBlock x => exact ⟨_, _, _, .addBlock x, rfl⟩
  | removeLastBlock => exact ⟨_, _, _, .removeLastBlock, rfl⟩
  | setSeats i x => exact ⟨_, _, _, .setSeats i x, rfl⟩
  | assign i x => exact ⟨_, _, _, .assign i x, rfl⟩
  | connect i j => exact ⟨_, _, _, .connect i j, rfl⟩
  | disconnect i j => exact ⟨_, _, _, .disconnect i j, rfl⟩
  | swapTeams => exact ⟨_, _, _, .swapTeams, rfl⟩
  | listBlocks => exact ⟨_, _, _, .listBlocks, rfl⟩
  | neighbors i => exact ⟨_, _, _, .neighbors i, rfl⟩
  | bestAllocation => exact ⟨_, _, _, .bestAllocation, rfl⟩
  | emptySeats => exact ⟨_, _, _, .emptySeats, rfl⟩
  | bestWithAway k => exact ⟨_, _, _, .bestWithAway k, rfl⟩
  | maxAway => exact ⟨_, _, _, .maxAway, rfl⟩
  | isValid l _ => exact ⟨_, _, _, .isValid l, rfl⟩
  | soldSeats l _ => exact ⟨_, _, _, .soldSeats l, rfl⟩
  | join v w _ _ => exact ⟨_, _, _, .join v w, rfl⟩
  | meet v w _ _ => exact ⟨_, _, _, .meet v w, rfl⟩
  | soldIfAssigned i x => exact ⟨_, _, _, .soldIfAssigned i x, rfl⟩
  | soldIfClosed i => exact ⟨_, _, _, .soldIfClosed i, rfl⟩
  | countValid => exact ⟨_, _, _, .countValid, rfl⟩
  | fixBest => exact ⟨_, _, _, .fixBest, rfl⟩
  | getState => exact ⟨_, _, _, .getState, rfl⟩
theorem tab_of {p : Nat} {ns : List Nat} {rs : List (List Nat)} {op : Operation} (h : CodedN p ns rs op) : numTab[p]? = some ns.length ∧ lstTab[p]? = some rs.length := by
  cases h <;> exact ⟨rfl, rfl⟩
/-- the call as it stands in the request -/
def flat (p : Nat) (ns : List Nat) (rs : List (List Nat)) : List Int := nums (p :: ns) ++ PyFlat.putRows (rs.map nums)
theorem flat_put (p : Nat) (ns : List Nat) (rs : List (List Nat)) : PyFlat.put1 (((p : Int) :: nums ns) :: rs.map nums) = flat p ns rs := rfl
theorem rows_app : ∀ a b : List (List Int), PyFlat.putRows (a ++ b) = PyFlat.putRows a ++ PyFlat.putRows b
  | [], _ => rfl
  | x :: a, b => by
    show PyFlat.putRow x ++ PyFlat.putRows (a ++ b) = (PyFlat.putRow x ++ PyFlat.putRows a) ++ PyFlat.putRows b
    rw [rows_app a b, List.append_assoc]
/-- the rows around the j-th -/
theorem rows_at {rs : List (List Nat)} {j : Nat} {r : List Nat} (h : rs[j]? = some r) :
    PyFlat.putRows (rs.map nums) = PyFlat.putRows ((rs.take j).map nums) ++ (((r.length : Nat) : Int) :: (nums r ++ PyFlat.putRows ((rs.drop (j + 1)).map nums))) ∧
    (PyFlat.putRows ((rs.take (j + 1)).map nums)).length = (PyFlat.putRows ((rs.take j).map nums)).length + 1 + r.length := by
  have hj := (List.getElem?_eq_some_iff.mp h)
  obtain ⟨hl, e⟩ := hj
  have e1 : rs = rs.take j ++ (r :: rs.drop (j + 1)) := by
    rw [← e, ← List.drop_eq_getElem_cons hl, List.take_append_drop]
  have e2 : rs.take (j + 1) = rs.take j ++ [r] := by rw [List.take_add_one, h]; rfl
  constructor
  · have := congrArg (fun z => PyFlat.putRows (List.map nums z)) e1
    simp only [List.map_append, rows_app, List.map_cons] at this
    rw [this]
    show _ ++ (PyFlat.putRow (nums r) ++ _) = _
    unfold PyFlat.putRow
    rw [ints_len, List.cons_append]
  · rw [e2, List.map_append, rows_app, List.length_append]
    show _ + (PyFlat.putRow (nums r) ++ []).length = _
    rw [List.append_nil]
    show _ + ((nums r).length + 1) = _
    rw [ints_len]
    omega
theorem flat_len (p : Nat) (ns : List Nat) (rs : List (List Nat)) : (flat p ns rs).length = 1 + ns.length + (PyFlat.putRows (rs.map nums)).length := by
  unfold flat
  rw [List.length_append, ints_len, List.length_cons]
  omega
theorem told_few (s : Kv437.State) (ops : List Operation) (k : Nat) : (toldOf s (ops.take k)).length ≤ (toldOf s ops).length := by
  have := congrArg (fun z => (toldOf s z).length) (List.take_append_drop k ops)
  simp only [told_app, List.length_append] at this
  omega
end SB

set_option Elab.async false
set_option linter.all false
set_option maxRecDepth 100000
set_option maxHeartbeats 4000000
namespace SB
open PySem PySem.Spec PyProof.Rows L2
open Kv437 (Stand Block Planner Operation Response)
/-! ### what-if questions; fixing the best -/
abbrev sRe : Stmt := inClass (topS 54) 5
abbrev sSia : Stmt := topS 51
abbrev sSic : Stmt := topS 52
abbrev sFb : Stmt := topS 32
abbrev sFa : Stmt := topS 33
theorem scRe : FnScope ["self", "block", "assignment", "other"] ["self", "block", "assignment"] (defScope sRe) := ⟨rfl, rfl, rfl, by decide +kernel, rfl, by decide +kernel, by decide +kernel⟩
theorem scSia : FnScope ["stadium", "block", "assignment", "best"] ["stadium", "block", "assignment"] (defScope sSia) := ⟨rfl, rfl, rfl, by decide +kernel, rfl, by decide +kernel, by decide +kernel⟩
theorem scSic : FnScope ["stadium", "block"] ["stadium", "block"] (defScope sSic) := ⟨rfl, rfl, rfl, by decide +kernel, rfl, by decide +kernel, by decide +kernel⟩
theorem scFb : FnScope ["stadium", "best", "use"] ["stadium"] (defScope sFb) := ⟨rfl, rfl, rfl, by decide +kernel, rfl, by decide +kernel, by decide +kernel⟩
theorem scFa : FnScope ["use"] ["use"] (defScope sFa) := ⟨rfl, rfl, rfl, by decide +kernel, rfl, by decide +kernel, by decide +kernel⟩
theorem fS_put_s (s t p x : Addr) : putF "seats" (.ref x) (fS s t p) = fS x t p := put_here
theorem sUpd {H H' : Hp} {x : Addr} {o : HO} (e : Same H H') (n : H x = none) : Same H (upd H' x o) := fun b u hb => by
  rw [upd_ne (ne_of_none hb n)]
  exact e _ _ hb
theorem mod_map {β : Type} {f : Block → β} {g : Block → Block} (h : ∀ b, f (g b) = f b) : ∀ (l : List Block) (i : Nat), (l.modify i g).map f = l.map f
  | [], 0 => rfl
  | [], _ + 1 => rfl
  | b :: l, 0 => by
    show f (g b) :: l.map f = f b :: l.map f
    rw [h]
  | b :: l, i + 1 => congrArg (f b :: ·) (mod_map h l i)
theorem seatsOf_map (m : Stand) (i : Nat) : m.seatsOf i = (m.blocks.map Block.seats).getD i 0 := by
  show (m.blocks.getD i ⟨0, 0⟩).seats = _
  rw [List.getD_eq_getElem?_getD, List.getD_eq_getElem?_getD, List.getElem?_map]
  cases m.blocks[i]? <;> rfl
theorem sold_same {m m' : Stand} (h : m'.blocks.map Block.seats = m.blocks.map Block.seats) (l : List Nat) : m'.soldSeats l = m.soldSeats l := by
  have e : m'.seatsOf = m.seatsOf := funext fun i => by rw [seatsOf_map, seatsOf_map, h]
  unfold Stand.soldSeats Stand.seatsWhere
  rw [e]
theorem withA_seats (m : Stand) (i x : Nat) : (m.withAssignment i x).blocks.map Block.seats = m.blocks.map Block.seats := mod_map (f := Block.seats) (g := fun b => { b with assignment := x }) (fun _ => rfl) _ _
theorem withA_len (m : Stand) (i x : Nat) : (m.withAssignment i x).blocks.length = m.blocks.length := List.length_modify _ _ _
theorem run_closed (m : Stand) (i : Nat) : (Planner.mk m).run (.soldIfClosed i) = (Planner.mk m).run (.soldIfAssigned i 3) := by
  show (if _ then _ else _) = (if _ then _ else (if 3 < 3 then _ else _))
  rw [if_neg (Nat.lt_irrefl 3)]
/-- the class makes empty stadiums -/
def Ini (P : Program) (w : World) (K : PySem.W.Frag) (mg : Str → Option Value) (base : Heap) (C : Addr) : Prop := ∃ f fd, Mk K C f ∧ Binds K fd ["self"] [] ∧ FnOk P w K mg base CX0 1 f fd ["self"] (spInit C)
section
variable {P : Program} {w : World} {K : PySem.W.Frag} {mg : Str → Option Value} {base : Heap} {C : Addr}
def spRe (C : Addr) : Sp := fun vs H Q _ => ∃ (a : Addr) (m : Stand) (i x : Nat), vs = [.ref a, .int i, .int x] ∧ Stad C H a m ∧ WF m ∧ i < m.blocks.length ∧ ∀ H' y, Same H H' → Stad C H' y (m.withAssignment i x) → Q (.ref y) H'
theorem ok_re {f : Addr} {fd : FuncData} (F : Fun K "reassigned" "Stadium.reassigned" sRe f fd) (T : Txt K mg C) (bl : mg "list" = none) (GN : Ini P w K mg base C) : FnOk P w K mg base CX0 3 f fd ["self", "block", "assignment"] (spRe C) := by
  refine F.ok scRe (fun vs H Q E h => ?_) (fun cdv A outer s H vs Q E hr h => ?_)
  · obtain ⟨a, m, i, x, rfl, _⟩ := h
    rfl
  · obtain ⟨a, m, i, y, rfl, hS, hW, hil, q⟩ := h
    obtain ⟨fi, fdi, M, bi, GI⟩ := GN
    refine ⟨_, pss_cons (ps_set (i := 3) scRe.nd rfl (.inl rfl) (pe_make0 M GI hr (by rfl) T.gC bi .nil pass0))
      (pss_cons (ps_fld (pv 3) (pe_callTy call_list_of (by rfl) bl (by decide +kernel) (pa_cons (pe_fld (pv 0) rfl) pa_nil)) rfl)
      (pss_cons (ps_fld (pv 3) (pe_callTy call_list_of (by rfl) bl (by decide +kernel) (pa_cons (pe_fld (pv 0) rfl) pa_nil)) rfl)
      (pss_cons (ps_asg (pv 2) (pg_sub (pe_fld (pv 3) rfl) (pv 1) set_list))
      (pss_cons (ps_fld (pv 3) (pe_callTy call_list_of (by rfl) bl (by decide +kernel) (pa_cons (pe_fld (pv 0) rfl) pa_nil)) rfl)
      (pss_one (ps_ret (pv 3))))))), ?_⟩
    intro x dx nx ndx hdx
    refine ⟨x, dx, rfl, upd_same, fun H2 hS2 k2 f2 => ⟨rfl, ?_⟩⟩
    have e2 : Same H H2 := fun b o hb => k2 b o (by
      rw [upd_ne (ne_of_none hb nx), upd_ne (ne_of_none hb ndx)]
      exact hb) (ne_of_none hb nx)
    obtain ⟨s1, t1, p1, ts1, D1⟩ := hS2
    obtain ⟨dy, hx2⟩ := D1.ins
    obtain ⟨s0, t0, p0, ts, D⟩ := hS
    obtain ⟨da, hi⟩ := D.ins
    have h6 := hW.six
    refine ⟨_, rfl, a, C, da, _, _, rfl, e2 _ _ hi, T.cl, T.nS, fS_s _ _ _, s0, _, rfl, .inl (.inl (.inl (e2 _ _ D.hs))), fun l1 n1 => ⟨_, rfl, x, C, dy, _, rfl, (upd_ne (ne_of_none hx2 n1)).trans hx2, T.cl, T.nS, (by show 3 < 1000; decide), ?_⟩⟩
    have m1 : H l1 = none := e2.free n1
    have x1 : l1 ≠ x := (ne_of_none hx2 n1).symm
    rw [fS_put_s]
    have e4 : Same H (upd (upd H2 l1 (.lst (seatsV m))) x (.ins C dy (fS l1 t1 p1))) := sUpd (sUpd e2 m1) nx
    have g4 : (upd (upd H2 l1 (.lst (seatsV m))) x (.ins C dy (fS l1 t1 p1))) l1 = some (.lst (seatsV m)) := by rw [upd_ne x1, upd_same]
    have h4 : (upd (upd H2 l1 (.lst (seatsV m))) x (.ins C dy (fS l1 t1 p1))) x = some (.ins C dy (fS l1 t1 p1)) := upd_same
    generalize (upd (upd H2 l1 (.lst (seatsV m))) x (.ins C dy (fS l1 t1 p1))) = H4 at e4 g4 h4
    refine ⟨_, rfl, a, C, da, _, _, rfl, e4 _ _ hi, T.cl, T.nT, fS_t _ _ _, t0, _, rfl, .inl (.inl (.inl (e4 _ _ D.ht))), fun l2 n2 => ⟨_, rfl, x, C, dy, _, rfl, (upd_ne (ne_of_none h4 n2)).trans h4, T.cl, T.nT, (by show 3 < 1000; decide), ?_⟩⟩
    have m2 : H l2 = none := e4.free n2
    have x2 : l2 ≠ x := (ne_of_none h4 n2).symm
    have x12 : l1 ≠ l2 := ne_of_none g4 n2
    rw [fS_put_t]
    have e6 : Same H (upd (upd H4 l2 (.lst (assV m))) x (.ins C dy (fS l1 l2 p1))) := sUpd (sUpd e4 m2) nx
    have g6 : (upd (upd H4 l2 (.lst (assV m))) x (.ins C dy (fS l1 l2 p1))) l1 = some (.lst (seatsV m)) := by rw [upd_ne x1, upd_ne x12, g4]
    have k6 : (upd (upd H4 l2 (.lst (assV m))) x (.ins C dy (fS l1 l2 p1))) l2 = some (.lst (assV m)) := by rw [upd_ne x2, upd_same]
    have h6' : (upd (upd H4 l2 (.lst (assV m))) x (.ins C dy (fS l1 l2 p1))) x = some (.ins C dy (fS l1 l2 p1)) := upd_same
    generalize (upd (upd H4 l2 (.lst (assV m))) x (.ins C dy (fS l1 l2 p1))) = H6 at e6 g6 k6 h6'
    refine ⟨_, rfl, _, rfl, x, C, dy, _, _, rfl, h6', T.cl, T.nT, fS_t _ _ _, _, rfl, l2, _, _, i, rfl, rfl, k6, ixN_nat (by rw [assV_len]; exact hil), ?_⟩
    have e7 : Same H (upd H6 l2 (.lst ((assV m).set i (.int y)))) := sUpd e6 m2
    have g7 : (upd H6 l2 (.lst ((assV m).set i (.int y)))) l1 = some (.lst (seatsV m)) := by rw [upd_ne x12, g6]
    have k7 : (upd H6 l2 (.lst ((assV m).set i (.int y)))) l2 = some (.lst ((assV m).set i (.int y))) := upd_same
    have h7 : (upd H6 l2 (.lst ((assV m).set i (.int y)))) x = some (.ins C dy (fS l1 l2 p1)) := by rw [upd_ne x2.symm, h6']
    generalize (upd H6 l2 (.lst ((assV m).set i (.int y)))) = H7 at e7 g7 k7 h7
    refine ⟨_, rfl, a, C, da, _, _, rfl, e7 _ _ hi, T.cl, T.nP, fS_p _ _ _, p0, _, rfl, .inl (.inl (.inl (e7 _ _ D.hp))), fun l3 n3 => ⟨_, rfl, x, C, dy, _, rfl, (upd_ne (ne_of_none h7 n3)).trans h7, T.cl, T.nP, (by show 3 < 1000; decide), ?_⟩⟩
    have m3 : H l3 = none := e7.free n3
    have x3 : l3 ≠ x := (ne_of_none h7 n3).symm
    have x13 : l1 ≠ l3 := ne_of_none g7 n3
    have x23 : l2 ≠ l3 := ne_of_none k7 n3
    rw [fS_put_p]
    have e9 : Same H (upd (upd H7 l3 (.lst (ts.map V.ref))) x (.ins C dy (fS l1 l2 l3))) := sUpd (sUpd e7 m3) nx
    refine ⟨_, rfl, q _ x e9 ⟨l1, l2, l3, ts, ⟨⟨dy, upd_same⟩, ?_, ?_, ?_, D.prs.same e9, x12, x13, x23⟩⟩⟩
    · rw [upd_ne x1, upd_ne x13, g7]
      exact congrArg (fun z => some (HO.lst z)) (map_mod_same (f := fun b => V.int (b.seats : Nat)) (g := fun b => { b with assignment := y }) (fun _ => rfl) _ _).symm
    · rw [upd_ne x2, upd_ne x23, k7]
      exact congrArg (fun z => some (HO.lst z)) (map_mod_set (f := fun b => V.int (b.assignment : Nat)) (g := fun b => { b with assignment := y }) (y := .int (y : Nat)) (fun _ => rfl) _ _).symm
    · rw [upd_ne x3, upd_same]
def spSia (C : Addr) : Sp := fun vs H Q _ => ∃ (a : Addr) (m : Stand) (i x : Nat), vs = [.ref a, .int i, .int x] ∧ Stad C H a m ∧ WF m ∧ Out C H a m (.soldIfAssigned i x) Q
theorem ok_sia {f : Addr} {fd : FuncData} (F : Fun K "sold_if_assigned" "sold_if_assigned" sSia f fd) (T : Txt K mg C) (Z : Cs mg) (GH : Mt P w K mg base C "has_block" 1 ["self", "block"] (spHb C)) (GR : Mt P w K mg base C "reassigned" 3 ["self", "block", "assignment"] (spRe C)) (GF : Fn P w K mg base "find_best" 5 ["stadium", "min_away"] (spBest C)) (GS : Fn P w K mg base "count_sold" 2 ["stadium", "allocation"] (spSold C K)) : FnOk P w K mg base CX0 6 f fd ["stadium", "block", "assignment"] (spSia C) := by
  refine F.ok scSia (fun vs H Q E h => ?_) (fun cdv A outer s H vs Q E hr h => ?_)
  · obtain ⟨a, m, i, x, rfl, _⟩ := h
    rfl
  · obtain ⟨a, m, i, x, rfl, hS, hW, q⟩ := h
    refine ⟨_, pss_cons (ps_if (pt_not (pt_val (pe_mt GH T.cl (hr.mono (by decide)) (pv 0) (pa_cons (pv 1) pa_nil)))) (pss_one (ps_ret (pe_lst (pa_cons (pe_gi Z.noSuch) pa_nil)))) pss_nil)
      (pss_cons (ps_if (pt_cmpR op_gt (pv 2) (pe_gi Z.closed) (nomark _)) (pss_one (ps_ret (pe_lst (pa_cons (pe_gi Z.out) pa_nil)))) pss_nil)
      (pss_cons (ps_set (i := 3) scSia.nd rfl (.inl rfl) (pe_fn GF hr (pa_cons (pe_mt GR T.cl (hr.mono (by decide)) (pv 0) (pa_cons (pv 1) (pa_cons (pv 2) pa_nil))) (pa_cons pe_int pa_nil))))
      (pss_cons (ps_if (pt_cmpR op_isN (pv 3) pe_non (nomark _)) (pss_one (ps_ret (pe_lst (pa_cons (pe_gi Z.noAlloc) pa_nil)))) pss_nil)
      (pss_one (ps_ret (pe_lst (pa_cons (pe_fn GS (hr.mono (by decide)) (pa_cons (pv 0) (pa_cons (pv 3) pa_nil))) pa_nil))))))), ?_⟩
    obtain ⟨s0, t0, p0, ts, D⟩ := hS
    obtain ⟨dx, hi⟩ := D.ins
    have hS : Stad C H a m := ⟨s0, t0, p0, ts, D⟩
    refine ⟨_, rfl, a, dx, _, rfl, hi, fS_no _ _ _ _ (by decide +kernel) (by decide +kernel) (by decide +kernel), _, rfl, a, m, i, rfl, hS, _, rfl, iteND (fun h => ?_) (fun h => ?_)⟩
    · exact ⟨(by show 1 ≤ sizeLine; decide), fun r hr => Out.new q (if_pos (isB_f (by omega))) hS (Same.refl _) hr rfl⟩
    have hil : i < m.blocks.length := by omega
    refine ⟨_, rfl, _, _, rfl, rfl, _, rfl, iteD (fun h2 => ?_) (fun h2 => ?_)⟩
    · exact ⟨(by show 1 ≤ sizeLine; decide), fun r hr => Out.new q ((if_neg (isB_t hil)).trans (if_pos (by omega))) hS (Same.refl _) hr rfl⟩
    have hx : x ≤ 3 := by omega
    have hW2 : WF (m.withAssignment i x) := hW.withA hx
    have run : (Planner.mk m).run (.soldIfAssigned i x) = (⟨m⟩, Kv437.soldResponse (m.withAssignment i x)) := (if_neg (isB_t hil)).trans (if_neg (by omega))
    refine ⟨_, rfl, a, dx, _, rfl, hi, fS_no _ _ _ _ (by decide +kernel) (by decide +kernel) (by decide +kernel), _, rfl, _, rfl, a, m, i, x, rfl, hS, hW, hil, fun H1 y s1 hS1 => ⟨y, _, 0, rfl, hS1, hW2, fun H2 v s2 hv => ?_⟩⟩
    have s12 := s1.trans s2
    cases hb : (m.withAssignment i x).best 0 with
    | none =>
      rw [hb] at hv
      have hv : v = .non := hv
      subst hv
      refine ⟨_, rfl, rfl, _, rfl, iteT ⟨(by show 1 ≤ sizeLine; decide), fun r hr => Out.new q (v := .error (-33)) ?_ hS s12 hr rfl⟩⟩
      rw [run]
      show (_, match (m.withAssignment i x).best 0 with | none => Response.error (-33) | some a => _) = _
      rw [hb]
    | some l =>
      rw [hb] at hv
      obtain ⟨t, rfl, ht⟩ := hv
      obtain ⟨hl, hu⟩ := best_in hW2 hb
      rw [withA_len] at hl
      refine ⟨_, rfl, rfl, _, rfl, iteF ⟨_, rfl, _, rfl, a, t, m, l, rfl, hS.same s12, hW, .inl (.inl ht), hl, hu, fun H3 s3 => ⟨(by show 1 ≤ sizeLine; decide), fun r hr => Out.new q (v := .number (m.soldSeats l)) ?_ hS (s12.trans s3) hr rfl⟩⟩⟩
      rw [run]
      show (_, match (m.withAssignment i x).best 0 with | none => Response.error (-33) | some a => Response.number ((m.withAssignment i x).soldSeats a)) = _
      rw [hb]
      show (_, Response.number ((m.withAssignment i x).soldSeats l)) = _
      rw [sold_same (withA_seats m i x)]
theorem ok_sic {f : Addr} {fd : FuncData} (F : Fun K "sold_if_closed" "sold_if_closed" sSic f fd) (Z : Cs mg) (GA : Fn P w K mg base "sold_if_assigned" 6 ["stadium", "block", "assignment"] (spSia C)) : FnOk P w K mg base CX0 7 f fd ["stadium", "block"] (spOp1 C .soldIfClosed) := by
  refine F.ok scSic (fun vs H Q E h => ?_) (fun cdv A outer s H vs Q E hr h => ?_)
  · obtain ⟨a, m, i, rfl, _⟩ := h
    rfl
  · obtain ⟨a, m, i, rfl, hS, hW, q⟩ := h
    refine ⟨_, pss_one (ps_ret (pe_fn GA hr (pa_cons (pv 0) (pa_cons (pv 1) (pa_cons (pe_gi Z.closed) pa_nil))))), ?_⟩
    exact ⟨_, rfl, _, rfl, a, m, i, 3, rfl, hS, hW, fun H' r h1 h2 h3 h4 => q H' r (by rw [run_closed]; exact h1) h2 h3 (by rw [run_closed]; exact h4)⟩
/-! ### fix_best -/
def fixM (m : Stand) (l : List Nat) : Stand := { m with blocks := (m.blocks.zip l).map fun q => { q.1 with assignment := if q.2 = 0 then 3 else q.2 } }
def fx (x : Nat) : Nat := if x = 0 then 3 else x
def spFa : Sp := fun vs H Q _ => ∃ (x : Nat), vs = [.int x] ∧ Q (.int (fx x : Nat)) H
theorem ok_fa {f : Addr} {fd : FuncData} (F : Fun K "fixed_assignment" "fixed_assignment" sFa f fd) (Z : Cs mg) : FnOk P w K mg base CX0 1 f fd ["use"] spFa := by
  refine F.ok scFa (fun vs H Q E h => ?_) (fun cdv A outer s H vs Q E hr h => ?_)
  · obtain ⟨x, rfl, _⟩ := h
    rfl
  · obtain ⟨x, rfl, q⟩ := h
    refine ⟨_, pss_cons (ps_if (pt_cmpR op_eq (pv 0) (pe_gi Z.empty) (nomark _)) (pss_one (ps_ret (pe_gi Z.closed))) pss_nil)
      (pss_one (ps_ret (pv 0))), ?_⟩
    refine ⟨_, rfl, rfl, _, rfl, iteD (fun h => ?_) (fun h => ?_)⟩
    · have e : x = 0 := vint.mp h
      rw [show fx x = 3 from if_pos e] at q
      exact q
    · have e : ¬ x = 0 := fun e => h (by rw [e]; rfl)
      rw [show fx x = x from if_neg e] at q
      exact ⟨_, rfl, q⟩
theorem ok_fb {f : Addr} {fd : FuncData} (F : Fun K "fix_best" "fix_best" sFb f fd) (T : Txt K mg C) (Z : Cs mg) (GF : Fn P w K mg base "find_best" 5 ["stadium", "min_away"] (spBest C)) (GS : Fn P w K mg base "count_sold" 2 ["stadium", "allocation"] (spSold C K)) (GA : Fn P w K mg base "fixed_assignment" 1 ["use"] spFa) : FnOk P w K mg base CX0 6 f fd ["stadium"] (spOp0 C .fixBest) := by
  refine F.ok scFb (fun vs H Q E h => ?_) (fun cdv A outer s H vs Q E hr h => ?_)
  · obtain ⟨a, m, rfl, _⟩ := h
    rfl
  · obtain ⟨a, m, rfl, hS, hW, q⟩ := h
    refine ⟨_, pss_cons (ps_set (i := 1) scFb.nd rfl (.inl rfl) (pe_fn GF hr (pa_cons (pv 0) (pa_cons pe_int pa_nil))))
      (pss_cons (ps_if (pt_cmpR op_isN (pv 1) pe_non (nomark _)) (pss_one (ps_ret (pe_lst (pa_cons (pe_gi Z.noAlloc) pa_nil)))) pss_nil)
      (pss_cons (ps_fld (pv 0) (pe_lc (own := [("use", 2)]) (g := gName 2) (by rfl) scFb.nd (pi_list (pv 1))
        (blkOk_by (own := [("use", 2)]) (N := ["stadium", "best", "use"]) (sc := defScope sFb) (by decide +kernel)) (fun _ _ _ _ _ => pg_name (i := 2) scFb.nd rfl (Or.inl rfl))
        (fun _ _ _ _ _ => pts_nil) (fun _ _ _ _ _ => pe_fn GA (hr.mono (by decide)) (pa_cons (pv 2) pa_nil))) rfl)
      (pss_one (ps_ret (pe_lst (pa_cons (pe_fn GS (hr.mono (by decide)) (pa_cons (pv 0) (pa_cons (pv 1) pa_nil))) pa_nil)))))), ?_⟩
    refine ⟨_, rfl, a, m, 0, rfl, hS, hW, fun H1 v s1 hv => ?_⟩
    cases hb : m.best 0 with
    | none =>
      rw [hb] at hv
      have hv : v = .non := hv
      subst hv
      refine ⟨_, rfl, rfl, _, rfl, iteT ⟨(by show 1 ≤ sizeLine; decide), fun r hr => Out.new q (v := .error (-33)) ?_ hS s1 hr rfl⟩⟩
      show (match m.best 0 with | none => (_, Response.error (-33)) | some a => _) = _
      rw [hb]
    | some l =>
      rw [hb] at hv
      obtain ⟨t, rfl, ht⟩ := hv
      obtain ⟨hl, hu⟩ := best_in hW hb
      have h6 := hW.six
      have run : (Planner.mk m).run .fixBest = (⟨fixM m l⟩, .number (m.soldSeats l)) := by
        show (match m.best 0 with | none => (_, Response.error (-33)) | some a => ((⟨fixM m a⟩ : Planner), Response.number (m.soldSeats a))) = _
        rw [hb]
      have hW2 := wf_run hW .fixBest
      rw [run] at hW2
      obtain ⟨s0, t0, p0, ts, D⟩ := hS
      have D1 := D.same s1
      obtain ⟨dx, hi⟩ := D.ins
      refine ⟨_, rfl, rfl, _, rfl, iteF ⟨_, rfl, t, rfl, ⟨_, .inl (.inl ht)⟩, fun L hL => ?_⟩⟩
      have sL := same_upd (o := .lst []) hL
      refine lc_list (K := K) (a := t) (xs := natsV l) (fun k H' => Same H1 H' ∧ H' L = some (.lst (natsV ((l.take k).map fx)))) ⟨sL, upd_same⟩ (fun i H' _ hh => .inl (.inl (hh.1 _ _ ht))) ?_ ?_
      · rintro k y H3 hk ⟨e3, hus⟩
        obtain ⟨b, hb, rfl⟩ := map_at hk
        have hkl : k < l.length := (List.getElem?_eq_some_iff.mp hb).1
        refine ⟨rfl, ?_⟩
        unfold tYes
        refine iteT ?_
        refine ⟨_, rfl, b, rfl, _, hus, ?_, ?_, ?_⟩
        · rw [natsV_len, List.length_map, List.length_take]
          exact Nat.lt_of_le_of_lt (by omega : _ ≤ 6) (by decide)
        · intro c o hc
          rw [upd_ne (ne_of_none hc hL)]
          exact e3 _ _ hc
        · rw [upd_same, take_more hb, List.map_append]
          exact congrArg (fun z => some (HO.lst z)) (natsV_snoc _ _).symm
      · rintro H3 ⟨e3, hus⟩
        rw [natsV_len, List.take_length] at hus
        have D3 := D1.same e3
        obtain ⟨dx3, hj3⟩ := D3.ins
        refine ⟨_, rfl, a, C, dx3, _, rfl, hj3, T.cl, T.nT, (by show 3 < 1000; decide), ?_⟩
        rw [fS_put_t]
        have has : ∀ {b xs}, H3 b = some (.lst xs) → b ≠ a := fun hb => ne_of hb hj3 (by intro z; cases z)
        have s13 := s1.trans e3
        have hL0 : H L = none := s1.free hL
        have seatsEq : (fixM m l).blocks.map Block.seats = m.blocks.map Block.seats := by
          show ((m.blocks.zip l).map _).map _ = _
          rw [List.map_map]
          show (m.blocks.zip l).map (Block.seats ∘ Prod.fst) = _
          rw [← List.map_map, List.map_fst_zip (by omega)]
        have D4 : At C (upd H3 a (.ins C dx3 (fS s0 L p0))) a s0 L p0 ts (fixM m l) := by
          refine ⟨⟨dx3, upd_same⟩, ?_, ?_, ?_, ?_, ne_of_none D1.hs hL, D.sp, (ne_of_none D1.hp hL).symm⟩
          · rw [upd_ne (has D3.hs), D3.hs]
            refine congrArg (fun z => some (HO.lst z)) ?_
            have := congrArg (fun z : List Nat => z.map fun (n : Nat) => V.int n) seatsEq.symm
            rw [List.map_map, List.map_map] at this
            exact this
          · rw [upd_ne (has hus), hus]
            refine congrArg (fun z => some (HO.lst z)) ?_
            show natsV (l.map fx) = (List.map _ (m.blocks.zip l)).map _
            rw [List.map_map]
            show _ = (m.blocks.zip l).map ((fun n : Nat => V.int (fx n : Nat)) ∘ Prod.snd)
            rw [← List.map_map, List.map_snd_zip (by omega)]
            unfold natsV
            rw [List.map_map]
            rfl
          · rw [upd_ne (has D3.hp)]
            exact D3.hp
          · exact D3.prs.keep fun b xs hb => by
              rw [upd_ne (ne_of hb hj3 (by intro z; cases z))]
              exact hb
        have hlen : (fixM m l).blocks.length = m.blocks.length := by
          show ((m.blocks.zip l).map _).length = _
          rw [List.length_map, List.length_zip]
          omega
        have ht4 : (upd H3 a (.ins C dx3 (fS s0 L p0))) t = some (.lst (natsV l)) := by
          have := e3 _ _ ht
          rw [upd_ne (has this)]
          exact this
        refine ⟨_, rfl, _, rfl, a, t, _, l, rfl, ⟨s0, L, p0, ts, D4⟩, hW2, .inl (.inl ht4), hl.trans hlen.symm, hu, fun H5 e5 => ⟨(by show 1 ≤ sizeLine; decide), fun r hr => ?_⟩⟩
        have n4 : ∀ b, (upd H3 a (.ins C dx3 (fS s0 L p0))) b = none → H b = none := fun b hb => s13.free (none_upd hj3 b hb)
        have D6 := D4.same (e5.trans (same_upd (o := .lst [.int ((fixM m l).soldSeats l : Nat)]) hr))
        refine q _ r ?_ ?_ (n4 r (e5.free hr)) ?_
        · rw [run]
          exact ⟨s0, L, p0, ts, D6⟩
        · refine Kept.store D D6 (.inl rfl) (.inr hL0) (.inl rfl) fun b o hb n1 n2 n3 n4 => ?_
          refine same_upd hr b o (e5 b o ?_)
          rw [upd_ne n1]
          exact s13 _ _ hb
        · rw [upd_same, run, sold_same seatsEq]
          rfl
end
end SB

set_option Elab.async false
set_option linter.all false
set_option maxRecDepth 100000
set_option maxHeartbeats 4000000
namespace SB
open PySem PySem.Spec PyProof.Rows L2
/-! ### defs, methods and constants as they stand behind the top -/
def DefAt (K : PySem.W.Frag) (mg : Str → Option Value) (x : Str) (st : Stmt) : Prop := ∃ f fd, mg x = some (.ref f) ∧ Fun K x x st f fd
def MthAt (K : PySem.W.Frag) (C : Addr) (m q : Str) (st : Stmt) : Prop := ∃ f fd, Meth K C m f ∧ Fun K m q st f fd
/-- a tuple that is a constant of the top -/
def TupObj (o : Obj) (xs : List V) : Prop := ∃ its n, o.cls = .type "tuple" ∧ o.data = .seq its n ∧ its.size ≤ sizeLine ∧ Vals xs its.toList
def GT (K : PySem.W.Frag) (mg : Str → Option Value) (x : Str) (xs : List V) : Prop := ∃ a, mg x = some (.ref a) ∧ ∀ H : Hp, SqT K H a xs
theorem gi_of {K : PySem.W.Frag} {h : Heap} {mg : Str → Option Value} {x : Str} {i : Int} {v : Value} (X : K.In h) (G : h.Ns mainGlobals mg) (e : PySem.W.nsIn K mainGlobals x = some (some v)) (y : ∃ t, v = .int i t) : GI mg x i := by
  obtain ⟨t, rfl⟩ := y
  exact ⟨t, PySem.W.mg_of X G e⟩
theorem gt_of {K : PySem.W.Frag} {h : Heap} {mg : Str → Option Value} {x : Str} {a : Addr} {o : Obj} {xs : List V} (X : K.In h) (G : h.Ns mainGlobals mg) (e : PySem.W.nsIn K mainGlobals x = some (some (.ref a))) (l : K.lookup a = some o) (y : TupObj o xs) : GT K mg x xs := by
  obtain ⟨its, n, h1, h2, h3, h4⟩ := y
  exact ⟨a, PySem.W.mg_of X G e, fun H => .inr ⟨o, its, n, l, h1, h2, h3, h4⟩⟩
section
variable {P : Program} {w : World} {K : PySem.W.Frag} {mg : Str → Option Value} {base : Heap} {C : Addr} {k : Nat} {sp : Sp} {ps : List Str}
theorem DefAt.fn {x : Str} {st : Stmt} (D : DefAt K mg x st) (ok : ∀ f fd, Fun K x x st f fd → FnOk P w K mg base CX0 k f fd ps sp)
    (hb : ∀ (kV doc pm : Value) (an : Option Addr) (cdv ct : Value) (us : List Value), us.length = ps.length → bindArgs (PySem.W.fnOf x x (defArgs st) (defBody st) (defScope st) .none kV doc pm an cdv ct) ⟨us, []⟩ = pure (ps.zip us)) : Fn P w K mg base x k ps sp := by
  obtain ⟨f, fd, h, F⟩ := D
  exact ⟨f, fd, h, F.kp, F.binds hb, ok f fd F⟩
theorem MthAt.mt {m q : Str} {st : Stmt} (D : MthAt K C m q st) (ok : ∀ f fd, Fun K m q st f fd → FnOk P w K mg base CX0 k f fd ps sp)
    (hb : ∀ (kV doc pm : Value) (an : Option Addr) (cdv ct : Value) (us : List Value), us.length = ps.length → bindArgs (PySem.W.fnOf m q (defArgs st) (defBody st) (defScope st) .none kV doc pm an cdv ct) ⟨us, []⟩ = pure (ps.zip us)) : Mt P w K mg base C m k ps sp := by
  obtain ⟨f, fd, h, F⟩ := D
  exact ⟨f, fd, h, F.binds hb, ok f fd F⟩
end
end SB

set_option Elab.async false
set_option linter.all false
set_option maxRecDepth 100000
set_option maxHeartbeats 4000000
namespace SB
open PySem PySem.Spec PyProof.Rows L2
open Kv437 (Stand Block Planner Operation Response)
/-! ### read_call -/
abbrev sRead : Stmt := topS 80
theorem scRead : FnScope ["calls", "start", "number", "end", "call", "lists", "turn", "begin"] ["calls", "start"] (defScope sRead) := ⟨rfl, rfl, rfl, by decide +kernel, rfl, by decide +kernel, by decide +kernel⟩
theorem at_mid {α : Type} (a : List α) (x : α) (b : List α) : (a ++ x :: b)[a.length]? = some x := by
  rw [List.getElem?_append_right (Nat.le_refl _), Nat.sub_self]
  rfl
theorem cut_mid (a x b : List V) (i j : Int) (hi : i = (a.length : Nat)) (hj : j = ((a.length + x.length : Nat) : Int)) : cutV (a ++ (x ++ b)) (some i) (some j) = x := by
  subst hi hj
  have e1 : HT.sIx (a ++ (x ++ b)).length 0 (some ((a.length : Nat) : Int)) = a.length := by
    simp only [HT.sIx]
    rw [if_neg (by omega), Int.toNat_natCast, List.length_append]
    omega
  have e2 : HT.sIx (a ++ (x ++ b)).length (a ++ (x ++ b)).length (some ((a.length + x.length : Nat) : Int)) = a.length + x.length := by
    simp only [HT.sIx]
    rw [if_neg (by omega), Int.toNat_natCast, List.length_append, List.length_append]
    omega
  unfold cutV
  rw [e1, e2, List.drop_left, show a.length + x.length - a.length = x.length by omega, List.take_left]
theorem mapV_nats (l : List Nat) : (nums l).map V.int = natsV l := (natsV_ints l).symm
theorem tab_at {t : List Nat} {p n : Nat} (h : t[p]? = some n) : atI (natsV t) (p : Int) = some (.int (n : Nat)) := by
  have hl := (List.getElem?_eq_some_iff.mp h).1
  refine at_of (j := p) rfl ?_
  unfold natsV
  rw [List.getElem?_map, h]
  rfl
theorem pe_gt {X : Cx} {x : Str} {a : Addr} {pos : Pos} (h : X.mg x = some (.ref a)) (hg : Gl X x := by rfl) (hd : (x == ("__debug__" : Str)) = false := by decide) : PE X (.Name x pos) (tC (.ref a)) := pe_glob hg h rfl hd
section
variable {P : Program} {w : World} {K : PySem.W.Frag} {mg : Str → Option Value} {base : Heap} {C : Addr}
def spRead (K : PySem.W.Frag) : Sp := fun vs H Q _ => ∃ (cl : Addr) (l : List Int) (i p : Nat) (ns : List Nat) (rs : List (List Nat)) (a b : List Int), vs = [.ref cl, .int i] ∧ SqL K H cl (l.map V.int) ∧ l.length ≤ 21248 ∧ l = a ++ (flat p ns rs ++ b) ∧ i = a.length ∧ numTab[p]? = some ns.length ∧ lstTab[p]? = some rs.length ∧
  ∀ (H' : Hp) (q lc ll : Addr) (ts : List Addr) (e : Int), Same H H' → H' q = some (.tup [.ref lc, .ref ll, .int e]) → e = ((i + (flat p ns rs).length : Nat) : Int) → H' lc = some (.lst (natsV (p :: ns))) → H' ll = some (.lst (ts.map V.ref)) → Als H' ts rs → Q (.ref q) H'
theorem ok_read {f : Addr} {fd : FuncData} (F : Fun K "read_call" "read_call" sRead f fd) (T : Txt K mg C) (TN : GT K mg "NUMBER_COUNTS" (natsV numTab)) (TL : GT K mg "LIST_COUNTS" (natsV lstTab)) : FnOk P w K mg base CX0 1 f fd ["calls", "start"] (spRead K) := by
  refine F.ok scRead (fun vs H Q E h => ?_) (fun cdv A outer s H vs Q E hr h => ?_)
  · obtain ⟨cl, l, i, p, ns, rs, a, b, rfl, _⟩ := h
    rfl
  · obtain ⟨cl, l, i, p, ns, rs, a, b, rfl, hL, hfew, hl, rfl, hn, hk, q⟩ := h
    obtain ⟨tn, gtn, htn⟩ := TN
    obtain ⟨tl, gtl, htl⟩ := TL
    refine ⟨_, pss_cons (ps_set (i := 2) scRead.nd rfl (.inl rfl) (pe_ix ix_list (pv 0) (pv 1) (fun _ _ => rfl)))
      (pss_cons (ps_set (i := 3) scRead.nd rfl (.inl rfl) (pe_op op_add (pe_op op_add (pv 1) pe_int) (pe_ix ix_tup (pe_gt gtn) (pv 2) (fun _ _ => rfl))))
      (pss_cons (ps_set (i := 4) scRead.nd rfl (.inl rfl) (pe_slice sl_list (pv 0) (po_some (pv 1)) (po_some (pv 3))))
      (pss_cons (ps_set (i := 5) scRead.nd rfl (.inl rfl) (pe_lst pa_nil))
      (pss_cons (ps_for PassesOwn.never rfl (pi_range1 (by rfl) T.range (pa_cons (pe_ix ix_tup (pe_gt gtl) (pv 2) (fun _ _ => rfl)) pa_nil)) (pg_name (i := 6) scRead.nd rfl (.inl rfl))
        (pss_cons (ps_set (i := 7) scRead.nd rfl (.inl rfl) (pe_op op_add (pv 3) pe_int))
        (pss_cons (ps_set (i := 3) scRead.nd rfl (.inl rfl) (pe_op op_add (pv 7) (pe_ix ix_list (pv 0) (pv 3) (fun _ _ => rfl))))
        (pss_one (ps_expr (pe_bm PySem.F.plainAttrs_list PySem.F.slot_list_append PySem.F.type_list_append mt_append (pv 5) (pa_cons (pe_slice sl_list (pv 0) (po_some (pv 7)) (po_some (pv 3))) pa_nil)))))))
      (pss_one (ps_ret (pe_tup (pa_cons (pv 4) (pa_cons (pv 5) (pa_cons (pv 3) pa_nil)))))))))), ?_⟩
    -- the list as values
    have hm : l.map V.int = a.map V.int ++ (natsV (p :: ns) ++ ((PyFlat.putRows (rs.map nums)).map V.int ++ b.map V.int)) := by
      rw [hl]
      unfold flat
      rw [List.map_append, List.map_append, List.map_append, mapV_nats, List.append_assoc]
    have hal : (a.map V.int).length = a.length := List.length_map _
    have h0 : atI (l.map V.int) ((a.length : Nat) : Int) = some (.int (p : Nat)) := by
      refine at_of (j := a.length) rfl ?_
      rw [hm, ← hal]
      exact at_mid _ _ _
    refine ⟨_, rfl, _, rfl, cl, _, _, _, rfl, rfl, hL, h0, ?_⟩
    refine ⟨_, rfl, _, _, rfl, rfl, _, rfl, tn, _, _, _, rfl, rfl, htn H, tab_at hn, _, _, rfl, rfl, ?_⟩
    have ecall : cutV (l.map V.int) (some ((a.length : Nat) : Int)) (some (((a.length : Nat) : Int) + 1 + ((ns.length : Nat) : Int))) = natsV (p :: ns) := by
      rw [hm]
      refine cut_mid _ _ _ _ _ (by rw [hal]) ?_
      rw [hal, natsV_len, List.length_cons]
      omega
    refine ⟨_, rfl, _, rfl, _, rfl, _, rfl, _, rfl, cl, _, rfl, hL, fun lc nlc => ?_⟩
    rw [ecall]
    have s1 := same_upd (o := .lst (natsV (p :: ns))) nlc
    refine ⟨Nat.zero_le _, fun ll nll => ?_⟩
    have s2 := same_upd (o := .lst []) nll
    have s12 := s1.trans s2
    have ll0 : H ll = none := s1.free nll
    have lcl : lc ≠ ll := ne_of_none upd_same nll
    have hrl : rs.length ≤ 22 := by
      have hp := (List.getElem?_eq_some_iff.mp hk).1
      have : ∀ x ∈ lstTab, x ≤ 22 := by decide
      exact this _ (List.mem_of_getElem? hk)
    refine ⟨_, rfl, tl, _, _, _, rfl, rfl, htl _, tab_at hk, rs.length, rfl, by omega, by omega, ?_⟩
    refine for_range (lo := 0) (n := rs.length) (fun j σ H' => ∃ (e : Int) (v6 v7 : Option V) (us : List Addr), σ = [some (.ref cl), some (.int (a.length : Nat)), some (.int (p : Nat)), some (.int e), some (.ref lc), some (.ref ll), v6, v7] ∧ e = ((a.length + 1 + ns.length + (PyFlat.putRows ((rs.take j).map nums)).length : Nat) : Int) ∧ Same H H' ∧ H' lc = some (.lst (natsV (p :: ns))) ∧ H' ll = some (.lst (us.map V.ref)) ∧ us.length = j ∧ ll ∉ us ∧ Als H' us (rs.take j))
      ⟨_, none, none, [], rfl, ?_, s12, s2 _ _ upd_same, upd_same, rfl, by simp, .nil⟩ ?_ ?_
    · show _ = ((a.length + 1 + ns.length + 0 : Nat) : Int)
      omega
    · rintro j σ H2 hj ⟨e, v6, v7, us, rfl, he, e2, hlc2, hll2, hul, hnu, hA⟩
      have hr1 : rs[j]? = some rs[j] := List.getElem?_eq_getElem hj
      generalize rs[j] = r at hr1
      obtain ⟨hra, hrb⟩ := rows_at hr1
      -- the row's place
      have hm2 : l.map V.int = (a.map V.int ++ natsV (p :: ns) ++ (PyFlat.putRows ((rs.take j).map nums)).map V.int) ++ (.int (r.length : Nat) :: (natsV r ++ ((PyFlat.putRows ((rs.drop (j + 1)).map nums)).map V.int ++ b.map V.int))) := by
        rw [hm, hra, List.map_append, List.map_cons, List.map_append, mapV_nats]
        simp only [List.append_assoc, List.cons_append]
      have hbl : (a.map V.int ++ natsV (p :: ns) ++ (PyFlat.putRows ((rs.take j).map nums)).map V.int).length = a.length + 1 + ns.length + (PyFlat.putRows ((rs.take j).map nums)).length := by
        rw [List.length_append, List.length_append, hal, natsV_len, List.length_map, List.length_cons]
        omega
      have hat : atI (l.map V.int) e = some (.int (r.length : Nat)) := by
        refine at_of (j := a.length + 1 + ns.length + (PyFlat.putRows ((rs.take j).map nums)).length) he ?_
        rw [hm2, ← hbl]
        exact at_mid _ _ _
      have ecut : cutV (l.map V.int) (some (e + 1)) (some (e + 1 + ((r.length : Nat) : Int))) = natsV r := by
        rw [hm2, show ∀ (x : List V) (y : V) (z : List V), x ++ y :: z = (x ++ [y]) ++ z from fun x y z => by rw [List.append_assoc]; rfl]
        refine cut_mid _ _ _ _ _ ?_ ?_
        · rw [List.length_append, hbl, he]
          show _ = ((_ + 1 : Nat) : Int)
          omega
        · rw [List.length_append, hbl, he, natsV_len]
          show _ = ((_ + 1 + r.length : Nat) : Int)
          omega
      refine ⟨_, rfl, _, _, rfl, rfl, ?_⟩
      refine ⟨_, rfl, _, rfl, _, rfl, cl, _, _, _, rfl, rfl, e2.seq hL, hat, _, _, rfl, rfl, ?_⟩
      refine ⟨_, rfl, .inl ⟨rfl, _, .inl (.inl hll2)⟩, _, rfl, _, rfl, _, rfl, _, rfl, _, rfl, cl, _, rfl, e2.seq hL, fun x nx => ?_⟩
      rw [ecut]
      have s3 := same_upd (o := .lst (natsV r)) nx
      have nlx : ll ≠ x := ne_of_none hll2 nx
      refine ⟨ll, _, _, rfl, rfl, s3 _ _ hll2, ?_, ?_⟩
      · rw [List.length_map, hul]
        exact Nat.lt_of_le_of_lt (by omega : _ ≤ 22) (by decide : 22 < sizeLine)
      refine ⟨_, _, _, us ++ [x], rfl, ?_, ?_, ?_, ?_, ?_, ?_, ?_⟩
      · rw [hrb, he]
        omega
      · intro c o hc
        rw [upd_ne (ne_of_none hc ll0)]
        exact s3 _ _ (e2 _ _ hc)
      · rw [upd_ne lcl]
        exact s3 _ _ hlc2
      · rw [upd_same, List.map_append]
        rfl
      · rw [List.length_append, hul]
        rfl
      · intro hm
        rcases List.mem_append.mp hm with hm | hm
        · exact hnu hm
        · exact nlx (List.mem_singleton.mp hm)
      · rw [take_more hr1]
        have kb : But ll (upd H2 x (.lst (natsV r))) (upd (upd H2 x (.lst (natsV r))) ll (.lst (us.map V.ref ++ [.ref x]))) := fun b o hb n => by
          rw [upd_ne n]
          exact hb
        refine Als.snoc ?_ ((hA.same s3).but kb hnu)
        rw [upd_ne nlx.symm, upd_same]
    · rintro σ H2 ⟨e, v6, v7, us, rfl, he, e2, hlc2, hll2, hul, hnu, hA⟩
      rw [List.take_length] at he hA
      refine ⟨_, rfl, _, rfl, _, rfl, (by show 3 ≤ sizeLine; decide), fun x nx => ?_⟩
      have s3 := same_upd (o := .tup [.ref lc, .ref ll, .int e]) nx
      refine q _ x lc ll us e (e2.trans s3) upd_same ?_ (s3 _ _ hlc2) (s3 _ _ hll2) (hA.same s3)
      rw [he, flat_len]
      omega
end
end SB

set_option Elab.async false
set_option linter.all false
set_option maxRecDepth 100000
set_option maxHeartbeats 4000000
namespace SB
open PySem PySem.Spec PyProof.Rows L2
open Kv437 (Stand Block Planner Operation Response)
/-! ### one call, by its number -/
abbrev sCall : Stmt := topS 81
abbrev sChg : Stmt := topS 82
abbrev sLst : Stmt := topS 83
abbrev sQry : Stmt := topS 84
theorem scCall : FnScope ["stadium", "call", "lists", "number"] ["stadium", "call", "lists"] (defScope sCall) := ⟨rfl, rfl, rfl, by decide +kernel, rfl, by decide +kernel, by decide +kernel⟩
theorem scChg : FnScope ["stadium", "call", "number"] ["stadium", "call"] (defScope sChg) := ⟨rfl, rfl, rfl, by decide +kernel, rfl, by decide +kernel, by decide +kernel⟩
theorem scLst : FnScope ["stadium", "number", "lists"] ["stadium", "number", "lists"] (defScope sLst) := ⟨rfl, rfl, rfl, by decide +kernel, rfl, by decide +kernel, by decide +kernel⟩
theorem scQry : FnScope ["stadium", "call", "number"] ["stadium", "call"] (defScope sQry) := ⟨rfl, rfl, rfl, by decide +kernel, rfl, by decide +kernel, by decide +kernel⟩
theorem noN {p n : Nat} {A B : Prop} (h : p ≠ n) (b : B) : if decide (V.int (p : Nat) = V.int (n : Nat)) = true then A else B := iteD (fun z => absurd (vint.mp z) h) fun _ => b
theorem isN {p : Nat} {A B : Prop} (a : A) : if decide (V.int (p : Nat) = V.int (p : Nat)) = true then A else B := by
  rw [if_pos (decide_eq_true rfl)]
  exact a
theorem at_zero (x : V) (l : List V) : atI (x :: l) 0 = some x := at_of (j := 0) rfl rfl
/-- the numbers of the calls -/
structure Cp (mg : Str → Option Value) : Prop where
  n0 : GI mg "CREATE" 0
  n1 : GI mg "ADD_BLOCK" 1
  n2 : GI mg "REMOVE_LAST_BLOCK" 2
  n3 : GI mg "SET_SEATS" 3
  n4 : GI mg "ASSIGN" 4
  n5 : GI mg "CONNECT" 5
  n6 : GI mg "DISCONNECT" 6
  n7 : GI mg "SWAP_TEAMS" 7
  n8 : GI mg "LIST_BLOCKS" 8
  n9 : GI mg "NEIGHBORS" 9
  n10 : GI mg "BEST_ALLOCATION" 10
  n11 : GI mg "EMPTY_SEATS" 11
  n12 : GI mg "BEST_WITH_AWAY" 12
  n13 : GI mg "MAX_AWAY" 13
  n14 : GI mg "IS_VALID" 14
  n15 : GI mg "SOLD_SEATS" 15
  n16 : GI mg "JOIN" 16
  n18 : GI mg "SOLD_IF_ASSIGNED" 18
  n19 : GI mg "SOLD_IF_CLOSED" 19
  n20 : GI mg "COUNT_VALID" 20
  n21 : GI mg "FIX_BEST" 21
section
variable {P : Program} {w : World} {K : PySem.W.Frag} {mg : Str → Option Value} {base : Heap} {C : Addr}
def spChg (C : Addr) : Sp := fun vs H Q _ => ∃ (a lc : Addr) (m : Stand) (p : Nat) (ns : List Nat) (op : Operation), vs = [.ref a, .ref lc] ∧ Stad C H a m ∧ WF m ∧ H lc = some (.lst (natsV (p :: ns))) ∧ CodedN p ns [] op ∧ ((1 ≤ p ∧ p ≤ 7) ∨ p = 21) ∧ Out C H a m op Q
def spQry (C : Addr) : Sp := fun vs H Q _ => ∃ (a lc : Addr) (m : Stand) (p : Nat) (ns : List Nat) (op : Operation), vs = [.ref a, .ref lc] ∧ Stad C H a m ∧ WF m ∧ H lc = some (.lst (natsV (p :: ns))) ∧ CodedN p ns [] op ∧ (8 ≤ p ∧ p ≠ 21) ∧ Out C H a m op Q
def spLst (C : Addr) : Sp := fun vs H Q _ => ∃ (a ll : Addr) (m : Stand) (p : Nat) (ns : List Nat) (ts : List Addr) (rs : List (List Nat)) (op : Operation), vs = [.ref a, .int p, .ref ll] ∧ Stad C H a m ∧ WF m ∧ H ll = some (.lst (ts.map V.ref)) ∧ Als H ts rs ∧ CodedN p ns rs op ∧ rs ≠ [] ∧ Out C H a m op Q
theorem ok_chg {f : Addr} {fd : FuncData} (F : Fun K "answer_change" "answer_change" sChg f fd) (N : Cp mg) (GAdd : Fn P w K mg base "add_block" 2 ["stadium", "seats"] (spAdd C)) (GRem : Fn P w K mg base "remove_last_block" 2 ["stadium"] (spRem C)) (GSet : Fn P w K mg base "set_seats" 2 ["stadium", "block", "seats"] (spSet C)) (GAsg : Fn P w K mg base "assign" 2 ["stadium", "block", "assignment"] (spAsg C)) (GCon : Fn P w K mg base "connect" 2 ["stadium", "i", "j"] (spCon C)) (GDis : Fn P w K mg base "disconnect" 2 ["stadium", "i", "j"] (spDis C)) (GSwp : Fn P w K mg base "swap_teams" 2 ["stadium"] (spSwap C)) (GFb : Fn P w K mg base "fix_best" 6 ["stadium"] (spOp0 C .fixBest)) : FnOk P w K mg base CX0 7 f fd ["stadium", "call"] (spChg C) := by
  refine F.ok scChg (fun vs H Q E h => ?_) (fun cdv A outer s H vs Q E hr h => ?_)
  · obtain ⟨a, lc, m, p, ns, op, rfl, _⟩ := h
    rfl
  · obtain ⟨a, lc, m, p, ns, op, rfl, hS, hW, hL, hC, hp, q⟩ := h
    refine ⟨_, pss_cons (ps_set (i := 2) scChg.nd rfl (.inl rfl) (pe_ix ix_list (pv 1) pe_int (fun _ _ => rfl)))
      (pss_cons (ps_if (pt_cmpR op_eq (pv 2) (pe_gi N.n1) (nomark _)) (pss_one (ps_ret (pe_fn GAdd (hr.mono (by decide)) (pa_cons (pv 0) (pa_cons (pe_ix ix_list (pv 1) pe_int (fun _ _ => rfl)) pa_nil))))) pss_nil)
      (pss_cons (ps_if (pt_cmpR op_eq (pv 2) (pe_gi N.n2) (nomark _)) (pss_one (ps_ret (pe_fn GRem (hr.mono (by decide)) (pa_cons (pv 0) pa_nil)))) pss_nil)
      (pss_cons (ps_if (pt_cmpR op_eq (pv 2) (pe_gi N.n3) (nomark _)) (pss_one (ps_ret (pe_fn GSet (hr.mono (by decide)) (pa_cons (pv 0) (pa_cons (pe_ix ix_list (pv 1) pe_int (fun _ _ => rfl)) (pa_cons (pe_ix ix_list (pv 1) pe_int (fun _ _ => rfl)) pa_nil)))))) pss_nil)
      (pss_cons (ps_if (pt_cmpR op_eq (pv 2) (pe_gi N.n4) (nomark _)) (pss_one (ps_ret (pe_fn GAsg (hr.mono (by decide)) (pa_cons (pv 0) (pa_cons (pe_ix ix_list (pv 1) pe_int (fun _ _ => rfl)) (pa_cons (pe_ix ix_list (pv 1) pe_int (fun _ _ => rfl)) pa_nil)))))) pss_nil)
      (pss_cons (ps_if (pt_cmpR op_eq (pv 2) (pe_gi N.n5) (nomark _)) (pss_one (ps_ret (pe_fn GCon (hr.mono (by decide)) (pa_cons (pv 0) (pa_cons (pe_ix ix_list (pv 1) pe_int (fun _ _ => rfl)) (pa_cons (pe_ix ix_list (pv 1) pe_int (fun _ _ => rfl)) pa_nil)))))) pss_nil)
      (pss_cons (ps_if (pt_cmpR op_eq (pv 2) (pe_gi N.n6) (nomark _)) (pss_one (ps_ret (pe_fn GDis (hr.mono (by decide)) (pa_cons (pv 0) (pa_cons (pe_ix ix_list (pv 1) pe_int (fun _ _ => rfl)) (pa_cons (pe_ix ix_list (pv 1) pe_int (fun _ _ => rfl)) pa_nil)))))) pss_nil)
      (pss_cons (ps_if (pt_cmpR op_eq (pv 2) (pe_gi N.n7) (nomark _)) (pss_one (ps_ret (pe_fn GSwp (hr.mono (by decide)) (pa_cons (pv 0) pa_nil)))) pss_nil)
      (pss_one (ps_ret (pe_fn GFb hr (pa_cons (pv 0) pa_nil))))))))))), ?_⟩
    refine ⟨_, rfl, lc, _, _, _, rfl, rfl, .inl (.inl hL), at_zero _ _, ?_⟩
    cases hC with
    | create =>
      exact absurd hp (by decide)
    | addBlock x =>
      exact ⟨_, rfl, rfl, _, rfl, isN (p := 1) ⟨_, rfl, _, rfl, lc, _, _, _, rfl, rfl, .inl (.inl hL), rfl, a, m, x, rfl, hS, hW, q⟩⟩
    | removeLastBlock =>
      exact ⟨_, rfl, rfl, _, rfl, noN (n := 1) (by decide) ⟨_, rfl, rfl, _, rfl, isN (p := 2) ⟨_, rfl, a, m, rfl, hS, hW, q⟩⟩⟩
    | setSeats i x =>
      exact ⟨_, rfl, rfl, _, rfl, noN (n := 1) (by decide) ⟨_, rfl, rfl, _, rfl, noN (n := 2) (by decide) ⟨_, rfl, rfl, _, rfl, isN (p := 3) ⟨_, rfl, _, rfl, lc, _, _, _, rfl, rfl, .inl (.inl hL), rfl, _, rfl, lc, _, _, _, rfl, rfl, .inl (.inl hL), rfl, a, m, i, x, rfl, hS, hW, q⟩⟩⟩⟩
    | assign i x =>
      exact ⟨_, rfl, rfl, _, rfl, noN (n := 1) (by decide) ⟨_, rfl, rfl, _, rfl, noN (n := 2) (by decide) ⟨_, rfl, rfl, _, rfl, noN (n := 3) (by decide) ⟨_, rfl, rfl, _, rfl, isN (p := 4) ⟨_, rfl, _, rfl, lc, _, _, _, rfl, rfl, .inl (.inl hL), rfl, _, rfl, lc, _, _, _, rfl, rfl, .inl (.inl hL), rfl, a, m, i, x, rfl, hS, hW, q⟩⟩⟩⟩⟩
    | connect i j =>
      exact ⟨_, rfl, rfl, _, rfl, noN (n := 1) (by decide) ⟨_, rfl, rfl, _, rfl, noN (n := 2) (by decide) ⟨_, rfl, rfl, _, rfl, noN (n := 3) (by decide) ⟨_, rfl, rfl, _, rfl, noN (n := 4) (by decide) ⟨_, rfl, rfl, _, rfl, isN (p := 5) ⟨_, rfl, _, rfl, lc, _, _, _, rfl, rfl, .inl (.inl hL), rfl, _, rfl, lc, _, _, _, rfl, rfl, .inl (.inl hL), rfl, a, m, i, j, rfl, hS, hW, q⟩⟩⟩⟩⟩⟩
    | disconnect i j =>
      exact ⟨_, rfl, rfl, _, rfl, noN (n := 1) (by decide) ⟨_, rfl, rfl, _, rfl, noN (n := 2) (by decide) ⟨_, rfl, rfl, _, rfl, noN (n := 3) (by decide) ⟨_, rfl, rfl, _, rfl, noN (n := 4) (by decide) ⟨_, rfl, rfl, _, rfl, noN (n := 5) (by decide) ⟨_, rfl, rfl, _, rfl, isN (p := 6) ⟨_, rfl, _, rfl, lc, _, _, _, rfl, rfl, .inl (.inl hL), rfl, _, rfl, lc, _, _, _, rfl, rfl, .inl (.inl hL), rfl, a, m, i, j, rfl, hS, hW, q⟩⟩⟩⟩⟩⟩⟩
    | swapTeams =>
      exact ⟨_, rfl, rfl, _, rfl, noN (n := 1) (by decide) ⟨_, rfl, rfl, _, rfl, noN (n := 2) (by decide) ⟨_, rfl, rfl, _, rfl, noN (n := 3) (by decide) ⟨_, rfl, rfl, _, rfl, noN (n := 4) (by decide) ⟨_, rfl, rfl, _, rfl, noN (n := 5) (by decide) ⟨_, rfl, rfl, _, rfl, noN (n := 6) (by decide) ⟨_, rfl, rfl, _, rfl, isN (p := 7) ⟨_, rfl, a, m, rfl, hS, hW, q⟩⟩⟩⟩⟩⟩⟩⟩
    | listBlocks =>
      exact absurd hp (by decide)
    | neighbors i =>
      exact absurd hp (by decide)
    | bestAllocation =>
      exact absurd hp (by decide)
    | emptySeats =>
      exact absurd hp (by decide)
    | bestWithAway k =>
      exact absurd hp (by decide)
    | maxAway =>
      exact absurd hp (by decide)
    | soldIfAssigned i x =>
      exact absurd hp (by decide)
    | soldIfClosed i =>
      exact absurd hp (by decide)
    | countValid =>
      exact absurd hp (by decide)
    | getState =>
      exact absurd hp (by decide)
    | fixBest =>
      exact ⟨_, rfl, rfl, _, rfl, noN (n := 1) (by decide) ⟨_, rfl, rfl, _, rfl, noN (n := 2) (by decide) ⟨_, rfl, rfl, _, rfl, noN (n := 3) (by decide) ⟨_, rfl, rfl, _, rfl, noN (n := 4) (by decide) ⟨_, rfl, rfl, _, rfl, noN (n := 5) (by decide) ⟨_, rfl, rfl, _, rfl, noN (n := 6) (by decide) ⟨_, rfl, rfl, _, rfl, noN (n := 7) (by decide) ⟨_, rfl, a, m, rfl, hS, hW, q⟩⟩⟩⟩⟩⟩⟩⟩
theorem ok_qry {f : Addr} {fd : FuncData} (F : Fun K "answer_query" "answer_query" sQry f fd) (N : Cp mg) (GLb : Fn P w K mg base "list_blocks" 2 ["stadium"] (spOp0 C .listBlocks)) (GNb : Fn P w K mg base "neighbors" 3 ["stadium", "block"] (spOp1 C .neighbors)) (GBa : Fn P w K mg base "best_allocation" 7 ["stadium"] (spOp0 C .bestAllocation)) (GEs : Fn P w K mg base "empty_seats" 6 ["stadium"] (spOp0 C .emptySeats)) (GBw : Fn P w K mg base "best_with_away" 6 ["stadium", "min_away"] (spOp1 C .bestWithAway)) (GMa : Fn P w K mg base "max_away" 5 ["stadium"] (spOp0 C .maxAway)) (GSa : Fn P w K mg base "sold_if_assigned" 6 ["stadium", "block", "assignment"] (spSia C)) (GSc : Fn P w K mg base "sold_if_closed" 7 ["stadium", "block"] (spOp1 C .soldIfClosed)) (GCv : Fn P w K mg base "count_valid" 5 ["stadium"] (spOp0 C .countValid)) (GGs : Fn P w K mg base "get_state" 2 ["stadium"] (spOp0 C .getState)) : FnOk P w K mg base CX0 8 f fd ["stadium", "call"] (spQry C) := by
  refine F.ok scQry (fun vs H Q E h => ?_) (fun cdv A outer s H vs Q E hr h => ?_)
  · obtain ⟨a, lc, m, p, ns, op, rfl, _⟩ := h
    rfl
  · obtain ⟨a, lc, m, p, ns, op, rfl, hS, hW, hL, hC, hp, q⟩ := h
    refine ⟨_, pss_cons (ps_set (i := 2) scQry.nd rfl (.inl rfl) (pe_ix ix_list (pv 1) pe_int (fun _ _ => rfl)))
      (pss_cons (ps_if (pt_cmpR op_eq (pv 2) (pe_gi N.n8) (nomark _)) (pss_one (ps_ret (pe_fn GLb (hr.mono (by decide)) (pa_cons (pv 0) pa_nil)))) pss_nil)
      (pss_cons (ps_if (pt_cmpR op_eq (pv 2) (pe_gi N.n9) (nomark _)) (pss_one (ps_ret (pe_fn GNb (hr.mono (by decide)) (pa_cons (pv 0) (pa_cons (pe_ix ix_list (pv 1) pe_int (fun _ _ => rfl)) pa_nil))))) pss_nil)
      (pss_cons (ps_if (pt_cmpR op_eq (pv 2) (pe_gi N.n10) (nomark _)) (pss_one (ps_ret (pe_fn GBa hr (pa_cons (pv 0) pa_nil)))) pss_nil)
      (pss_cons (ps_if (pt_cmpR op_eq (pv 2) (pe_gi N.n11) (nomark _)) (pss_one (ps_ret (pe_fn GEs (hr.mono (by decide)) (pa_cons (pv 0) pa_nil)))) pss_nil)
      (pss_cons (ps_if (pt_cmpR op_eq (pv 2) (pe_gi N.n12) (nomark _)) (pss_one (ps_ret (pe_fn GBw (hr.mono (by decide)) (pa_cons (pv 0) (pa_cons (pe_ix ix_list (pv 1) pe_int (fun _ _ => rfl)) pa_nil))))) pss_nil)
      (pss_cons (ps_if (pt_cmpR op_eq (pv 2) (pe_gi N.n13) (nomark _)) (pss_one (ps_ret (pe_fn GMa (hr.mono (by decide)) (pa_cons (pv 0) pa_nil)))) pss_nil)
      (pss_cons (ps_if (pt_cmpR op_eq (pv 2) (pe_gi N.n18) (nomark _)) (pss_one (ps_ret (pe_fn GSa (hr.mono (by decide)) (pa_cons (pv 0) (pa_cons (pe_ix ix_list (pv 1) pe_int (fun _ _ => rfl)) (pa_cons (pe_ix ix_list (pv 1) pe_int (fun _ _ => rfl)) pa_nil)))))) pss_nil)
      (pss_cons (ps_if (pt_cmpR op_eq (pv 2) (pe_gi N.n19) (nomark _)) (pss_one (ps_ret (pe_fn GSc hr (pa_cons (pv 0) (pa_cons (pe_ix ix_list (pv 1) pe_int (fun _ _ => rfl)) pa_nil))))) pss_nil)
      (pss_cons (ps_if (pt_cmpR op_eq (pv 2) (pe_gi N.n20) (nomark _)) (pss_one (ps_ret (pe_fn GCv (hr.mono (by decide)) (pa_cons (pv 0) pa_nil)))) pss_nil)
      (pss_one (ps_ret (pe_fn GGs (hr.mono (by decide)) (pa_cons (pv 0) pa_nil))))))))))))), ?_⟩
    refine ⟨_, rfl, lc, _, _, _, rfl, rfl, .inl (.inl hL), at_zero _ _, ?_⟩
    cases hC with
    | create =>
      exact absurd hp (by decide)
    | addBlock x =>
      exact absurd hp (by decide)
    | removeLastBlock =>
      exact absurd hp (by decide)
    | setSeats i x =>
      exact absurd hp (by decide)
    | assign i x =>
      exact absurd hp (by decide)
    | connect i j =>
      exact absurd hp (by decide)
    | disconnect i j =>
      exact absurd hp (by decide)
    | swapTeams =>
      exact absurd hp (by decide)
    | listBlocks =>
      exact ⟨_, rfl, rfl, _, rfl, isN (p := 8) ⟨_, rfl, a, m, rfl, hS, hW, q⟩⟩
    | neighbors i =>
      exact ⟨_, rfl, rfl, _, rfl, noN (n := 8) (by decide) ⟨_, rfl, rfl, _, rfl, isN (p := 9) ⟨_, rfl, _, rfl, lc, _, _, _, rfl, rfl, .inl (.inl hL), rfl, a, m, i, rfl, hS, hW, q⟩⟩⟩
    | bestAllocation =>
      exact ⟨_, rfl, rfl, _, rfl, noN (n := 8) (by decide) ⟨_, rfl, rfl, _, rfl, noN (n := 9) (by decide) ⟨_, rfl, rfl, _, rfl, isN (p := 10) ⟨_, rfl, a, m, rfl, hS, hW, q⟩⟩⟩⟩
    | emptySeats =>
      exact ⟨_, rfl, rfl, _, rfl, noN (n := 8) (by decide) ⟨_, rfl, rfl, _, rfl, noN (n := 9) (by decide) ⟨_, rfl, rfl, _, rfl, noN (n := 10) (by decide) ⟨_, rfl, rfl, _, rfl, isN (p := 11) ⟨_, rfl, a, m, rfl, hS, hW, q⟩⟩⟩⟩⟩
    | bestWithAway k =>
      exact ⟨_, rfl, rfl, _, rfl, noN (n := 8) (by decide) ⟨_, rfl, rfl, _, rfl, noN (n := 9) (by decide) ⟨_, rfl, rfl, _, rfl, noN (n := 10) (by decide) ⟨_, rfl, rfl, _, rfl, noN (n := 11) (by decide) ⟨_, rfl, rfl, _, rfl, isN (p := 12) ⟨_, rfl, _, rfl, lc, _, _, _, rfl, rfl, .inl (.inl hL), rfl, a, m, k, rfl, hS, hW, q⟩⟩⟩⟩⟩⟩
    | maxAway =>
      exact ⟨_, rfl, rfl, _, rfl, noN (n := 8) (by decide) ⟨_, rfl, rfl, _, rfl, noN (n := 9) (by decide) ⟨_, rfl, rfl, _, rfl, noN (n := 10) (by decide) ⟨_, rfl, rfl, _, rfl, noN (n := 11) (by decide) ⟨_, rfl, rfl, _, rfl, noN (n := 12) (by decide) ⟨_, rfl, rfl, _, rfl, isN (p := 13) ⟨_, rfl, a, m, rfl, hS, hW, q⟩⟩⟩⟩⟩⟩⟩
    | soldIfAssigned i x =>
      exact ⟨_, rfl, rfl, _, rfl, noN (n := 8) (by decide) ⟨_, rfl, rfl, _, rfl, noN (n := 9) (by decide) ⟨_, rfl, rfl, _, rfl, noN (n := 10) (by decide) ⟨_, rfl, rfl, _, rfl, noN (n := 11) (by decide) ⟨_, rfl, rfl, _, rfl, noN (n := 12) (by decide) ⟨_, rfl, rfl, _, rfl, noN (n := 13) (by decide) ⟨_, rfl, rfl, _, rfl, isN (p := 18) ⟨_, rfl, _, rfl, lc, _, _, _, rfl, rfl, .inl (.inl hL), rfl, _, rfl, lc, _, _, _, rfl, rfl, .inl (.inl hL), rfl, a, m, i, x, rfl, hS, hW, q⟩⟩⟩⟩⟩⟩⟩⟩
    | soldIfClosed i =>
      exact ⟨_, rfl, rfl, _, rfl, noN (n := 8) (by decide) ⟨_, rfl, rfl, _, rfl, noN (n := 9) (by decide) ⟨_, rfl, rfl, _, rfl, noN (n := 10) (by decide) ⟨_, rfl, rfl, _, rfl, noN (n := 11) (by decide) ⟨_, rfl, rfl, _, rfl, noN (n := 12) (by decide) ⟨_, rfl, rfl, _, rfl, noN (n := 13) (by decide) ⟨_, rfl, rfl, _, rfl, noN (n := 18) (by decide) ⟨_, rfl, rfl, _, rfl, isN (p := 19) ⟨_, rfl, _, rfl, lc, _, _, _, rfl, rfl, .inl (.inl hL), rfl, a, m, i, rfl, hS, hW, q⟩⟩⟩⟩⟩⟩⟩⟩⟩
    | countValid =>
      exact ⟨_, rfl, rfl, _, rfl, noN (n := 8) (by decide) ⟨_, rfl, rfl, _, rfl, noN (n := 9) (by decide) ⟨_, rfl, rfl, _, rfl, noN (n := 10) (by decide) ⟨_, rfl, rfl, _, rfl, noN (n := 11) (by decide) ⟨_, rfl, rfl, _, rfl, noN (n := 12) (by decide) ⟨_, rfl, rfl, _, rfl, noN (n := 13) (by decide) ⟨_, rfl, rfl, _, rfl, noN (n := 18) (by decide) ⟨_, rfl, rfl, _, rfl, noN (n := 19) (by decide) ⟨_, rfl, rfl, _, rfl, isN (p := 20) ⟨_, rfl, a, m, rfl, hS, hW, q⟩⟩⟩⟩⟩⟩⟩⟩⟩⟩
    | getState =>
      exact ⟨_, rfl, rfl, _, rfl, noN (n := 8) (by decide) ⟨_, rfl, rfl, _, rfl, noN (n := 9) (by decide) ⟨_, rfl, rfl, _, rfl, noN (n := 10) (by decide) ⟨_, rfl, rfl, _, rfl, noN (n := 11) (by decide) ⟨_, rfl, rfl, _, rfl, noN (n := 12) (by decide) ⟨_, rfl, rfl, _, rfl, noN (n := 13) (by decide) ⟨_, rfl, rfl, _, rfl, noN (n := 18) (by decide) ⟨_, rfl, rfl, _, rfl, noN (n := 19) (by decide) ⟨_, rfl, rfl, _, rfl, noN (n := 20) (by decide) ⟨_, rfl, a, m, rfl, hS, hW, q⟩⟩⟩⟩⟩⟩⟩⟩⟩⟩
    | fixBest =>
      exact absurd hp (by decide)
theorem ok_lst {f : Addr} {fd : FuncData} (F : Fun K "answer_about_lists" "answer_about_lists" sLst f fd) (N : Cp mg) (GIv : Fn P w K mg base "is_valid" 5 ["stadium", "allocation"] (spGiv1 C K .isValid)) (GSs : Fn P w K mg base "sold_seats" 3 ["stadium", "allocation"] (spGiv1 C K .soldSeats)) (GJo : Fn P w K mg base "join" 4 ["stadium", "first", "second"] (spGiv2 C K .join)) (GMe : Fn P w K mg base "meet" 4 ["stadium", "first", "second"] (spGiv2 C K .meet)) : FnOk P w K mg base CX0 6 f fd ["stadium", "number", "lists"] (spLst C) := by
  refine F.ok scLst (fun vs H Q E h => ?_) (fun cdv A outer s H vs Q E hr h => ?_)
  · obtain ⟨a, ll, m, p, ns, ts, rs, op, rfl, _⟩ := h
    rfl
  · obtain ⟨a, ll, m, p, ns, ts, rs, op, rfl, hS, hW, hL, hA, hC, hne, q⟩ := h
    refine ⟨_, (pss_cons (ps_if (pt_cmpR op_eq (pv 1) (pe_gi N.n14) (nomark _)) (pss_one (ps_ret (pe_fn GIv hr (pa_cons (pv 0) (pa_cons (pe_ix ix_list (pv 2) pe_int (fun _ _ => rfl)) pa_nil))))) pss_nil)
      (pss_cons (ps_if (pt_cmpR op_eq (pv 1) (pe_gi N.n15) (nomark _)) (pss_one (ps_ret (pe_fn GSs (hr.mono (by decide)) (pa_cons (pv 0) (pa_cons (pe_ix ix_list (pv 2) pe_int (fun _ _ => rfl)) pa_nil))))) pss_nil)
      (pss_cons (ps_if (pt_cmpR op_eq (pv 1) (pe_gi N.n16) (nomark _)) (pss_one (ps_ret (pe_fn GJo (hr.mono (by decide)) (pa_cons (pv 0) (pa_cons (pe_ix ix_list (pv 2) pe_int (fun _ _ => rfl)) (pa_cons (pe_ix ix_list (pv 2) pe_int (fun _ _ => rfl)) pa_nil)))))) pss_nil)
      (pss_one (ps_ret (pe_fn GMe (hr.mono (by decide)) (pa_cons (pv 0) (pa_cons (pe_ix ix_list (pv 2) pe_int (fun _ _ => rfl)) (pa_cons (pe_ix ix_list (pv 2) pe_int (fun _ _ => rfl)) pa_nil))))))))), ?_⟩
    cases hC with
    | create =>
      exact absurd rfl hne
    | addBlock x =>
      exact absurd rfl hne
    | removeLastBlock =>
      exact absurd rfl hne
    | setSeats i x =>
      exact absurd rfl hne
    | assign i x =>
      exact absurd rfl hne
    | connect i j =>
      exact absurd rfl hne
    | disconnect i j =>
      exact absurd rfl hne
    | swapTeams =>
      exact absurd rfl hne
    | listBlocks =>
      exact absurd rfl hne
    | neighbors i =>
      exact absurd rfl hne
    | bestAllocation =>
      exact absurd rfl hne
    | emptySeats =>
      exact absurd rfl hne
    | bestWithAway k =>
      exact absurd rfl hne
    | maxAway =>
      exact absurd rfl hne
    | soldIfAssigned i x =>
      exact absurd rfl hne
    | soldIfClosed i =>
      exact absurd rfl hne
    | countValid =>
      exact absurd rfl hne
    | getState =>
      exact absurd rfl hne
    | fixBest =>
      exact absurd rfl hne
    | isValid l =>
      cases hA with
      | cons h1 h2 =>
        cases h2
        exact ⟨_, rfl, rfl, _, rfl, isN (p := 14) ⟨_, rfl, _, rfl, ll, _, _, _, rfl, rfl, .inl (.inl hL), rfl, a, _, m, l, rfl, hS, hW, .inl (.inl h1), q⟩⟩
    | soldSeats l =>
      cases hA with
      | cons h1 h2 =>
        cases h2
        exact ⟨_, rfl, rfl, _, rfl, noN (n := 14) (by decide) ⟨_, rfl, rfl, _, rfl, isN (p := 15) ⟨_, rfl, _, rfl, ll, _, _, _, rfl, rfl, .inl (.inl hL), rfl, a, _, m, l, rfl, hS, hW, .inl (.inl h1), q⟩⟩⟩
    | join v u =>
      cases hA with
      | cons h1 h2 =>
        cases h2 with
        | cons h3 h4 =>
          cases h4
          exact ⟨_, rfl, rfl, _, rfl, noN (n := 14) (by decide) ⟨_, rfl, rfl, _, rfl, noN (n := 15) (by decide) ⟨_, rfl, rfl, _, rfl, isN (p := 16) ⟨_, rfl, _, rfl, ll, _, _, _, rfl, rfl, .inl (.inl hL), rfl, _, rfl, ll, _, _, _, rfl, rfl, .inl (.inl hL), rfl, a, _, _, m, v, u, rfl, hS, hW, .inl (.inl h1), .inl (.inl h3), q⟩⟩⟩⟩
    | meet v u =>
      cases hA with
      | cons h1 h2 =>
        cases h2 with
        | cons h3 h4 =>
          cases h4
          exact ⟨_, rfl, rfl, _, rfl, noN (n := 14) (by decide) ⟨_, rfl, rfl, _, rfl, noN (n := 15) (by decide) ⟨_, rfl, rfl, _, rfl, noN (n := 16) (by decide) ⟨_, rfl, _, rfl, ll, _, _, _, rfl, rfl, .inl (.inl hL), rfl, _, rfl, ll, _, _, _, rfl, rfl, .inl (.inl hL), rfl, a, _, _, m, v, u, rfl, hS, hW, .inl (.inl h1), .inl (.inl h3), q⟩⟩⟩⟩
end
end SB

set_option Elab.async false
set_option linter.all false
set_option maxRecDepth 100000
set_option maxHeartbeats 4000000
namespace SB
open PySem PySem.Spec PyProof.Rows L2
open Kv437 (Stand Block Planner Operation Response)
theorem no_lists {p : Nat} {ns : List Nat} {rs : List (List Nat)} {op : Operation} (h : CodedN p ns rs op) (hp : p ≤ 7 ∨ p = 21) : rs = [] := by
  cases h <;> first | rfl | (exfalso; revert hp; decide)
section
variable {P : Program} {w : World} {K : PySem.W.Frag} {mg : Str → Option Value} {base : Heap} {C : Addr}
def spCall (C : Addr) : Sp := fun vs H Q _ => ∃ (a lc ll : Addr) (m : Stand) (p : Nat) (ns : List Nat) (ts : List Addr) (rs : List (List Nat)) (op : Operation), vs = [.ref a, .ref lc, .ref ll] ∧ Stad C H a m ∧ WF m ∧ H lc = some (.lst (natsV (p :: ns))) ∧ H ll = some (.lst (ts.map V.ref)) ∧ Als H ts rs ∧ CodedN p ns rs op ∧ p ≠ 0 ∧ Out C H a m op Q
theorem ok_call {f : Addr} {fd : FuncData} (F : Fun K "answer_call" "answer_call" sCall f fd) (N : Cp mg) (GC : Fn P w K mg base "answer_change" 7 ["stadium", "call"] (spChg C)) (GQ : Fn P w K mg base "answer_query" 8 ["stadium", "call"] (spQry C)) (GL : Fn P w K mg base "answer_about_lists" 6 ["stadium", "number", "lists"] (spLst C)) : FnOk P w K mg base CX0 9 f fd ["stadium", "call", "lists"] (spCall C) := by
  refine F.ok scCall (fun vs H Q E h => ?_) (fun cdv A outer s H vs Q E hr h => ?_)
  · obtain ⟨a, lc, ll, m, p, ns, ts, rs, op, rfl, _⟩ := h
    rfl
  · obtain ⟨a, lc, ll, m, p, ns, ts, rs, op, rfl, hS, hW, hL, hLL, hA, hC, hp, q⟩ := h
    refine ⟨_, pss_cons (ps_set (i := 3) scCall.nd rfl (.inl rfl) (pe_ix ix_list (pv 1) pe_int (fun _ _ => rfl)))
      (pss_cons (ps_if (PW.pt (pw_or (pt_cmpR op_le (pv 3) (pe_gi N.n7) (nomark _)) (pw_or1 (pt_cmpR op_eq (pv 3) (pe_gi N.n21) (nomark _))))) (pss_one (ps_ret (pe_fn GC (hr.mono (by decide)) (pa_cons (pv 0) (pa_cons (pv 1) pa_nil))))) pss_nil)
      (pss_cons (ps_if (pt_truth (pv 2) (by intro _; rfl)) (pss_one (ps_ret (pe_fn GL (hr.mono (by decide)) (pa_cons (pv 0) (pa_cons (pv 3) (pa_cons (pv 2) pa_nil)))))) pss_nil)
      (pss_one (ps_ret (pe_fn GQ hr (pa_cons (pv 0) (pa_cons (pv 1) pa_nil))))))), ?_⟩
    refine ⟨_, rfl, lc, _, _, _, rfl, rfl, .inl (.inl hL), at_zero _ _, ?_⟩
    refine ⟨_, rfl, _, _, rfl, rfl, _, rfl, iteD (fun h => iteT ?_) (fun h => ?_)⟩
    · have h7 : p ≤ 7 := by omega
      have e := no_lists hC (.inl h7)
      subst e
      exact ⟨_, rfl, _, rfl, a, lc, m, p, ns, op, rfl, hS, hW, hL, hC, .inl ⟨by omega, h7⟩, q⟩
    refine ⟨_, rfl, rfl, _, rfl, iteD (fun h2 => ?_) (fun h2 => ?_)⟩
    · have h21 : p = 21 := vint.mp h2
      have e := no_lists hC (.inr h21)
      subst e
      exact ⟨_, rfl, _, rfl, a, lc, m, p, ns, op, rfl, hS, hW, hL, hC, .inr h21, q⟩
    have n21 : p ≠ 21 := fun e => h2 (by rw [e]; rfl)
    refine ⟨_, rfl, _, .inl ⟨_, .inl (.inl hLL), rfl⟩, iteNB (fun h3 => ?_) (fun h3 => ?_)⟩
    · have hne : rs ≠ [] := fun e => by
        subst e
        cases hA
        cases h3
      exact ⟨_, rfl, _, rfl, _, rfl, a, ll, m, p, ns, ts, rs, op, rfl, hS, hW, hLL, hA, hC, hne, q⟩
    · have e : rs = [] := by
        cases hA with
        | nil => rfl
        | cons _ _ => cases h3
      subst e
      exact ⟨_, rfl, _, rfl, a, lc, m, p, ns, op, rfl, hS, hW, hL, hC, ⟨by omega, n21⟩, q⟩
end
end SB

set_option Elab.async false
set_option linter.all false
set_option maxRecDepth 100000
set_option maxHeartbeats 4000000
namespace SB
open PySem PySem.Spec PyProof.Rows L2
open Kv437 (Stand Block Planner Operation Response)
/-! ### a session -/
abbrev sAns : Stmt := topS 79
theorem scAns : FnScope ["calls", "given", "stadium", "start", "call", "lists", "answer"] ["calls"] (defScope sAns) := ⟨rfl, rfl, rfl, by decide +kernel, rfl, by decide +kernel, by decide +kernel⟩
def kAns : Nat := 10
def spAns (K : PySem.W.Frag) : Sp := fun vs H Q _ => ∃ (a : Addr) (ns : List Int), vs = [.ref a] ∧ SqL K H a (ns.map V.int) ∧ ns.length ≤ 21248 ∧ PyKv437.answers_asked ns = true ∧
  ∀ (H' : Hp) (p : Addr), H' p = some (.lst ((PyKv437.answers ns).map V.int)) → Q (.ref p) H'
theorem foot_upd {H : Hp} {a g : Addr} {o : HO} (n : a ≠ g) (b : Addr) : Foot (upd H g o) a b ↔ Foot H a b := by
  unfold Foot
  rw [upd_ne n]
theorem stad_store {C : Addr} {H : Hp} {a g : Addr} {m : Stand} {xs : List V} {o : HO} (h : Stad C H a m) (n : ¬ Foot H a g) (hg : H g = some (.lst xs)) : Stad C (upd H g o) a m ∧ a ≠ g := by
  obtain ⟨s, t, p, ts, D⟩ := h
  rw [foot_of D] at n
  have na : a ≠ g := fun e => n (.inl e.symm)
  obtain ⟨dx, hi⟩ := D.ins
  refine ⟨⟨s, t, p, ts, ⟨dx, (upd_ne na).trans hi⟩, (upd_ne fun e => n (.inr (.inl e.symm))).trans D.hs, (upd_ne fun e => n (.inr (.inr (.inl e.symm)))).trans D.ht, (upd_ne fun e => n (.inr (.inr (.inr e.symm)))).trans D.hp, D.prs.keep (tup_upd hg), D.st, D.sp, D.tp⟩, na⟩
/-- the planner's slot: none, or a stadium of its own -/
structure Fine (K : PySem.W.Frag) (C cl gv : Addr) (xs : List V) (H : Hp) (v : V) (st : Kv437.State) : Prop where
  gvC : ∀ a, v = .ref a → ¬ Foot H a gv
  clC : (∀ H', SqL K H' cl xs) ∨ (∃ o, H cl = some o ∧ cl ≠ gv ∧ (∀ H', H' cl = some o → SqL K H' cl xs) ∧ ∀ a, v = .ref a → ¬ Foot H a cl)
  at_ : (st = none ∧ v = .non) ∨ (∃ a m, st = some ⟨m⟩ ∧ v = .ref a ∧ Stad C H a m ∧ WF m)
section
variable {K : PySem.W.Frag} {C cl gv : Addr} {xs : List V} {H H' : Hp} {v : V} {st : Kv437.State}
theorem Fine.seq (F : Fine K C cl gv xs H v st) : SqL K H cl xs := by
  rcases F.clC with h | ⟨o, h1, _, h2, _⟩
  · exact h H
  · exact h2 H h1
theorem Fine.kept {a : Addr} {m' : Stand} {g : HO} (F : Fine K C cl gv xs H (.ref a) st) (hg : H gv = some g) (k : Kept H H' a) (hS : Stad C H' a m') (hW : WF m') : Fine K C cl gv xs H' (.ref a) (some ⟨m'⟩) := by
  have keep : ∀ b o, H b = some o → ¬ Foot H a b → ¬ Foot H' a b := fun b o hb n f => by
    rcases k.new b f with f | f
    · exact n f
    · rw [hb] at f
      cases f
  refine ⟨fun a' e => ?_, ?_, .inr ⟨a, m', rfl, rfl, hS, hW⟩⟩
  · injection e with e
    subst e
    exact keep _ _ hg (F.gvC _ rfl)
  · rcases F.clC with h | ⟨o, h1, h2, h3, h4⟩
    · exact .inl h
    · refine .inr ⟨o, k.old _ _ h1 (h4 _ rfl), h2, h3, fun a' e => ?_⟩
      injection e with e
      subst e
      exact keep _ _ h1 (h4 _ rfl)
theorem Fine.same {g : HO} (F : Fine K C cl gv xs H v st) (hg : H gv = some g) (e : Same H H') : Fine K C cl gv xs H' v st := by
  rcases F.at_ with ⟨rfl, rfl⟩ | ⟨a, m, rfl, rfl, hS, hW⟩
  · refine ⟨fun _ z => (by cases z), ?_, .inl ⟨rfl, rfl⟩⟩
    rcases F.clC with h | ⟨o, h1, h2, h3, h4⟩
    · exact .inl h
    · exact .inr ⟨o, e _ _ h1, h2, h3, fun _ z => (by cases z)⟩
  · exact F.kept hg (Kept.same hS e) (hS.same e) hW
theorem Fine.store {ys : List V} {o : HO} (F : Fine K C cl gv xs H v st) (hg : H gv = some (.lst ys)) : Fine K C cl gv xs (upd H gv o) v st := by
  have hcl : ∀ u, H cl = some u → cl ≠ gv → (upd H gv o) cl = some u := fun u h n => (upd_ne n).trans h
  rcases F.at_ with ⟨rfl, rfl⟩ | ⟨a, m, rfl, rfl, hS, hW⟩
  · refine ⟨fun _ z => (by cases z), ?_, .inl ⟨rfl, rfl⟩⟩
    rcases F.clC with h | ⟨u, h1, h2, h3, h4⟩
    · exact .inl h
    · exact .inr ⟨u, hcl u h1 h2, h2, h3, fun _ z => (by cases z)⟩
  · obtain ⟨hS2, na⟩ := stad_store (o := o) hS (F.gvC a rfl) hg
    refine ⟨fun a' e => ?_, ?_, .inr ⟨a, m, rfl, rfl, hS2, hW⟩⟩
    · injection e with e
      subst e
      rw [foot_upd na]
      exact F.gvC _ rfl
    · rcases F.clC with h | ⟨u, h1, h2, h3, h4⟩
      · exact .inl h
      · refine .inr ⟨u, hcl u h1 h2, h2, h3, fun a' e => ?_⟩
        injection e with e
        subst e
        rw [foot_upd na]
        exact h4 _ rfl
/-- a new stadium in the slot -/
theorem Fine.fresh {a : Addr} {m' : Stand} {g : HO} (F : Fine K C cl gv xs H v st) (hg : H gv = some g) (e : Same H H') (f : ∀ b o, H b = some o → ¬ Foot H' a b) (hS : Stad C H' a m') (hW : WF m') : Fine K C cl gv xs H' (.ref a) (some ⟨m'⟩) := by
  refine ⟨fun a' z => ?_, ?_, .inr ⟨a, m', rfl, rfl, hS, hW⟩⟩
  · injection z with z
    subst z
    exact f _ _ hg
  · rcases F.clC with h | ⟨o, h1, h2, h3, h4⟩
    · exact .inl h
    · refine .inr ⟨o, e _ _ h1, h2, h3, fun a' z => ?_⟩
      injection z with z
      subst z
      exact f _ _ h1
end
theorem row_v (r : Response) : (Kv437Neutral.resultRow r).map V.int = rowV r := by
  show V.int r.code :: (r.values.map Int.ofNat).map V.int = V.int r.code :: r.values.map fun (n : Nat) => V.int n
  rw [List.map_map]
  rfl
theorem exec_none {op : Operation} (h : op ≠ .create) : Kv437.execute none op = (none, .error (-11)) := by
  cases op <;> first | rfl | exact absurd rfl h
theorem exec_some (m : Stand) (op : Operation) : Kv437.execute (some ⟨m⟩) op = (some ((Planner.mk m).run op).1, ((Planner.mk m).run op).2) := rfl
theorem exec_create (st : Kv437.State) : Kv437.execute st .create = (some ⟨⟨[], []⟩⟩, .number 0) := by
  cases st <;> rfl
theorem coded_0 {p : Nat} {ns : List Nat} {rs : List (List Nat)} {op : Operation} (h : CodedN p ns rs op) : (p = 0 → op = .create) ∧ (p ≠ 0 → op ≠ .create) := by
  cases h <;> first | exact ⟨fun _ => rfl, fun z => absurd rfl z⟩ | exact ⟨fun z => absurd z (by decide), fun _ z => (by cases z)⟩
theorem seq_or {K : PySem.W.Frag} {H : Hp} {b : Addr} {xs : List V} (h : SqL K H b xs) : (∀ H', SqL K H' b xs) ∨ ∃ o, H b = some o ∧ ∀ H', H' b = some o → SqL K H' b xs := by
  rcases h with (h | ⟨o, h⟩) | h
  · exact .inr ⟨_, h, fun H' h' => .inl (.inl h')⟩
  · exact .inr ⟨_, h, fun H' h' => .inl (.inr ⟨o, h'⟩)⟩
  · exact .inl fun H' => .inr h
section
variable {P : Program} {w : World} {K : PySem.W.Frag} {mg : Str → Option Value} {base : Heap} {C : Addr}
theorem ok_ans {f : Addr} {fd : FuncData} (F : Fun K "answers" "answers" sAns f fd) (T : Txt K mg C) (Z : Cs mg) (N : Cp mg) (GN : Ini P w K mg base C) (GR : Fn P w K mg base "read_call" 1 ["calls", "start"] (spRead K)) (GC : Fn P w K mg base "answer_call" 9 ["stadium", "call", "lists"] (spCall C)) : FnOk P w K mg base CX0 10 f fd ["calls"] (spAns K) := by
  refine F.ok scAns (fun vs H Q E h => ?_) (fun cdv A outer s H vs Q E hr h => ?_)
  · obtain ⟨a, ns, rfl, _⟩ := h
    rfl
  · obtain ⟨cl, l, rfl, hL, hfew, hask, q⟩ := h
    obtain ⟨fi, fdi, M, bi, GI⟩ := GN
    refine ⟨_, pss_cons (ps_set (i := 1) scAns.nd rfl (.inl rfl) (pe_lst pa_nil))
      (pss_cons (ps_set (i := 2) scAns.nd rfl (.inl rfl) pe_non)
      (pss_cons (ps_set (i := 3) scAns.nd rfl (.inl rfl) pe_int)
      (pss_cons (ps_while PassesOwn.never (pt_cmpR op_lt (pv 3) (pe_callB call_len_seq (by rfl) T.len PySem.boot_len (pa_cons (pv 0) pa_nil)) (nomark _))
        (pss_cons (ps_asg (pe_fn GR (hr.mono (by decide)) (pa_cons (pv 0) (pa_cons (pv 3) pa_nil))) (pg_tup rfl (pgs_cons (pg_name (i := 4) scAns.nd rfl (.inl rfl)) (pgs_cons (pg_name (i := 5) scAns.nd rfl (.inl rfl)) (pgs_cons (pg_name (i := 3) scAns.nd rfl (.inl rfl)) pgs_nil)))))
        (C8.pss_cut (ps_if (pt_cmpR op_eq (pe_ix ix_list (pv 4) pe_int (fun _ _ => rfl)) (pe_gi N.n0) (nomark _))
            (pss_cons (ps_set (i := 2) scAns.nd rfl (.inl rfl) (pe_make0 M GI (hr.mono (by decide)) (by rfl) T.gC bi .nil pass0))
            (pss_one (ps_set (i := 6) scAns.nd rfl (.inl rfl) (pe_lst (pa_cons pe_int pa_nil)))))
            (pss_one (ps_if (pt_cmpR op_isN (pv 2) pe_non (nomark _))
              (pss_one (ps_set (i := 6) scAns.nd rfl (.inl rfl) (pe_lst (pa_cons (pe_gi Z.noPlanner) pa_nil))))
              (pss_one (ps_set (i := 6) scAns.nd rfl (.inl rfl) (pe_fn GC hr (pa_cons (pv 2) (pa_cons (pv 4) (pa_cons (pv 5) pa_nil)))))))))
        (pss_cons (ps_expr (pe_bm PySem.F.plainAttrs_list PySem.F.slot_list_append PySem.F.type_list_append mt_append (pv 1) (pa_cons (pe_callB call_len_seq (by rfl) T.len PySem.boot_len (pa_cons (pv 6) pa_nil)) pa_nil)))
        (pss_one (ps_expr (pe_bm PySem.F.plainAttrs_list PySem.F.slot_list_extend PySem.F.type_list_extend mt_extend (pv 1) (pa_cons (pv 6) pa_nil))))))))
      (pss_one (ps_ret (pv 1)))))), ?_⟩
    obtain ⟨cs, ops, hC, hl, _, hans⟩ := request hask
    have hshort := asked_short hask
    rw [hans] at hshort
    refine ⟨Nat.zero_le _, fun gv ngv => ?_⟩
    have s1 := same_upd (o := .lst []) ngv
    have F0 : Fine K C cl gv (l.map V.int) (upd H gv (.lst [])) .non none := by
      refine ⟨fun _ z => (by cases z), ?_, .inl ⟨rfl, rfl⟩⟩
      rcases seq_or hL with h | ⟨o, h1, h2⟩
      · exact .inl h
      · exact .inr ⟨o, s1 _ _ h1, ne_of_none h1 ngv, h2, fun _ z => (by cases z)⟩
    refine while_by (fun σ H' => ∃ (i : Nat) (v2 : V) (v4 v5 v6 : Option V), i ≤ cs.length ∧ σ = [some (.ref cl), some (.ref gv), some v2, some (.int ((PyFlat.put (cs.take i)).length : Nat)), v4, v5, v6] ∧ H' gv = some (.lst ((toldOf none (ops.take i)).map V.int)) ∧ Fine K C cl gv (l.map V.int) H' v2 (afterOf none (ops.take i)))
      (fun σ _ => match σ with | [_, _, _, some (.int s), _, _, _] => (((l.length : Nat) : Int) - s).toNat | _ => 0) ⟨0, .non, none, none, none, Nat.zero_le _, rfl, upd_same, F0⟩ ?_ ?_
    · rintro σ H1 ⟨i, v2, v4, v5, v6, hi, rfl, hgv, hF⟩
      have hSq := hF.seq
      refine ⟨_, rfl, _, rfl, cl, _, rfl, .inl hSq, _, _, rfl, rfl, _, rfl, iteD (fun h => ?_) (fun h => ?_)⟩
      rotate_left
      · -- all is read
        rcases next_call hC i hi with ⟨_, _, h3⟩ | ⟨c, op, hc, hlt, h2, h3, h4⟩
        · rw [h3] at hgv
          refine ⟨_, rfl, q H1 gv ?_⟩
          rw [hgv, hans]
        · exfalso
          apply h
          obtain ⟨p, ns, rs, hN, rfl⟩ := coded_n hc
          rw [List.length_map, hl, h2, List.length_append, List.length_append, flat_put, flat_len]
          omega
      · rcases next_call hC i hi with ⟨_, h2, _⟩ | ⟨c, op, hc, hlt, h2, h3, h4⟩
        · exfalso
          rw [List.length_map, h2, hl] at h
          omega
        obtain ⟨p, ns, rs, hN, rfl⟩ := coded_n hc
        rw [flat_put] at h2 h3
        obtain ⟨tab1, tab2⟩ := tab_of hN
        refine ⟨_, rfl, _, rfl, cl, l, _, p, ns, rs, PyFlat.put (cs.take i), PyFlat.put (cs.drop (i + 1)), rfl, hSq, hfew, hl.trans h2, rfl, tab1, tab2, fun H2 qq lc ll ts e e2 hq he hlc hll hA => ?_⟩
        have hlen3 : (PyFlat.put (cs.take (i + 1))).length = (PyFlat.put (cs.take i)).length + (flat p ns rs).length := by rw [h3, List.length_append]
        rw [← hlen3] at he
        subst he
        refine ⟨qq, _, rfl, .inl (.inl hq), rfl, _, _, rfl, _, _, rfl, _, _, rfl, rfl, ?_⟩
        have hF2 := hF.same hgv e2
        have hgv2 := e2 _ _ hgv
        -- what stands behind the answer
        have eafter : afterOf none (ops.take (i + 1)) = (Kv437.execute (afterOf none (ops.take i)) op).1 := by rw [h4, after_snoc]
        refine ⟨fun σ H4 => ∃ (v2 : V) (r : Addr), σ = [some (.ref cl), some (.ref gv), some v2, some (.int ((PyFlat.put (cs.take (i + 1))).length : Nat)), some (.ref lc), some (.ref ll), some (.ref r)] ∧ r ≠ gv ∧ H4 r = some (.lst ((rowOf (afterOf none (ops.take i)) op).map V.int)) ∧ H4 gv = some (.lst ((toldOf none (ops.take i)).map V.int)) ∧ Fine K C cl gv (l.map V.int) H4 v2 (afterOf none (ops.take (i + 1))), ?_, ?_⟩
        · refine ⟨_, rfl, lc, _, _, _, rfl, rfl, .inl (.inl hlc), at_zero _ _, rfl, _, rfl, iteD (fun h0 => ?_) (fun h0 => ?_)⟩
          · -- create
            have e0 : op = .create := (coded_0 hN).1 (vint.mp h0)
            subst e0
            rw [exec_create] at eafter
            intro x dx nx ndx hdx
            refine ⟨x, dx, rfl, upd_same, fun H3 hS3 k3 f3 => ⟨rfl, ?_⟩⟩
            have e3 : Same H2 H3 := fun b o hb => k3 b o (by
              rw [upd_ne (ne_of_none hb nx), upd_ne (ne_of_none hb ndx)]
              exact hb) (ne_of_none hb nx)
            have hgv3 := e3 _ _ hgv2
            have hF3 : Fine K C cl gv (l.map V.int) H3 (.ref x) (some ⟨⟨[], []⟩⟩) := hF2.fresh hgv2 e3 (fun b o hb f => by
              rcases f3 b f with z | z
              · exact ne_of_none hb nx z
              · rw [upd_ne (ne_of_none hb nx), upd_ne (ne_of_none hb ndx), hb] at z
                cases z) hS3 wf_nil
            refine ⟨(by show 1 ≤ sizeLine; decide), fun r nr => ⟨_, r, rfl, (ne_of_none hgv3 nr).symm, ?_, ?_, ?_⟩⟩
            · rw [upd_same]
              unfold rowOf
              rw [exec_create, row_v]
              rfl
            · exact same_upd nr _ _ hgv3
            · rw [eafter]
              exact hF3.same hgv3 (same_upd nr)
          have e0 : op ≠ .create := (coded_0 hN).2 fun z => h0 (by rw [z]; rfl)
          have p0 : p ≠ 0 := fun z => h0 (by rw [z]; rfl)
          rcases hF2.at_ with ⟨hst, rfl⟩ | ⟨a, m, hst, rfl, hS, hW⟩
          · -- no planner yet
            rw [hst, exec_none e0] at eafter
            refine ⟨_, rfl, rfl, _, rfl, iteT ⟨(by show 1 ≤ sizeLine; decide), fun r nr => ⟨_, r, rfl, (ne_of_none hgv2 nr).symm, ?_, ?_, ?_⟩⟩⟩
            · rw [upd_same, hst]
              unfold rowOf
              rw [exec_none e0, row_v]
              rfl
            · exact same_upd nr _ _ hgv2
            · rw [eafter]
              rw [hst] at hF2
              exact hF2.same hgv2 (same_upd nr)
          · -- a call on the planner
            rw [hst, exec_some] at eafter
            refine ⟨_, rfl, rfl, _, rfl, iteF ⟨_, rfl, _, rfl, _, rfl, a, lc, ll, m, p, ns, ts, rs, op, rfl, hS, hW, hlc, hll, hA, hN, p0, fun H4 r hS4 k4 nr hr4 => ⟨_, r, rfl, (ne_of_none hgv2 nr).symm, ?_, ?_, ?_⟩⟩⟩
            · rw [hr4, hst]
              unfold rowOf
              rw [exec_some, row_v]
            · exact k4.old _ _ hgv2 (hF2.gvC a rfl)
            · rw [eafter]
              exact hF2.kept hgv2 k4 hS4 (wf_run hW op)
        · rintro σ H4 ⟨v2, r, rfl, hrg, hr4, hgv4, hF4⟩
          have htold : toldOf none (ops.take (i + 1)) = toldOf none (ops.take i) ++ (((rowOf (afterOf none (ops.take i)) op).length : Nat) : Int) :: rowOf (afterOf none (ops.take i)) op := by rw [h4, told_snoc]
          have hshort2 := Nat.le_trans (told_few none ops (i + 1)) hshort
          rw [htold, List.length_append, List.length_cons] at hshort2
          have big : 10000000 < sizeLine := by decide
          refine ⟨_, rfl, .inl ⟨rfl, _, .inl (.inl hgv4)⟩, _, rfl, r, _, rfl, .inl (.inl (.inl hr4)), gv, _, _, rfl, rfl, hgv4, ?_, ?_⟩
          · rw [List.length_map]
            omega
          refine ⟨_, rfl, .inl ⟨rfl, _, .inl (.inl upd_same)⟩, _, rfl, gv, r, _, _, rfl, rfl, upd_same, (upd_ne hrg).trans hr4, ?_, ?_⟩
          · rw [List.length_append, List.length_map, List.length_map]
            show _ + 1 + _ ≤ _
            omega
          refine ⟨⟨i + 1, v2, _, _, _, hlt, rfl, ?_, (hF4.store hgv4).store upd_same⟩, ?_⟩
          · rw [upd_same, htold, List.map_append, List.map_cons, List.length_map, List.append_assoc]
            rfl
          · show (((l.length : Nat) : Int) - (((PyFlat.put (cs.take (i + 1))).length : Nat) : Int)).toNat < (((l.length : Nat) : Int) - (((PyFlat.put (cs.take i)).length : Nat) : Int)).toNat
            rw [List.length_map] at h
            rw [hlen3, flat_len]
            omega
    · rintro σ H1 R R' hR ⟨v, h1, v', h2, p, xs, h3, h4, i, j, h5, h6, k, h7, hq⟩
      exact ⟨v, h1, v', h2, p, xs, h3, h4, i, j, h5, h6, k, h7, hR _ _ hq⟩
end
end SB

set_option Elab.async false
set_option linter.all false
set_option maxRecDepth 100000
set_option maxHeartbeats 4000000
namespace SB
open PySem PySem.Spec PyProof.Rows L2
open PySem.W (Codec)
/-! ### what the top leaves -/
structure TopS (K : PySem.W.Frag) (mg : Str → Option Value) (C : Addr) : Prop where
  cl : Cls K C
  init : ∃ f fd, Mk K C f ∧ Fun K "__init__" "Stadium.__init__" sInit f fd
  gC : mg "Stadium" = some (.ref C)
  n_seats : NoAttr K C "seats"
  n_assignments : NoAttr K C "assignments"
  n_pairs : NoAttr K C "pairs"
  m_block_count : MthAt K C "block_count" "Stadium.block_count" sBc
  m_has_block : MthAt K C "has_block" "Stadium.has_block" sHb
  m_are_adjacent : MthAt K C "are_adjacent" "Stadium.are_adjacent" sAa
  m_adjacent_blocks : MthAt K C "adjacent_blocks" "Stadium.adjacent_blocks" sAb
  m_reassigned : MthAt K C "reassigned" "Stadium.reassigned" sRe
  d_find_best : DefAt K mg "find_best" sBest
  d_valid_allocations : DefAt K mg "valid_allocations" sVal
  d_extended_by_block : DefAt K mg "extended_by_block" sExt
  d_allowed_uses : DefAt K mg "allowed_uses" sUse
  d_meets_rival : DefAt K mg "meets_rival" sMee
  d_are_rivals : DefAt K mg "are_rivals" sRiv
  d_count_sold : DefAt K mg "count_sold" sSold
  d_count_seats : DefAt K mg "count_seats" sCs
  d_add_block : DefAt K mg "add_block" sAdd
  d_remove_last_block : DefAt K mg "remove_last_block" sRem
  d_set_seats : DefAt K mg "set_seats" sSet
  d_assign : DefAt K mg "assign" sAsg
  d_connect : DefAt K mg "connect" sCon
  d_disconnect : DefAt K mg "disconnect" sDis
  d_swap_teams : DefAt K mg "swap_teams" sSwap
  d_other_side : DefAt K mg "other_side" sOth
  d_fix_best : DefAt K mg "fix_best" sFb
  d_fixed_assignment : DefAt K mg "fixed_assignment" sFa
  d_is_valid : DefAt K mg "is_valid" sIv
  d_sold_seats : DefAt K mg "sold_seats" sSs
  d_join : DefAt K mg "join" sJoin
  d_meet : DefAt K mg "meet" sMeet
  d_combine : DefAt K mg "combine" sComb
  d_combined_use : DefAt K mg "combined_use" sCu
  d_is_allocation : DefAt K mg "is_allocation" sIsA
  d_list_blocks : DefAt K mg "list_blocks" sList
  d_neighbors : DefAt K mg "neighbors" sNb
  d_get_state : DefAt K mg "get_state" sGs
  d_best_allocation : DefAt K mg "best_allocation" sBa
  d_best_with_away : DefAt K mg "best_with_away" sBwa
  d_empty_seats : DefAt K mg "empty_seats" sEs
  d_max_away : DefAt K mg "max_away" sMa
  d_count_valid : DefAt K mg "count_valid" sCv
  d_sold_if_assigned : DefAt K mg "sold_if_assigned" sSia
  d_sold_if_closed : DefAt K mg "sold_if_closed" sSic
  d_answers : DefAt K mg "answers" sAns
  d_read_call : DefAt K mg "read_call" sRead
  d_answer_call : DefAt K mg "answer_call" sCall
  d_answer_change : DefAt K mg "answer_change" sChg
  d_answer_about_lists : DefAt K mg "answer_about_lists" sLst
  d_answer_query : DefAt K mg "answer_query" sQry
  i_EMPTY : GI mg "EMPTY" 0
  i_ANY_USE : GI mg "ANY_USE" 0
  i_HOME : GI mg "HOME" 1
  i_AWAY : GI mg "AWAY" 2
  i_CLOSED : GI mg "CLOSED" 3
  i_MOST_SEATS : GI mg "MOST_SEATS" 99
  i_MOST_BLOCKS : GI mg "MOST_BLOCKS" 6
  i_NO_SUCH_BLOCK : GI mg "NO_SUCH_BLOCK" (-2)
  i_NOTHING_TO_REMOVE : GI mg "NOTHING_TO_REMOVE" (-6)
  i_NO_PLANNER : GI mg "NO_PLANNER" (-11)
  i_ALREADY_ADJACENT : GI mg "ALREADY_ADJACENT" (-17)
  i_OUT_OF_RANGE : GI mg "OUT_OF_RANGE" (-22)
  i_TOO_MANY_BLOCKS : GI mg "TOO_MANY_BLOCKS" (-28)
  i_NO_ALLOCATION : GI mg "NO_ALLOCATION" (-33)
  i_CREATE : GI mg "CREATE" 0
  i_ADD_BLOCK : GI mg "ADD_BLOCK" 1
  i_REMOVE_LAST_BLOCK : GI mg "REMOVE_LAST_BLOCK" 2
  i_SET_SEATS : GI mg "SET_SEATS" 3
  i_ASSIGN : GI mg "ASSIGN" 4
  i_CONNECT : GI mg "CONNECT" 5
  i_DISCONNECT : GI mg "DISCONNECT" 6
  i_SWAP_TEAMS : GI mg "SWAP_TEAMS" 7
  i_LIST_BLOCKS : GI mg "LIST_BLOCKS" 8
  i_NEIGHBORS : GI mg "NEIGHBORS" 9
  i_BEST_ALLOCATION : GI mg "BEST_ALLOCATION" 10
  i_EMPTY_SEATS : GI mg "EMPTY_SEATS" 11
  i_BEST_WITH_AWAY : GI mg "BEST_WITH_AWAY" 12
  i_MAX_AWAY : GI mg "MAX_AWAY" 13
  i_IS_VALID : GI mg "IS_VALID" 14
  i_SOLD_SEATS : GI mg "SOLD_SEATS" 15
  i_JOIN : GI mg "JOIN" 16
  i_SOLD_IF_ASSIGNED : GI mg "SOLD_IF_ASSIGNED" 18
  i_SOLD_IF_CLOSED : GI mg "SOLD_IF_CLOSED" 19
  i_COUNT_VALID : GI mg "COUNT_VALID" 20
  i_FIX_BEST : GI mg "FIX_BEST" 21
  t_NUMBER_COUNTS : GT K mg "NUMBER_COUNTS" [.int 0, .int 1, .int 0, .int 2, .int 2, .int 2, .int 2, .int 0, .int 0, .int 1, .int 0, .int 0, .int 1, .int 0, .int 0, .int 0, .int 0, .int 0, .int 2, .int 1, .int 0, .int 0, .int 0]
  t_LIST_COUNTS : GT K mg "LIST_COUNTS" [.int 0, .int 0, .int 0, .int 0, .int 0, .int 0, .int 0, .int 0, .int 0, .int 0, .int 0, .int 0, .int 0, .int 0, .int 1, .int 1, .int 2, .int 2, .int 0, .int 0, .int 0, .int 0, .int 0]
  b_len : mg "len" = none
  b_min : mg "min" = none
  b_max : mg "max" = none
  b_sum : mg "sum" = none
  b_range : mg "range" = none
  b_list : mg "list" = none
  b_zip : mg "zip" = none
theorem top_mk {K : PySem.W.Frag} {h : Heap} {mg : Str → Option Value} {C f1 f2 f3 f4 f5 f6 f7 f8 f9 f10 f11 f12 f13 f14 f15 f16 f17 f18 f19 f20 f21 f22 f23 f24 f25 f26 f27 f28 f29 f30 f31 f32 f33 f34 f35 f36 f37 f38 f39 f40 f41 f42 f43 f44 f45 f46 f47 ta0 ta1 : Addr} (X : K.In h) (G : h.Ns mainGlobals mg)
    {od1 an1 od2 an2 od3 an3 od4 an4 od5 an5 od6 an6 od7 an7 od8 an8 od9 an9 od10 an10 od11 an11 od12 an12 od13 an13 od14 an14 od15 an15 od16 an16 od17 an17 od18 an18 od19 an19 od20 an20 od21 an21 od22 an22 od23 an23 od24 an24 od25 an25 od26 an26 od27 an27 od28 an28 od29 an29 od30 an30 od31 an31 od32 an32 od33 an33 od34 an34 od35 an35 od36 an36 od37 an37 od38 an38 od39 an39 od40 an40 od41 an41 od42 an42 od43 an43 od44 an44 od45 an45 od46 an46 od47 an47 : Option Addr} {sl1 sl2 sl3 sl4 sl5 sl6 sl7 sl8 sl9 sl10 sl11 sl12 sl13 sl14 sl15 sl16 sl17 sl18 sl19 sl20 sl21 sl22 sl23 sl24 sl25 sl26 sl27 sl28 sl29 sl30 sl31 sl32 sl33 sl34 sl35 sl36 sl37 sl38 sl39 sl40 sl41 sl42 sl43 sl44 sl45 sl46 sl47 : Array (Option Value)} {oc1 kV1 dc1 pm1 cd1 ct1 oc2 kV2 dc2 pm2 cd2 ct2 oc3 kV3 dc3 pm3 cd3 ct3 oc4 kV4 dc4 pm4 cd4 ct4 oc5 kV5 dc5 pm5 cd5 ct5 oc6 kV6 dc6 pm6 cd6 ct6 oc7 kV7 dc7 pm7 cd7 ct7 oc8 kV8 dc8 pm8 cd8 ct8 oc9 kV9 dc9 pm9 cd9 ct9 oc10 kV10 dc10 pm10 cd10 ct10 oc11 kV11 dc11 pm11 cd11 ct11 oc12 kV12 dc12 pm12 cd12 ct12 oc13 kV13 dc13 pm13 cd13 ct13 oc14 kV14 dc14 pm14 cd14 ct14 oc15 kV15 dc15 pm15 cd15 ct15 oc16 kV16 dc16 pm16 cd16 ct16 oc17 kV17 dc17 pm17 cd17 ct17 oc18 kV18 dc18 pm18 cd18 ct18 oc19 kV19 dc19 pm19 cd19 ct19 oc20 kV20 dc20 pm20 cd20 ct20 oc21 kV21 dc21 pm21 cd21 ct21 oc22 kV22 dc22 pm22 cd22 ct22 oc23 kV23 dc23 pm23 cd23 ct23 oc24 kV24 dc24 pm24 cd24 ct24 oc25 kV25 dc25 pm25 cd25 ct25 oc26 kV26 dc26 pm26 cd26 ct26 oc27 kV27 dc27 pm27 cd27 ct27 oc28 kV28 dc28 pm28 cd28 ct28 oc29 kV29 dc29 pm29 cd29 ct29 oc30 kV30 dc30 pm30 cd30 ct30 oc31 kV31 dc31 pm31 cd31 ct31 oc32 kV32 dc32 pm32 cd32 ct32 oc33 kV33 dc33 pm33 cd33 ct33 oc34 kV34 dc34 pm34 cd34 ct34 oc35 kV35 dc35 pm35 cd35 ct35 oc36 kV36 dc36 pm36 cd36 ct36 oc37 kV37 dc37 pm37 cd37 ct37 oc38 kV38 dc38 pm38 cd38 ct38 oc39 kV39 dc39 pm39 cd39 ct39 oc40 kV40 dc40 pm40 cd40 ct40 oc41 kV41 dc41 pm41 cd41 ct41 oc42 kV42 dc42 pm42 cd42 ct42 oc43 kV43 dc43 pm43 cd43 ct43 oc44 kV44 dc44 pm44 cd44 ct44 oc45 kV45 dc45 pm45 cd45 ct45 oc46 kV46 dc46 pm46 cd46 ct46 oc47 kV47 dc47 pm47 cd47 ct47 v0 v1 v2 v3 v4 v5 v6 v7 v8 v9 v10 v11 v12 v13 v14 v15 v16 v17 v18 v19 v20 v21 v22 v23 v24 v25 v26 v27 v28 v29 v30 v31 v32 v33 v34 : Value} {to0 to1 : Obj}
    (aC : PySem.W.nsIn K mainGlobals "Stadium" = some (some (.ref C)))
    (a1 : PySem.W.findIn K (.ref C) "__init__" = some (some (.ref f1)))
    (i1 : PySem.W.isFn K (.ref f1) = true)
    (l1 : K.lookup f1 = some ⟨oc1, od1, .func (PySem.W.fnOf "__init__" "Stadium.__init__" (defArgs sInit) (defBody sInit) (defScope sInit) .none kV1 dc1 pm1 an1 cd1 ct1), sl1⟩)
    (c1 : PySem.W.codeIn K cd1 "Stadium.__init__" = true)
    (k1 : PySem.W.keepIn K (.ref f1) = true)
    (a2 : PySem.W.findIn K (.ref C) "block_count" = some (some (.ref f2)))
    (i2 : PySem.W.isFn K (.ref f2) = true)
    (l2 : K.lookup f2 = some ⟨oc2, od2, .func (PySem.W.fnOf "block_count" "Stadium.block_count" (defArgs sBc) (defBody sBc) (defScope sBc) .none kV2 dc2 pm2 an2 cd2 ct2), sl2⟩)
    (c2 : PySem.W.codeIn K cd2 "Stadium.block_count" = true)
    (k2 : PySem.W.keepIn K (.ref f2) = true)
    (a3 : PySem.W.findIn K (.ref C) "has_block" = some (some (.ref f3)))
    (i3 : PySem.W.isFn K (.ref f3) = true)
    (l3 : K.lookup f3 = some ⟨oc3, od3, .func (PySem.W.fnOf "has_block" "Stadium.has_block" (defArgs sHb) (defBody sHb) (defScope sHb) .none kV3 dc3 pm3 an3 cd3 ct3), sl3⟩)
    (c3 : PySem.W.codeIn K cd3 "Stadium.has_block" = true)
    (k3 : PySem.W.keepIn K (.ref f3) = true)
    (a4 : PySem.W.findIn K (.ref C) "are_adjacent" = some (some (.ref f4)))
    (i4 : PySem.W.isFn K (.ref f4) = true)
    (l4 : K.lookup f4 = some ⟨oc4, od4, .func (PySem.W.fnOf "are_adjacent" "Stadium.are_adjacent" (defArgs sAa) (defBody sAa) (defScope sAa) .none kV4 dc4 pm4 an4 cd4 ct4), sl4⟩)
    (c4 : PySem.W.codeIn K cd4 "Stadium.are_adjacent" = true)
    (k4 : PySem.W.keepIn K (.ref f4) = true)
    (a5 : PySem.W.findIn K (.ref C) "adjacent_blocks" = some (some (.ref f5)))
    (i5 : PySem.W.isFn K (.ref f5) = true)
    (l5 : K.lookup f5 = some ⟨oc5, od5, .func (PySem.W.fnOf "adjacent_blocks" "Stadium.adjacent_blocks" (defArgs sAb) (defBody sAb) (defScope sAb) .none kV5 dc5 pm5 an5 cd5 ct5), sl5⟩)
    (c5 : PySem.W.codeIn K cd5 "Stadium.adjacent_blocks" = true)
    (k5 : PySem.W.keepIn K (.ref f5) = true)
    (a6 : PySem.W.findIn K (.ref C) "reassigned" = some (some (.ref f6)))
    (i6 : PySem.W.isFn K (.ref f6) = true)
    (l6 : K.lookup f6 = some ⟨oc6, od6, .func (PySem.W.fnOf "reassigned" "Stadium.reassigned" (defArgs sRe) (defBody sRe) (defScope sRe) .none kV6 dc6 pm6 an6 cd6 ct6), sl6⟩)
    (c6 : PySem.W.codeIn K cd6 "Stadium.reassigned" = true)
    (k6 : PySem.W.keepIn K (.ref f6) = true)
    (a7 : PySem.W.nsIn K mainGlobals "find_best" = some (some (.ref f7)))
    (l7 : K.lookup f7 = some ⟨oc7, od7, .func (PySem.W.fnOf "find_best" "find_best" (defArgs sBest) (defBody sBest) (defScope sBest) .none kV7 dc7 pm7 an7 cd7 ct7), sl7⟩)
    (c7 : PySem.W.codeIn K cd7 "find_best" = true)
    (k7 : PySem.W.keepIn K (.ref f7) = true)
    (a8 : PySem.W.nsIn K mainGlobals "valid_allocations" = some (some (.ref f8)))
    (l8 : K.lookup f8 = some ⟨oc8, od8, .func (PySem.W.fnOf "valid_allocations" "valid_allocations" (defArgs sVal) (defBody sVal) (defScope sVal) .none kV8 dc8 pm8 an8 cd8 ct8), sl8⟩)
    (c8 : PySem.W.codeIn K cd8 "valid_allocations" = true)
    (k8 : PySem.W.keepIn K (.ref f8) = true)
    (a9 : PySem.W.nsIn K mainGlobals "extended_by_block" = some (some (.ref f9)))
    (l9 : K.lookup f9 = some ⟨oc9, od9, .func (PySem.W.fnOf "extended_by_block" "extended_by_block" (defArgs sExt) (defBody sExt) (defScope sExt) .none kV9 dc9 pm9 an9 cd9 ct9), sl9⟩)
    (c9 : PySem.W.codeIn K cd9 "extended_by_block" = true)
    (k9 : PySem.W.keepIn K (.ref f9) = true)
    (a10 : PySem.W.nsIn K mainGlobals "allowed_uses" = some (some (.ref f10)))
    (l10 : K.lookup f10 = some ⟨oc10, od10, .func (PySem.W.fnOf "allowed_uses" "allowed_uses" (defArgs sUse) (defBody sUse) (defScope sUse) .none kV10 dc10 pm10 an10 cd10 ct10), sl10⟩)
    (c10 : PySem.W.codeIn K cd10 "allowed_uses" = true)
    (k10 : PySem.W.keepIn K (.ref f10) = true)
    (a11 : PySem.W.nsIn K mainGlobals "meets_rival" = some (some (.ref f11)))
    (l11 : K.lookup f11 = some ⟨oc11, od11, .func (PySem.W.fnOf "meets_rival" "meets_rival" (defArgs sMee) (defBody sMee) (defScope sMee) .none kV11 dc11 pm11 an11 cd11 ct11), sl11⟩)
    (c11 : PySem.W.codeIn K cd11 "meets_rival" = true)
    (k11 : PySem.W.keepIn K (.ref f11) = true)
    (a12 : PySem.W.nsIn K mainGlobals "are_rivals" = some (some (.ref f12)))
    (l12 : K.lookup f12 = some ⟨oc12, od12, .func (PySem.W.fnOf "are_rivals" "are_rivals" (defArgs sRiv) (defBody sRiv) (defScope sRiv) .none kV12 dc12 pm12 an12 cd12 ct12), sl12⟩)
    (c12 : PySem.W.codeIn K cd12 "are_rivals" = true)
    (k12 : PySem.W.keepIn K (.ref f12) = true)
    (a13 : PySem.W.nsIn K mainGlobals "count_sold" = some (some (.ref f13)))
    (l13 : K.lookup f13 = some ⟨oc13, od13, .func (PySem.W.fnOf "count_sold" "count_sold" (defArgs sSold) (defBody sSold) (defScope sSold) .none kV13 dc13 pm13 an13 cd13 ct13), sl13⟩)
    (c13 : PySem.W.codeIn K cd13 "count_sold" = true)
    (k13 : PySem.W.keepIn K (.ref f13) = true)
    (a14 : PySem.W.nsIn K mainGlobals "count_seats" = some (some (.ref f14)))
    (l14 : K.lookup f14 = some ⟨oc14, od14, .func (PySem.W.fnOf "count_seats" "count_seats" (defArgs sCs) (defBody sCs) (defScope sCs) .none kV14 dc14 pm14 an14 cd14 ct14), sl14⟩)
    (c14 : PySem.W.codeIn K cd14 "count_seats" = true)
    (k14 : PySem.W.keepIn K (.ref f14) = true)
    (a15 : PySem.W.nsIn K mainGlobals "add_block" = some (some (.ref f15)))
    (l15 : K.lookup f15 = some ⟨oc15, od15, .func (PySem.W.fnOf "add_block" "add_block" (defArgs sAdd) (defBody sAdd) (defScope sAdd) .none kV15 dc15 pm15 an15 cd15 ct15), sl15⟩)
    (c15 : PySem.W.codeIn K cd15 "add_block" = true)
    (k15 : PySem.W.keepIn K (.ref f15) = true)
    (a16 : PySem.W.nsIn K mainGlobals "remove_last_block" = some (some (.ref f16)))
    (l16 : K.lookup f16 = some ⟨oc16, od16, .func (PySem.W.fnOf "remove_last_block" "remove_last_block" (defArgs sRem) (defBody sRem) (defScope sRem) .none kV16 dc16 pm16 an16 cd16 ct16), sl16⟩)
    (c16 : PySem.W.codeIn K cd16 "remove_last_block" = true)
    (k16 : PySem.W.keepIn K (.ref f16) = true)
    (a17 : PySem.W.nsIn K mainGlobals "set_seats" = some (some (.ref f17)))
    (l17 : K.lookup f17 = some ⟨oc17, od17, .func (PySem.W.fnOf "set_seats" "set_seats" (defArgs sSet) (defBody sSet) (defScope sSet) .none kV17 dc17 pm17 an17 cd17 ct17), sl17⟩)
    (c17 : PySem.W.codeIn K cd17 "set_seats" = true)
    (k17 : PySem.W.keepIn K (.ref f17) = true)
    (a18 : PySem.W.nsIn K mainGlobals "assign" = some (some (.ref f18)))
    (l18 : K.lookup f18 = some ⟨oc18, od18, .func (PySem.W.fnOf "assign" "assign" (defArgs sAsg) (defBody sAsg) (defScope sAsg) .none kV18 dc18 pm18 an18 cd18 ct18), sl18⟩)
    (c18 : PySem.W.codeIn K cd18 "assign" = true)
    (k18 : PySem.W.keepIn K (.ref f18) = true)
    (a19 : PySem.W.nsIn K mainGlobals "connect" = some (some (.ref f19)))
    (l19 : K.lookup f19 = some ⟨oc19, od19, .func (PySem.W.fnOf "connect" "connect" (defArgs sCon) (defBody sCon) (defScope sCon) .none kV19 dc19 pm19 an19 cd19 ct19), sl19⟩)
    (c19 : PySem.W.codeIn K cd19 "connect" = true)
    (k19 : PySem.W.keepIn K (.ref f19) = true)
    (a20 : PySem.W.nsIn K mainGlobals "disconnect" = some (some (.ref f20)))
    (l20 : K.lookup f20 = some ⟨oc20, od20, .func (PySem.W.fnOf "disconnect" "disconnect" (defArgs sDis) (defBody sDis) (defScope sDis) .none kV20 dc20 pm20 an20 cd20 ct20), sl20⟩)
    (c20 : PySem.W.codeIn K cd20 "disconnect" = true)
    (k20 : PySem.W.keepIn K (.ref f20) = true)
    (a21 : PySem.W.nsIn K mainGlobals "swap_teams" = some (some (.ref f21)))
    (l21 : K.lookup f21 = some ⟨oc21, od21, .func (PySem.W.fnOf "swap_teams" "swap_teams" (defArgs sSwap) (defBody sSwap) (defScope sSwap) .none kV21 dc21 pm21 an21 cd21 ct21), sl21⟩)
    (c21 : PySem.W.codeIn K cd21 "swap_teams" = true)
    (k21 : PySem.W.keepIn K (.ref f21) = true)
    (a22 : PySem.W.nsIn K mainGlobals "other_side" = some (some (.ref f22)))
    (l22 : K.lookup f22 = some ⟨oc22, od22, .func (PySem.W.fnOf "other_side" "other_side" (defArgs sOth) (defBody sOth) (defScope sOth) .none kV22 dc22 pm22 an22 cd22 ct22), sl22⟩)
    (c22 : PySem.W.codeIn K cd22 "other_side" = true)
    (k22 : PySem.W.keepIn K (.ref f22) = true)
    (a23 : PySem.W.nsIn K mainGlobals "fix_best" = some (some (.ref f23)))
    (l23 : K.lookup f23 = some ⟨oc23, od23, .func (PySem.W.fnOf "fix_best" "fix_best" (defArgs sFb) (defBody sFb) (defScope sFb) .none kV23 dc23 pm23 an23 cd23 ct23), sl23⟩)
    (c23 : PySem.W.codeIn K cd23 "fix_best" = true)
    (k23 : PySem.W.keepIn K (.ref f23) = true)
    (a24 : PySem.W.nsIn K mainGlobals "fixed_assignment" = some (some (.ref f24)))
    (l24 : K.lookup f24 = some ⟨oc24, od24, .func (PySem.W.fnOf "fixed_assignment" "fixed_assignment" (defArgs sFa) (defBody sFa) (defScope sFa) .none kV24 dc24 pm24 an24 cd24 ct24), sl24⟩)
    (c24 : PySem.W.codeIn K cd24 "fixed_assignment" = true)
    (k24 : PySem.W.keepIn K (.ref f24) = true)
    (a25 : PySem.W.nsIn K mainGlobals "is_valid" = some (some (.ref f25)))
    (l25 : K.lookup f25 = some ⟨oc25, od25, .func (PySem.W.fnOf "is_valid" "is_valid" (defArgs sIv) (defBody sIv) (defScope sIv) .none kV25 dc25 pm25 an25 cd25 ct25), sl25⟩)
    (c25 : PySem.W.codeIn K cd25 "is_valid" = true)
    (k25 : PySem.W.keepIn K (.ref f25) = true)
    (a26 : PySem.W.nsIn K mainGlobals "sold_seats" = some (some (.ref f26)))
    (l26 : K.lookup f26 = some ⟨oc26, od26, .func (PySem.W.fnOf "sold_seats" "sold_seats" (defArgs sSs) (defBody sSs) (defScope sSs) .none kV26 dc26 pm26 an26 cd26 ct26), sl26⟩)
    (c26 : PySem.W.codeIn K cd26 "sold_seats" = true)
    (k26 : PySem.W.keepIn K (.ref f26) = true)
    (a27 : PySem.W.nsIn K mainGlobals "join" = some (some (.ref f27)))
    (l27 : K.lookup f27 = some ⟨oc27, od27, .func (PySem.W.fnOf "join" "join" (defArgs sJoin) (defBody sJoin) (defScope sJoin) .none kV27 dc27 pm27 an27 cd27 ct27), sl27⟩)
    (c27 : PySem.W.codeIn K cd27 "join" = true)
    (k27 : PySem.W.keepIn K (.ref f27) = true)
    (a28 : PySem.W.nsIn K mainGlobals "meet" = some (some (.ref f28)))
    (l28 : K.lookup f28 = some ⟨oc28, od28, .func (PySem.W.fnOf "meet" "meet" (defArgs sMeet) (defBody sMeet) (defScope sMeet) .none kV28 dc28 pm28 an28 cd28 ct28), sl28⟩)
    (c28 : PySem.W.codeIn K cd28 "meet" = true)
    (k28 : PySem.W.keepIn K (.ref f28) = true)
    (a29 : PySem.W.nsIn K mainGlobals "combine" = some (some (.ref f29)))
    (l29 : K.lookup f29 = some ⟨oc29, od29, .func (PySem.W.fnOf "combine" "combine" (defArgs sComb) (defBody sComb) (defScope sComb) .none kV29 dc29 pm29 an29 cd29 ct29), sl29⟩)
    (c29 : PySem.W.codeIn K cd29 "combine" = true)
    (k29 : PySem.W.keepIn K (.ref f29) = true)
    (a30 : PySem.W.nsIn K mainGlobals "combined_use" = some (some (.ref f30)))
    (l30 : K.lookup f30 = some ⟨oc30, od30, .func (PySem.W.fnOf "combined_use" "combined_use" (defArgs sCu) (defBody sCu) (defScope sCu) .none kV30 dc30 pm30 an30 cd30 ct30), sl30⟩)
    (c30 : PySem.W.codeIn K cd30 "combined_use" = true)
    (k30 : PySem.W.keepIn K (.ref f30) = true)
    (a31 : PySem.W.nsIn K mainGlobals "is_allocation" = some (some (.ref f31)))
    (l31 : K.lookup f31 = some ⟨oc31, od31, .func (PySem.W.fnOf "is_allocation" "is_allocation" (defArgs sIsA) (defBody sIsA) (defScope sIsA) .none kV31 dc31 pm31 an31 cd31 ct31), sl31⟩)
    (c31 : PySem.W.codeIn K cd31 "is_allocation" = true)
    (k31 : PySem.W.keepIn K (.ref f31) = true)
    (a32 : PySem.W.nsIn K mainGlobals "list_blocks" = some (some (.ref f32)))
    (l32 : K.lookup f32 = some ⟨oc32, od32, .func (PySem.W.fnOf "list_blocks" "list_blocks" (defArgs sList) (defBody sList) (defScope sList) .none kV32 dc32 pm32 an32 cd32 ct32), sl32⟩)
    (c32 : PySem.W.codeIn K cd32 "list_blocks" = true)
    (k32 : PySem.W.keepIn K (.ref f32) = true)
    (a33 : PySem.W.nsIn K mainGlobals "neighbors" = some (some (.ref f33)))
    (l33 : K.lookup f33 = some ⟨oc33, od33, .func (PySem.W.fnOf "neighbors" "neighbors" (defArgs sNb) (defBody sNb) (defScope sNb) .none kV33 dc33 pm33 an33 cd33 ct33), sl33⟩)
    (c33 : PySem.W.codeIn K cd33 "neighbors" = true)
    (k33 : PySem.W.keepIn K (.ref f33) = true)
    (a34 : PySem.W.nsIn K mainGlobals "get_state" = some (some (.ref f34)))
    (l34 : K.lookup f34 = some ⟨oc34, od34, .func (PySem.W.fnOf "get_state" "get_state" (defArgs sGs) (defBody sGs) (defScope sGs) .none kV34 dc34 pm34 an34 cd34 ct34), sl34⟩)
    (c34 : PySem.W.codeIn K cd34 "get_state" = true)
    (k34 : PySem.W.keepIn K (.ref f34) = true)
    (a35 : PySem.W.nsIn K mainGlobals "best_allocation" = some (some (.ref f35)))
    (l35 : K.lookup f35 = some ⟨oc35, od35, .func (PySem.W.fnOf "best_allocation" "best_allocation" (defArgs sBa) (defBody sBa) (defScope sBa) .none kV35 dc35 pm35 an35 cd35 ct35), sl35⟩)
    (c35 : PySem.W.codeIn K cd35 "best_allocation" = true)
    (k35 : PySem.W.keepIn K (.ref f35) = true)
    (a36 : PySem.W.nsIn K mainGlobals "best_with_away" = some (some (.ref f36)))
    (l36 : K.lookup f36 = some ⟨oc36, od36, .func (PySem.W.fnOf "best_with_away" "best_with_away" (defArgs sBwa) (defBody sBwa) (defScope sBwa) .none kV36 dc36 pm36 an36 cd36 ct36), sl36⟩)
    (c36 : PySem.W.codeIn K cd36 "best_with_away" = true)
    (k36 : PySem.W.keepIn K (.ref f36) = true)
    (a37 : PySem.W.nsIn K mainGlobals "empty_seats" = some (some (.ref f37)))
    (l37 : K.lookup f37 = some ⟨oc37, od37, .func (PySem.W.fnOf "empty_seats" "empty_seats" (defArgs sEs) (defBody sEs) (defScope sEs) .none kV37 dc37 pm37 an37 cd37 ct37), sl37⟩)
    (c37 : PySem.W.codeIn K cd37 "empty_seats" = true)
    (k37 : PySem.W.keepIn K (.ref f37) = true)
    (a38 : PySem.W.nsIn K mainGlobals "max_away" = some (some (.ref f38)))
    (l38 : K.lookup f38 = some ⟨oc38, od38, .func (PySem.W.fnOf "max_away" "max_away" (defArgs sMa) (defBody sMa) (defScope sMa) .none kV38 dc38 pm38 an38 cd38 ct38), sl38⟩)
    (c38 : PySem.W.codeIn K cd38 "max_away" = true)
    (k38 : PySem.W.keepIn K (.ref f38) = true)
    (a39 : PySem.W.nsIn K mainGlobals "count_valid" = some (some (.ref f39)))
    (l39 : K.lookup f39 = some ⟨oc39, od39, .func (PySem.W.fnOf "count_valid" "count_valid" (defArgs sCv) (defBody sCv) (defScope sCv) .none kV39 dc39 pm39 an39 cd39 ct39), sl39⟩)
    (c39 : PySem.W.codeIn K cd39 "count_valid" = true)
    (k39 : PySem.W.keepIn K (.ref f39) = true)
    (a40 : PySem.W.nsIn K mainGlobals "sold_if_assigned" = some (some (.ref f40)))
    (l40 : K.lookup f40 = some ⟨oc40, od40, .func (PySem.W.fnOf "sold_if_assigned" "sold_if_assigned" (defArgs sSia) (defBody sSia) (defScope sSia) .none kV40 dc40 pm40 an40 cd40 ct40), sl40⟩)
    (c40 : PySem.W.codeIn K cd40 "sold_if_assigned" = true)
    (k40 : PySem.W.keepIn K (.ref f40) = true)
    (a41 : PySem.W.nsIn K mainGlobals "sold_if_closed" = some (some (.ref f41)))
    (l41 : K.lookup f41 = some ⟨oc41, od41, .func (PySem.W.fnOf "sold_if_closed" "sold_if_closed" (defArgs sSic) (defBody sSic) (defScope sSic) .none kV41 dc41 pm41 an41 cd41 ct41), sl41⟩)
    (c41 : PySem.W.codeIn K cd41 "sold_if_closed" = true)
    (k41 : PySem.W.keepIn K (.ref f41) = true)
    (a42 : PySem.W.nsIn K mainGlobals "answers" = some (some (.ref f42)))
    (l42 : K.lookup f42 = some ⟨oc42, od42, .func (PySem.W.fnOf "answers" "answers" (defArgs sAns) (defBody sAns) (defScope sAns) .none kV42 dc42 pm42 an42 cd42 ct42), sl42⟩)
    (c42 : PySem.W.codeIn K cd42 "answers" = true)
    (k42 : PySem.W.keepIn K (.ref f42) = true)
    (a43 : PySem.W.nsIn K mainGlobals "read_call" = some (some (.ref f43)))
    (l43 : K.lookup f43 = some ⟨oc43, od43, .func (PySem.W.fnOf "read_call" "read_call" (defArgs sRead) (defBody sRead) (defScope sRead) .none kV43 dc43 pm43 an43 cd43 ct43), sl43⟩)
    (c43 : PySem.W.codeIn K cd43 "read_call" = true)
    (k43 : PySem.W.keepIn K (.ref f43) = true)
    (a44 : PySem.W.nsIn K mainGlobals "answer_call" = some (some (.ref f44)))
    (l44 : K.lookup f44 = some ⟨oc44, od44, .func (PySem.W.fnOf "answer_call" "answer_call" (defArgs sCall) (defBody sCall) (defScope sCall) .none kV44 dc44 pm44 an44 cd44 ct44), sl44⟩)
    (c44 : PySem.W.codeIn K cd44 "answer_call" = true)
    (k44 : PySem.W.keepIn K (.ref f44) = true)
    (a45 : PySem.W.nsIn K mainGlobals "answer_change" = some (some (.ref f45)))
    (l45 : K.lookup f45 = some ⟨oc45, od45, .func (PySem.W.fnOf "answer_change" "answer_change" (defArgs sChg) (defBody sChg) (defScope sChg) .none kV45 dc45 pm45 an45 cd45 ct45), sl45⟩)
    (c45 : PySem.W.codeIn K cd45 "answer_change" = true)
    (k45 : PySem.W.keepIn K (.ref f45) = true)
    (a46 : PySem.W.nsIn K mainGlobals "answer_about_lists" = some (some (.ref f46)))
    (l46 : K.lookup f46 = some ⟨oc46, od46, .func (PySem.W.fnOf "answer_about_lists" "answer_about_lists" (defArgs sLst) (defBody sLst) (defScope sLst) .none kV46 dc46 pm46 an46 cd46 ct46), sl46⟩)
    (c46 : PySem.W.codeIn K cd46 "answer_about_lists" = true)
    (k46 : PySem.W.keepIn K (.ref f46) = true)
    (a47 : PySem.W.nsIn K mainGlobals "answer_query" = some (some (.ref f47)))
    (l47 : K.lookup f47 = some ⟨oc47, od47, .func (PySem.W.fnOf "answer_query" "answer_query" (defArgs sQry) (defBody sQry) (defScope sQry) .none kV47 dc47 pm47 an47 cd47 ct47), sl47⟩)
    (c47 : PySem.W.codeIn K cd47 "answer_query" = true)
    (k47 : PySem.W.keepIn K (.ref f47) = true)
    (pg : PySem.W.plainGet K C Str.empty = true)
    (hd : PySem.W.hasDictIn K C = true)
    (po : PySem.W.plainOver K C = true)
    (sa : PySem.W.findIn K (.ref C) "__setattr__" = some (some (.builtin "object.__setattr__")))
    (mk : PySem.W.makesIn K C = true)
    (kc : PySem.W.keepIn K (.ref C) = true)
    (n_seats : PySem.W.findIn K (.ref C) "seats" = some none)
    (n_assignments : PySem.W.findIn K (.ref C) "assignments" = some none)
    (n_pairs : PySem.W.findIn K (.ref C) "pairs" = some none)
    (b_len : PySem.W.nsIn K mainGlobals "len" = some none)
    (b_min : PySem.W.nsIn K mainGlobals "min" = some none)
    (b_max : PySem.W.nsIn K mainGlobals "max" = some none)
    (b_sum : PySem.W.nsIn K mainGlobals "sum" = some none)
    (b_range : PySem.W.nsIn K mainGlobals "range" = some none)
    (b_list : PySem.W.nsIn K mainGlobals "list" = some none)
    (b_zip : PySem.W.nsIn K mainGlobals "zip" = some none)
    (z0 : PySem.W.nsIn K mainGlobals "EMPTY" = some (some v0))
    (y0 : ∃ t, v0 = .int 0 t)
    (z1 : PySem.W.nsIn K mainGlobals "ANY_USE" = some (some v1))
    (y1 : ∃ t, v1 = .int 0 t)
    (z2 : PySem.W.nsIn K mainGlobals "HOME" = some (some v2))
    (y2 : ∃ t, v2 = .int 1 t)
    (z3 : PySem.W.nsIn K mainGlobals "AWAY" = some (some v3))
    (y3 : ∃ t, v3 = .int 2 t)
    (z4 : PySem.W.nsIn K mainGlobals "CLOSED" = some (some v4))
    (y4 : ∃ t, v4 = .int 3 t)
    (z5 : PySem.W.nsIn K mainGlobals "MOST_SEATS" = some (some v5))
    (y5 : ∃ t, v5 = .int 99 t)
    (z6 : PySem.W.nsIn K mainGlobals "MOST_BLOCKS" = some (some v6))
    (y6 : ∃ t, v6 = .int 6 t)
    (z7 : PySem.W.nsIn K mainGlobals "NO_SUCH_BLOCK" = some (some v7))
    (y7 : ∃ t, v7 = .int (-2) t)
    (z8 : PySem.W.nsIn K mainGlobals "NOTHING_TO_REMOVE" = some (some v8))
    (y8 : ∃ t, v8 = .int (-6) t)
    (z9 : PySem.W.nsIn K mainGlobals "NO_PLANNER" = some (some v9))
    (y9 : ∃ t, v9 = .int (-11) t)
    (z10 : PySem.W.nsIn K mainGlobals "ALREADY_ADJACENT" = some (some v10))
    (y10 : ∃ t, v10 = .int (-17) t)
    (z11 : PySem.W.nsIn K mainGlobals "OUT_OF_RANGE" = some (some v11))
    (y11 : ∃ t, v11 = .int (-22) t)
    (z12 : PySem.W.nsIn K mainGlobals "TOO_MANY_BLOCKS" = some (some v12))
    (y12 : ∃ t, v12 = .int (-28) t)
    (z13 : PySem.W.nsIn K mainGlobals "NO_ALLOCATION" = some (some v13))
    (y13 : ∃ t, v13 = .int (-33) t)
    (z14 : PySem.W.nsIn K mainGlobals "CREATE" = some (some v14))
    (y14 : ∃ t, v14 = .int 0 t)
    (z15 : PySem.W.nsIn K mainGlobals "ADD_BLOCK" = some (some v15))
    (y15 : ∃ t, v15 = .int 1 t)
    (z16 : PySem.W.nsIn K mainGlobals "REMOVE_LAST_BLOCK" = some (some v16))
    (y16 : ∃ t, v16 = .int 2 t)
    (z17 : PySem.W.nsIn K mainGlobals "SET_SEATS" = some (some v17))
    (y17 : ∃ t, v17 = .int 3 t)
    (z18 : PySem.W.nsIn K mainGlobals "ASSIGN" = some (some v18))
    (y18 : ∃ t, v18 = .int 4 t)
    (z19 : PySem.W.nsIn K mainGlobals "CONNECT" = some (some v19))
    (y19 : ∃ t, v19 = .int 5 t)
    (z20 : PySem.W.nsIn K mainGlobals "DISCONNECT" = some (some v20))
    (y20 : ∃ t, v20 = .int 6 t)
    (z21 : PySem.W.nsIn K mainGlobals "SWAP_TEAMS" = some (some v21))
    (y21 : ∃ t, v21 = .int 7 t)
    (z22 : PySem.W.nsIn K mainGlobals "LIST_BLOCKS" = some (some v22))
    (y22 : ∃ t, v22 = .int 8 t)
    (z23 : PySem.W.nsIn K mainGlobals "NEIGHBORS" = some (some v23))
    (y23 : ∃ t, v23 = .int 9 t)
    (z24 : PySem.W.nsIn K mainGlobals "BEST_ALLOCATION" = some (some v24))
    (y24 : ∃ t, v24 = .int 10 t)
    (z25 : PySem.W.nsIn K mainGlobals "EMPTY_SEATS" = some (some v25))
    (y25 : ∃ t, v25 = .int 11 t)
    (z26 : PySem.W.nsIn K mainGlobals "BEST_WITH_AWAY" = some (some v26))
    (y26 : ∃ t, v26 = .int 12 t)
    (z27 : PySem.W.nsIn K mainGlobals "MAX_AWAY" = some (some v27))
    (y27 : ∃ t, v27 = .int 13 t)
    (z28 : PySem.W.nsIn K mainGlobals "IS_VALID" = some (some v28))
    (y28 : ∃ t, v28 = .int 14 t)
    (z29 : PySem.W.nsIn K mainGlobals "SOLD_SEATS" = some (some v29))
    (y29 : ∃ t, v29 = .int 15 t)
    (z30 : PySem.W.nsIn K mainGlobals "JOIN" = some (some v30))
    (y30 : ∃ t, v30 = .int 16 t)
    (z31 : PySem.W.nsIn K mainGlobals "SOLD_IF_ASSIGNED" = some (some v31))
    (y31 : ∃ t, v31 = .int 18 t)
    (z32 : PySem.W.nsIn K mainGlobals "SOLD_IF_CLOSED" = some (some v32))
    (y32 : ∃ t, v32 = .int 19 t)
    (z33 : PySem.W.nsIn K mainGlobals "COUNT_VALID" = some (some v33))
    (y33 : ∃ t, v33 = .int 20 t)
    (z34 : PySem.W.nsIn K mainGlobals "FIX_BEST" = some (some v34))
    (y34 : ∃ t, v34 = .int 21 t)
    (ua0 : PySem.W.nsIn K mainGlobals "NUMBER_COUNTS" = some (some (.ref ta0)))
    (ul0 : K.lookup ta0 = some to0)
    (uv0 : TupObj to0 [.int 0, .int 1, .int 0, .int 2, .int 2, .int 2, .int 2, .int 0, .int 0, .int 1, .int 0, .int 0, .int 1, .int 0, .int 0, .int 0, .int 0, .int 0, .int 2, .int 1, .int 0, .int 0, .int 0])
    (ua1 : PySem.W.nsIn K mainGlobals "LIST_COUNTS" = some (some (.ref ta1)))
    (ul1 : K.lookup ta1 = some to1)
    (uv1 : TupObj to1 [.int 0, .int 0, .int 0, .int 0, .int 0, .int 0, .int 0, .int 0, .int 0, .int 0, .int 0, .int 0, .int 0, .int 0, .int 1, .int 1, .int 2, .int 2, .int 0, .int 0, .int 0, .int 0, .int 0]) : TopS K mg C :=
  ⟨⟨pg, hd, po, sa⟩,
   ⟨_, _, ⟨mk, a1, i1, kc⟩, fun_mk l1 c1 k1⟩,
   PySem.W.mg_of X G aC,
   n_seats,
   n_assignments,
   n_pairs,
   ⟨_, _, ⟨a2, i2, k2⟩, fun_mk l2 c2 k2⟩,
   ⟨_, _, ⟨a3, i3, k3⟩, fun_mk l3 c3 k3⟩,
   ⟨_, _, ⟨a4, i4, k4⟩, fun_mk l4 c4 k4⟩,
   ⟨_, _, ⟨a5, i5, k5⟩, fun_mk l5 c5 k5⟩,
   ⟨_, _, ⟨a6, i6, k6⟩, fun_mk l6 c6 k6⟩,
   ⟨_, _, PySem.W.mg_of X G a7, fun_mk l7 c7 k7⟩,
   ⟨_, _, PySem.W.mg_of X G a8, fun_mk l8 c8 k8⟩,
   ⟨_, _, PySem.W.mg_of X G a9, fun_mk l9 c9 k9⟩,
   ⟨_, _, PySem.W.mg_of X G a10, fun_mk l10 c10 k10⟩,
   ⟨_, _, PySem.W.mg_of X G a11, fun_mk l11 c11 k11⟩,
   ⟨_, _, PySem.W.mg_of X G a12, fun_mk l12 c12 k12⟩,
   ⟨_, _, PySem.W.mg_of X G a13, fun_mk l13 c13 k13⟩,
   ⟨_, _, PySem.W.mg_of X G a14, fun_mk l14 c14 k14⟩,
   ⟨_, _, PySem.W.mg_of X G a15, fun_mk l15 c15 k15⟩,
   ⟨_, _, PySem.W.mg_of X G a16, fun_mk l16 c16 k16⟩,
   ⟨_, _, PySem.W.mg_of X G a17, fun_mk l17 c17 k17⟩,
   ⟨_, _, PySem.W.mg_of X G a18, fun_mk l18 c18 k18⟩,
   ⟨_, _, PySem.W.mg_of X G a19, fun_mk l19 c19 k19⟩,
   ⟨_, _, PySem.W.mg_of X G a20, fun_mk l20 c20 k20⟩,
   ⟨_, _, PySem.W.mg_of X G a21, fun_mk l21 c21 k21⟩,
   ⟨_, _, PySem.W.mg_of X G a22, fun_mk l22 c22 k22⟩,
   ⟨_, _, PySem.W.mg_of X G a23, fun_mk l23 c23 k23⟩,
   ⟨_, _, PySem.W.mg_of X G a24, fun_mk l24 c24 k24⟩,
   ⟨_, _, PySem.W.mg_of X G a25, fun_mk l25 c25 k25⟩,
   ⟨_, _, PySem.W.mg_of X G a26, fun_mk l26 c26 k26⟩,
   ⟨_, _, PySem.W.mg_of X G a27, fun_mk l27 c27 k27⟩,
   ⟨_, _, PySem.W.mg_of X G a28, fun_mk l28 c28 k28⟩,
   ⟨_, _, PySem.W.mg_of X G a29, fun_mk l29 c29 k29⟩,
   ⟨_, _, PySem.W.mg_of X G a30, fun_mk l30 c30 k30⟩,
   ⟨_, _, PySem.W.mg_of X G a31, fun_mk l31 c31 k31⟩,
   ⟨_, _, PySem.W.mg_of X G a32, fun_mk l32 c32 k32⟩,
   ⟨_, _, PySem.W.mg_of X G a33, fun_mk l33 c33 k33⟩,
   ⟨_, _, PySem.W.mg_of X G a34, fun_mk l34 c34 k34⟩,
   ⟨_, _, PySem.W.mg_of X G a35, fun_mk l35 c35 k35⟩,
   ⟨_, _, PySem.W.mg_of X G a36, fun_mk l36 c36 k36⟩,
   ⟨_, _, PySem.W.mg_of X G a37, fun_mk l37 c37 k37⟩,
   ⟨_, _, PySem.W.mg_of X G a38, fun_mk l38 c38 k38⟩,
   ⟨_, _, PySem.W.mg_of X G a39, fun_mk l39 c39 k39⟩,
   ⟨_, _, PySem.W.mg_of X G a40, fun_mk l40 c40 k40⟩,
   ⟨_, _, PySem.W.mg_of X G a41, fun_mk l41 c41 k41⟩,
   ⟨_, _, PySem.W.mg_of X G a42, fun_mk l42 c42 k42⟩,
   ⟨_, _, PySem.W.mg_of X G a43, fun_mk l43 c43 k43⟩,
   ⟨_, _, PySem.W.mg_of X G a44, fun_mk l44 c44 k44⟩,
   ⟨_, _, PySem.W.mg_of X G a45, fun_mk l45 c45 k45⟩,
   ⟨_, _, PySem.W.mg_of X G a46, fun_mk l46 c46 k46⟩,
   ⟨_, _, PySem.W.mg_of X G a47, fun_mk l47 c47 k47⟩,
   gi_of X G z0 y0,
   gi_of X G z1 y1,
   gi_of X G z2 y2,
   gi_of X G z3 y3,
   gi_of X G z4 y4,
   gi_of X G z5 y5,
   gi_of X G z6 y6,
   gi_of X G z7 y7,
   gi_of X G z8 y8,
   gi_of X G z9 y9,
   gi_of X G z10 y10,
   gi_of X G z11 y11,
   gi_of X G z12 y12,
   gi_of X G z13 y13,
   gi_of X G z14 y14,
   gi_of X G z15 y15,
   gi_of X G z16 y16,
   gi_of X G z17 y17,
   gi_of X G z18 y18,
   gi_of X G z19 y19,
   gi_of X G z20 y20,
   gi_of X G z21 y21,
   gi_of X G z22 y22,
   gi_of X G z23 y23,
   gi_of X G z24 y24,
   gi_of X G z25 y25,
   gi_of X G z26 y26,
   gi_of X G z27 y27,
   gi_of X G z28 y28,
   gi_of X G z29 y29,
   gi_of X G z30 y30,
   gi_of X G z31 y31,
   gi_of X G z32 y32,
   gi_of X G z33 y33,
   gi_of X G z34 y34,
   gt_of X G ua0 ul0 uv0,
   gt_of X G ua1 ul1 uv1,
   PySem.W.mg_none_of X G b_len,
   PySem.W.mg_none_of X G b_min,
   PySem.W.mg_none_of X G b_max,
   PySem.W.mg_none_of X G b_sum,
   PySem.W.mg_none_of X G b_range,
   PySem.W.mg_none_of X G b_list,
   PySem.W.mg_none_of X G b_zip⟩
end SB

set_option Elab.async false
set_option linter.all false
set_option maxRecDepth 100000
set_option maxHeartbeats 4000000
namespace SB
open PySem PySem.Spec PyProof.Rows L2
theorem ok_all {P : Program} {w : World} {K : PySem.W.Frag} {mg : Str → Option Value} {fa C : Addr} (hfa : mg "answers" = some (.ref fa)) (T : TopS K mg C) :
    ∃ fd : FuncData, (∀ (s : Shared) (us : List Value), us.length = (["calls"] : List Str).length → BindsTo s fd ⟨us, []⟩ ((["calls"] : List Str).zip us)) ∧ ∀ base : Heap, K.In base → base.Ns mainGlobals mg → FnOk P w K mg base CX0 kAns fa fd ["calls"] (spAns K) := by
  obtain ⟨f, fd, h, F⟩ := T.d_answers
  have e := hfa.symm.trans h
  cases e
  obtain ⟨oc, od, kV, doc, pm, an, cdv, ct, osl, efd, _⟩ := id F.ex
  refine ⟨fd, fun s us hu => by
    subst efd
    exact match us, hu with | [_], _ => .of_eq rfl, fun base _ _ => ?_⟩
  have TX : Txt K mg C := ⟨T.cl, T.n_seats, T.n_assignments, T.n_pairs, T.gC, T.b_len, T.b_min, T.b_max, T.b_sum, T.b_range⟩
  have Z : Cs mg := ⟨T.i_NO_SUCH_BLOCK, T.i_NOTHING_TO_REMOVE, T.i_NO_PLANNER, T.i_ALREADY_ADJACENT, T.i_OUT_OF_RANGE, T.i_TOO_MANY_BLOCKS, T.i_NO_ALLOCATION, T.i_EMPTY, T.i_ANY_USE, T.i_HOME, T.i_AWAY, T.i_CLOSED, T.i_MOST_SEATS, T.i_MOST_BLOCKS⟩
  have N : Cp mg := ⟨T.i_CREATE, T.i_ADD_BLOCK, T.i_REMOVE_LAST_BLOCK, T.i_SET_SEATS, T.i_ASSIGN, T.i_CONNECT, T.i_DISCONNECT, T.i_SWAP_TEAMS, T.i_LIST_BLOCKS, T.i_NEIGHBORS, T.i_BEST_ALLOCATION, T.i_EMPTY_SEATS, T.i_BEST_WITH_AWAY, T.i_MAX_AWAY, T.i_IS_VALID, T.i_SOLD_SEATS, T.i_JOIN, T.i_SOLD_IF_ASSIGNED, T.i_SOLD_IF_CLOSED, T.i_COUNT_VALID, T.i_FIX_BEST⟩
  have GN : Ini P w K mg base C := by
    obtain ⟨f1, fd1, M, F1⟩ := T.init
    exact ⟨f1, fd1, M, F1.binds (fun _ _ _ _ _ _ us hl => match us, hl with | [_], _ => rfl), ok_init F1 TX⟩
  have Mbc : Mt P w K mg base C "block_count" 1 ["self"] (spBc C) := T.m_block_count.mt (fun _ _ F => ok_bc F TX) (fun _ _ _ _ _ _ us hl => match us, hl with | [_], _ => rfl)
  have Mhb : Mt P w K mg base C "has_block" 1 ["self", "block"] (spHb C) := T.m_has_block.mt (fun _ _ F => ok_hb F TX) (fun _ _ _ _ _ _ us hl => match us, hl with | [_, _], _ => rfl)
  have Maa : Mt P w K mg base C "are_adjacent" 1 ["self", "i", "j"] (spAa C) := T.m_are_adjacent.mt (fun _ _ F => ok_aa F TX) (fun _ _ _ _ _ _ us hl => match us, hl with | [_, _, _], _ => rfl)
  have Mab : Mt P w K mg base C "adjacent_blocks" 2 ["self", "block"] (spAb C) := by
    obtain ⟨g, gd, mA, FA⟩ := T.m_are_adjacent
    exact T.m_adjacent_blocks.mt (fun _ _ F => ok_ab F TX mA (FA.binds (fun _ _ _ _ _ _ us hl => match us, hl with | [_, _, _], _ => rfl)) (ok_aa FA TX)) (fun _ _ _ _ _ _ us hl => match us, hl with | [_, _], _ => rfl)
  have Mre : Mt P w K mg base C "reassigned" 3 ["self", "block", "assignment"] (spRe C) := T.m_reassigned.mt (fun _ _ F => ok_re F TX T.b_list GN) (fun _ _ _ _ _ _ us hl => match us, hl with | [_, _, _], _ => rfl)
  have Driv : Fn P w K mg base "are_rivals" 1 ["first_use", "second_use"] spRiv := T.d_are_rivals.fn (fun _ _ F => ok_riv F Z) (fun _ _ _ _ _ _ us hl => match us, hl with | [_, _], _ => rfl)
  have Dmee : Fn P w K mg base "meets_rival" 2 ["allocation", "blocks", "use"] (spMee K) := T.d_meets_rival.fn (fun _ _ F => ok_mee F Driv) (fun _ _ _ _ _ _ us hl => match us, hl with | [_, _, _], _ => rfl)
  have Duse : Fn P w K mg base "allowed_uses" 1 ["assignment"] spUse := T.d_allowed_uses.fn (fun _ _ F => ok_use F Z) (fun _ _ _ _ _ _ us hl => match us, hl with | [_], _ => rfl)
  have Dcs : Fn P w K mg base "count_seats" 1 ["stadium", "allocation", "use"] (spCs C K) := T.d_count_seats.fn (fun _ _ F => ok_cs F TX) (fun _ _ _ _ _ _ us hl => match us, hl with | [_, _, _], _ => rfl)
  have Dsold : Fn P w K mg base "count_sold" 2 ["stadium", "allocation"] (spSold C K) := T.d_count_sold.fn (fun _ _ F => ok_sold F Z Dcs) (fun _ _ _ _ _ _ us hl => match us, hl with | [_, _], _ => rfl)
  have Dext : Fn P w K mg base "extended_by_block" 3 ["stadium", "allocations", "block"] (spExt C) := T.d_extended_by_block.fn (fun _ _ F => ok_ext F TX Z Duse Dmee Mab) (fun _ _ _ _ _ _ us hl => match us, hl with | [_, _, _], _ => rfl)
  have Dval : Fn P w K mg base "valid_allocations" 4 ["stadium"] (spVal C) := T.d_valid_allocations.fn (fun _ _ F => ok_val F TX Mbc Dext) (fun _ _ _ _ _ _ us hl => match us, hl with | [_], _ => rfl)
  have Dbest : Fn P w K mg base "find_best" 5 ["stadium", "min_away"] (spBest C) := T.d_find_best.fn (fun _ _ F => ok_best F Z Dval Dcs Dsold) (fun _ _ _ _ _ _ us hl => match us, hl with | [_, _], _ => rfl)
  have Dadd : Fn P w K mg base "add_block" 2 ["stadium", "seats"] (spAdd C) := T.d_add_block.fn (fun _ _ F => ok_add F TX Z Mbc) (fun _ _ _ _ _ _ us hl => match us, hl with | [_, _], _ => rfl)
  have Drem : Fn P w K mg base "remove_last_block" 2 ["stadium"] (spRem C) := T.d_remove_last_block.fn (fun _ _ F => ok_rem F TX Z Mbc) (fun _ _ _ _ _ _ us hl => match us, hl with | [_], _ => rfl)
  have Dset : Fn P w K mg base "set_seats" 2 ["stadium", "block", "seats"] (spSet C) := T.d_set_seats.fn (fun _ _ F => ok_set F TX Z Mhb) (fun _ _ _ _ _ _ us hl => match us, hl with | [_, _, _], _ => rfl)
  have Dasg : Fn P w K mg base "assign" 2 ["stadium", "block", "assignment"] (spAsg C) := T.d_assign.fn (fun _ _ F => ok_asg F TX Z Mhb) (fun _ _ _ _ _ _ us hl => match us, hl with | [_, _, _], _ => rfl)
  have Dcon : Fn P w K mg base "connect" 2 ["stadium", "i", "j"] (spCon C) := T.d_connect.fn (fun _ _ F => ok_con F TX Z Mhb Maa) (fun _ _ _ _ _ _ us hl => match us, hl with | [_, _, _], _ => rfl)
  have Ddis : Fn P w K mg base "disconnect" 2 ["stadium", "i", "j"] (spDis C) := T.d_disconnect.fn (fun _ _ F => ok_dis F TX Z Mhb Maa) (fun _ _ _ _ _ _ us hl => match us, hl with | [_, _, _], _ => rfl)
  have Doth : Fn P w K mg base "other_side" 1 ["assignment"] spOth := T.d_other_side.fn (fun _ _ F => ok_oth F Z) (fun _ _ _ _ _ _ us hl => match us, hl with | [_], _ => rfl)
  have Dswp : Fn P w K mg base "swap_teams" 2 ["stadium"] (spSwap C) := T.d_swap_teams.fn (fun _ _ F => ok_swap F TX Mbc Doth) (fun _ _ _ _ _ _ us hl => match us, hl with | [_], _ => rfl)
  have Dfa : Fn P w K mg base "fixed_assignment" 1 ["use"] spFa := T.d_fixed_assignment.fn (fun _ _ F => ok_fa F Z) (fun _ _ _ _ _ _ us hl => match us, hl with | [_], _ => rfl)
  have Dfb : Fn P w K mg base "fix_best" 6 ["stadium"] (spOp0 C .fixBest) := T.d_fix_best.fn (fun _ _ F => ok_fb F TX Z Dbest Dsold Dfa) (fun _ _ _ _ _ _ us hl => match us, hl with | [_], _ => rfl)
  have Disa : Fn P w K mg base "is_allocation" 2 ["stadium", "given"] (spIsA C K) := T.d_is_allocation.fn (fun _ _ F => ok_isa F TX Z Mbc) (fun _ _ _ _ _ _ us hl => match us, hl with | [_, _], _ => rfl)
  have Div : Fn P w K mg base "is_valid" 5 ["stadium", "allocation"] (spGiv1 C K .isValid) := T.d_is_valid.fn (fun _ _ F => ok_iv F Z Disa Dval) (fun _ _ _ _ _ _ us hl => match us, hl with | [_, _], _ => rfl)
  have Dss : Fn P w K mg base "sold_seats" 3 ["stadium", "allocation"] (spGiv1 C K .soldSeats) := T.d_sold_seats.fn (fun _ _ F => ok_ss F Z Disa Dcs Dsold) (fun _ _ _ _ _ _ us hl => match us, hl with | [_, _], _ => rfl)
  have Dcu : Fn P w K mg base "combined_use" 1 ["first_use", "second_use", "side"] spCu := T.d_combined_use.fn (fun _ _ F => ok_cu F Z) (fun _ _ _ _ _ _ us hl => match us, hl with | [_, _, _], _ => rfl)
  have Dcomb : Fn P w K mg base "combine" 3 ["stadium", "first", "second", "side"] (spComb C K) := T.d_combine.fn (fun _ _ F => ok_comb F TX Z T.b_zip Disa Dcu) (fun _ _ _ _ _ _ us hl => match us, hl with | [_, _, _, _], _ => rfl)
  have Djoin : Fn P w K mg base "join" 4 ["stadium", "first", "second"] (spGiv2 C K .join) := T.d_join.fn (fun _ _ F => ok_join F Z Dcomb) (fun _ _ _ _ _ _ us hl => match us, hl with | [_, _, _], _ => rfl)
  have Dmeet : Fn P w K mg base "meet" 4 ["stadium", "first", "second"] (spGiv2 C K .meet) := T.d_meet.fn (fun _ _ F => ok_meet F Z Dcomb) (fun _ _ _ _ _ _ us hl => match us, hl with | [_, _, _], _ => rfl)
  have Dlb : Fn P w K mg base "list_blocks" 2 ["stadium"] (spOp0 C .listBlocks) := T.d_list_blocks.fn (fun _ _ F => ok_list F TX Mbc) (fun _ _ _ _ _ _ us hl => match us, hl with | [_], _ => rfl)
  have Dnb : Fn P w K mg base "neighbors" 3 ["stadium", "block"] (spOp1 C .neighbors) := T.d_neighbors.fn (fun _ _ F => ok_nb F TX Z Mhb Mab) (fun _ _ _ _ _ _ us hl => match us, hl with | [_, _], _ => rfl)
  have Dgs : Fn P w K mg base "get_state" 2 ["stadium"] (spOp0 C .getState) := T.d_get_state.fn (fun _ _ F => ok_gs F TX Mbc) (fun _ _ _ _ _ _ us hl => match us, hl with | [_], _ => rfl)
  have Dbwa : Fn P w K mg base "best_with_away" 6 ["stadium", "min_away"] (spOp1 C .bestWithAway) := T.d_best_with_away.fn (fun _ _ F => ok_bwa F Z Dbest Dsold) (fun _ _ _ _ _ _ us hl => match us, hl with | [_, _], _ => rfl)
  have Dba : Fn P w K mg base "best_allocation" 7 ["stadium"] (spOp0 C .bestAllocation) := T.d_best_allocation.fn (fun _ _ F => ok_ba F Dbwa) (fun _ _ _ _ _ _ us hl => match us, hl with | [_], _ => rfl)
  have Des : Fn P w K mg base "empty_seats" 6 ["stadium"] (spOp0 C .emptySeats) := T.d_empty_seats.fn (fun _ _ F => ok_es F TX Z Dbest Dsold) (fun _ _ _ _ _ _ us hl => match us, hl with | [_], _ => rfl)
  have Dma : Fn P w K mg base "max_away" 5 ["stadium"] (spOp0 C .maxAway) := T.d_max_away.fn (fun _ _ F => ok_ma F TX Z Dval Dcs) (fun _ _ _ _ _ _ us hl => match us, hl with | [_], _ => rfl)
  have Dcv : Fn P w K mg base "count_valid" 5 ["stadium"] (spOp0 C .countValid) := T.d_count_valid.fn (fun _ _ F => ok_cv F TX Dval) (fun _ _ _ _ _ _ us hl => match us, hl with | [_], _ => rfl)
  have Dsia : Fn P w K mg base "sold_if_assigned" 6 ["stadium", "block", "assignment"] (spSia C) := T.d_sold_if_assigned.fn (fun _ _ F => ok_sia F TX Z Mhb Mre Dbest Dsold) (fun _ _ _ _ _ _ us hl => match us, hl with | [_, _, _], _ => rfl)
  have Dsic : Fn P w K mg base "sold_if_closed" 7 ["stadium", "block"] (spOp1 C .soldIfClosed) := T.d_sold_if_closed.fn (fun _ _ F => ok_sic F Z Dsia) (fun _ _ _ _ _ _ us hl => match us, hl with | [_, _], _ => rfl)
  have Dread : Fn P w K mg base "read_call" 1 ["calls", "start"] (spRead K) := T.d_read_call.fn (fun _ _ F => ok_read F TX T.t_NUMBER_COUNTS T.t_LIST_COUNTS) (fun _ _ _ _ _ _ us hl => match us, hl with | [_, _], _ => rfl)
  have Dchg : Fn P w K mg base "answer_change" 7 ["stadium", "call"] (spChg C) := T.d_answer_change.fn (fun _ _ F => ok_chg F N Dadd Drem Dset Dasg Dcon Ddis Dswp Dfb) (fun _ _ _ _ _ _ us hl => match us, hl with | [_, _], _ => rfl)
  have Dqry : Fn P w K mg base "answer_query" 8 ["stadium", "call"] (spQry C) := T.d_answer_query.fn (fun _ _ F => ok_qry F N Dlb Dnb Dba Des Dbwa Dma Dsia Dsic Dcv Dgs) (fun _ _ _ _ _ _ us hl => match us, hl with | [_, _], _ => rfl)
  have Dlst : Fn P w K mg base "answer_about_lists" 6 ["stadium", "number", "lists"] (spLst C) := T.d_answer_about_lists.fn (fun _ _ F => ok_lst F N Div Dss Djoin Dmeet) (fun _ _ _ _ _ _ us hl => match us, hl with | [_, _, _], _ => rfl)
  have Dcall : Fn P w K mg base "answer_call" 9 ["stadium", "call", "lists"] (spCall C) := T.d_answer_call.fn (fun _ _ F => ok_call F N Dchg Dqry Dlst) (fun _ _ _ _ _ _ us hl => match us, hl with | [_, _, _], _ => rfl)
  exact ok_ans F TX Z N GN Dread Dcall
end SB

open PySem PySem.W PyProof.Rows
set_option maxRecDepth 100000 in
set_option maxHeartbeats 8000000 in
theorem PySem.Challenge.cw_standblocks_s01_answers_holds : PySem.Challenge.rw_standblocks_s01_answers.Holds := by
  w_on; k_headS; (case hw => exact ⟨[.list [.int 0]], by decide +kernel, by decide +kernel⟩)
  k_fillS
  refine L2.walk_specK (r := PySem.Challenge.rw_standblocks_s01_answers) (k := SB.kAns) (CX := L2.CX0) (ps := ["calls"]) (sp := SB.spAns) (by decide +kernel) rfl rfl ⟨rfl, by decide, by decide⟩ (fun w h Y => PySem.W.kIn_of Y) ?F ?S (fun _ _ _ _ z => z)
  case F =>
    intro w mg fa h Y KX G hmg
    refine' SB.ok_all hmg (SB.top_mk KX G ?aC ?a1 ?i1 ?l1 ?c1 ?k1 ?a2 ?i2 ?l2 ?c2 ?k2 ?a3 ?i3 ?l3 ?c3 ?k3 ?a4 ?i4 ?l4 ?c4 ?k4 ?a5 ?i5 ?l5 ?c5 ?k5 ?a6 ?i6 ?l6 ?c6 ?k6 ?a7 ?l7 ?c7 ?k7 ?a8 ?l8 ?c8 ?k8 ?a9 ?l9 ?c9 ?k9 ?a10 ?l10 ?c10 ?k10 ?a11 ?l11 ?c11 ?k11 ?a12 ?l12 ?c12 ?k12 ?a13 ?l13 ?c13 ?k13 ?a14 ?l14 ?c14 ?k14 ?a15 ?l15 ?c15 ?k15 ?a16 ?l16 ?c16 ?k16 ?a17 ?l17 ?c17 ?k17 ?a18 ?l18 ?c18 ?k18 ?a19 ?l19 ?c19 ?k19 ?a20 ?l20 ?c20 ?k20 ?a21 ?l21 ?c21 ?k21 ?a22 ?l22 ?c22 ?k22 ?a23 ?l23 ?c23 ?k23 ?a24 ?l24 ?c24 ?k24 ?a25 ?l25 ?c25 ?k25 ?a26 ?l26 ?c26 ?k26 ?a27 ?l27 ?c27 ?k27 ?a28 ?l28 ?c28 ?k28 ?a29 ?l29 ?c29 ?k29 ?a30 ?l30 ?c30 ?k30 ?a31 ?l31 ?c31 ?k31 ?a32 ?l32 ?c32 ?k32 ?a33 ?l33 ?c33 ?k33 ?a34 ?l34 ?c34 ?k34 ?a35 ?l35 ?c35 ?k35 ?a36 ?l36 ?c36 ?k36 ?a37 ?l37 ?c37 ?k37 ?a38 ?l38 ?c38 ?k38 ?a39 ?l39 ?c39 ?k39 ?a40 ?l40 ?c40 ?k40 ?a41 ?l41 ?c41 ?k41 ?a42 ?l42 ?c42 ?k42 ?a43 ?l43 ?c43 ?k43 ?a44 ?l44 ?c44 ?k44 ?a45 ?l45 ?c45 ?k45 ?a46 ?l46 ?c46 ?k46 ?a47 ?l47 ?c47 ?k47 ?pg ?hd ?po ?sa ?mk ?kc ?n_seats ?n_assignments ?n_pairs ?b_len ?b_min ?b_max ?b_sum ?b_range ?b_list ?b_zip ?z0 ?y0 ?z1 ?y1 ?z2 ?y2 ?z3 ?y3 ?z4 ?y4 ?z5 ?y5 ?z6 ?y6 ?z7 ?y7 ?z8 ?y8 ?z9 ?y9 ?z10 ?y10 ?z11 ?y11 ?z12 ?y12 ?z13 ?y13 ?z14 ?y14 ?z15 ?y15 ?z16 ?y16 ?z17 ?y17 ?z18 ?y18 ?z19 ?y19 ?z20 ?y20 ?z21 ?y21 ?z22 ?y22 ?z23 ?y23 ?z24 ?y24 ?z25 ?y25 ?z26 ?y26 ?z27 ?y27 ?z28 ?y28 ?z29 ?y29 ?z30 ?y30 ?z31 ?y31 ?z32 ?y32 ?z33 ?y33 ?z34 ?y34 ?ua0 ?ul0 ?uv0 ?ua1 ?ul1 ?uv1)
    (case aC => k_is)
    (case a1 => k_is)
    (case i1 => k_is)
    (case l1 => k_is)
    (case c1 => k_is)
    (case k1 => k_is)
    (case a2 => k_is)
    (case i2 => k_is)
    (case l2 => k_is)
    (case c2 => k_is)
    (case k2 => k_is)
    (case a3 => k_is)
    (case i3 => k_is)
    (case l3 => k_is)
    (case c3 => k_is)
    (case k3 => k_is)
    (case a4 => k_is)
    (case i4 => k_is)
    (case l4 => k_is)
    (case c4 => k_is)
    (case k4 => k_is)
    (case a5 => k_is)
    (case i5 => k_is)
    (case l5 => k_is)
    (case c5 => k_is)
    (case k5 => k_is)
    (case a6 => k_is)
    (case i6 => k_is)
    (case l6 => k_is)
    (case c6 => k_is)
    (case k6 => k_is)
    (case a7 => k_is)
    (case l7 => k_is)
    (case c7 => k_is)
    (case k7 => k_is)
    (case a8 => k_is)
    (case l8 => k_is)
    (case c8 => k_is)
    (case k8 => k_is)
    (case a9 => k_is)
    (case l9 => k_is)
    (case c9 => k_is)
    (case k9 => k_is)
    (case a10 => k_is)
    (case l10 => k_is)
    (case c10 => k_is)
    (case k10 => k_is)
    (case a11 => k_is)
    (case l11 => k_is)
    (case c11 => k_is)
    (case k11 => k_is)
    (case a12 => k_is)
    (case l12 => k_is)
    (case c12 => k_is)
    (case k12 => k_is)
    (case a13 => k_is)
    (case l13 => k_is)
    (case c13 => k_is)
    (case k13 => k_is)
    (case a14 => k_is)
    (case l14 => k_is)
    (case c14 => k_is)
    (case k14 => k_is)
    (case a15 => k_is)
    (case l15 => k_is)
    (case c15 => k_is)
    (case k15 => k_is)
    (case a16 => k_is)
    (case l16 => k_is)
    (case c16 => k_is)
    (case k16 => k_is)
    (case a17 => k_is)
    (case l17 => k_is)
    (case c17 => k_is)
    (case k17 => k_is)
    (case a18 => k_is)
    (case l18 => k_is)
    (case c18 => k_is)
    (case k18 => k_is)
    (case a19 => k_is)
    (case l19 => k_is)
    (case c19 => k_is)
    (case k19 => k_is)
    (case a20 => k_is)
    (case l20 => k_is)
    (case c20 => k_is)
    (case k20 => k_is)
    (case a21 => k_is)
    (case l21 => k_is)
    (case c21 => k_is)
    (case k21 => k_is)
    (case a22 => k_is)
    (case l22 => k_is)
    (case c22 => k_is)
    (case k22 => k_is)
    (case a23 => k_is)
    (case l23 => k_is)
    (case c23 => k_is)
    (case k23 => k_is)
    (case a24 => k_is)
    (case l24 => k_is)
    (case c24 => k_is)
    (case k24 => k_is)
    (case a25 => k_is)
    (case l25 => k_is)
    (case c25 => k_is)
    (case k25 => k_is)
    (case a26 => k_is)
    (case l26 => k_is)
    (case c26 => k_is)
    (case k26 => k_is)
    (case a27 => k_is)
    (case l27 => k_is)
    (case c27 => k_is)
    (case k27 => k_is)
    (case a28 => k_is)
    (case l28 => k_is)
    (case c28 => k_is)
    (case k28 => k_is)
    (case a29 => k_is)
    (case l29 => k_is)
    (case c29 => k_is)
    (case k29 => k_is)
    (case a30 => k_is)
    (case l30 => k_is)
    (case c30 => k_is)
    (case k30 => k_is)
    (case a31 => k_is)
    (case l31 => k_is)
    (case c31 => k_is)
    (case k31 => k_is)
    (case a32 => k_is)
    (case l32 => k_is)
    (case c32 => k_is)
    (case k32 => k_is)
    (case a33 => k_is)
    (case l33 => k_is)
    (case c33 => k_is)
    (case k33 => k_is)
    (case a34 => k_is)
    (case l34 => k_is)
    (case c34 => k_is)
    (case k34 => k_is)
    (case a35 => k_is)
    (case l35 => k_is)
    (case c35 => k_is)
    (case k35 => k_is)
    (case a36 => k_is)
    (case l36 => k_is)
    (case c36 => k_is)
    (case k36 => k_is)
    (case a37 => k_is)
    (case l37 => k_is)
    (case c37 => k_is)
    (case k37 => k_is)
    (case a38 => k_is)
    (case l38 => k_is)
    (case c38 => k_is)
    (case k38 => k_is)
    (case a39 => k_is)
    (case l39 => k_is)
    (case c39 => k_is)
    (case k39 => k_is)
    (case a40 => k_is)
    (case l40 => k_is)
    (case c40 => k_is)
    (case k40 => k_is)
    (case a41 => k_is)
    (case l41 => k_is)
    (case c41 => k_is)
    (case k41 => k_is)
    (case a42 => k_is)
    (case l42 => k_is)
    (case c42 => k_is)
    (case k42 => k_is)
    (case a43 => k_is)
    (case l43 => k_is)
    (case c43 => k_is)
    (case k43 => k_is)
    (case a44 => k_is)
    (case l44 => k_is)
    (case c44 => k_is)
    (case k44 => k_is)
    (case a45 => k_is)
    (case l45 => k_is)
    (case c45 => k_is)
    (case k45 => k_is)
    (case a46 => k_is)
    (case l46 => k_is)
    (case c46 => k_is)
    (case k46 => k_is)
    (case a47 => k_is)
    (case l47 => k_is)
    (case c47 => k_is)
    (case k47 => k_is)
    (case pg => k_is)
    (case hd => k_is)
    (case po => k_is)
    (case sa => k_is)
    (case mk => k_is)
    (case kc => k_is)
    (case n_seats => k_is)
    (case n_assignments => k_is)
    (case n_pairs => k_is)
    (case b_len => k_is)
    (case b_min => k_is)
    (case b_max => k_is)
    (case b_sum => k_is)
    (case b_range => k_is)
    (case b_list => k_is)
    (case b_zip => k_is)
    (case z0 => k_is)
    (case y0 => exact ⟨_, rfl⟩)
    (case z1 => k_is)
    (case y1 => exact ⟨_, rfl⟩)
    (case z2 => k_is)
    (case y2 => exact ⟨_, rfl⟩)
    (case z3 => k_is)
    (case y3 => exact ⟨_, rfl⟩)
    (case z4 => k_is)
    (case y4 => exact ⟨_, rfl⟩)
    (case z5 => k_is)
    (case y5 => exact ⟨_, rfl⟩)
    (case z6 => k_is)
    (case y6 => exact ⟨_, rfl⟩)
    (case z7 => k_is)
    (case y7 => exact ⟨_, rfl⟩)
    (case z8 => k_is)
    (case y8 => exact ⟨_, rfl⟩)
    (case z9 => k_is)
    (case y9 => exact ⟨_, rfl⟩)
    (case z10 => k_is)
    (case y10 => exact ⟨_, rfl⟩)
    (case z11 => k_is)
    (case y11 => exact ⟨_, rfl⟩)
    (case z12 => k_is)
    (case y12 => exact ⟨_, rfl⟩)
    (case z13 => k_is)
    (case y13 => exact ⟨_, rfl⟩)
    (case z14 => k_is)
    (case y14 => exact ⟨_, rfl⟩)
    (case z15 => k_is)
    (case y15 => exact ⟨_, rfl⟩)
    (case z16 => k_is)
    (case y16 => exact ⟨_, rfl⟩)
    (case z17 => k_is)
    (case y17 => exact ⟨_, rfl⟩)
    (case z18 => k_is)
    (case y18 => exact ⟨_, rfl⟩)
    (case z19 => k_is)
    (case y19 => exact ⟨_, rfl⟩)
    (case z20 => k_is)
    (case y20 => exact ⟨_, rfl⟩)
    (case z21 => k_is)
    (case y21 => exact ⟨_, rfl⟩)
    (case z22 => k_is)
    (case y22 => exact ⟨_, rfl⟩)
    (case z23 => k_is)
    (case y23 => exact ⟨_, rfl⟩)
    (case z24 => k_is)
    (case y24 => exact ⟨_, rfl⟩)
    (case z25 => k_is)
    (case y25 => exact ⟨_, rfl⟩)
    (case z26 => k_is)
    (case y26 => exact ⟨_, rfl⟩)
    (case z27 => k_is)
    (case y27 => exact ⟨_, rfl⟩)
    (case z28 => k_is)
    (case y28 => exact ⟨_, rfl⟩)
    (case z29 => k_is)
    (case y29 => exact ⟨_, rfl⟩)
    (case z30 => k_is)
    (case y30 => exact ⟨_, rfl⟩)
    (case z31 => k_is)
    (case y31 => exact ⟨_, rfl⟩)
    (case z32 => k_is)
    (case y32 => exact ⟨_, rfl⟩)
    (case z33 => k_is)
    (case y33 => exact ⟨_, rfl⟩)
    (case z34 => k_is)
    (case y34 => exact ⟨_, rfl⟩)
    (case ua0 => k_is)
    (case ul0 => k_is)
    (case uv0 => exact ⟨_, _, rfl, rfl, by decide, (.cons ⟨_, rfl⟩ (.cons ⟨_, rfl⟩ (.cons ⟨_, rfl⟩ (.cons ⟨_, rfl⟩ (.cons ⟨_, rfl⟩ (.cons ⟨_, rfl⟩ (.cons ⟨_, rfl⟩ (.cons ⟨_, rfl⟩ (.cons ⟨_, rfl⟩ (.cons ⟨_, rfl⟩ (.cons ⟨_, rfl⟩ (.cons ⟨_, rfl⟩ (.cons ⟨_, rfl⟩ (.cons ⟨_, rfl⟩ (.cons ⟨_, rfl⟩ (.cons ⟨_, rfl⟩ (.cons ⟨_, rfl⟩ (.cons ⟨_, rfl⟩ (.cons ⟨_, rfl⟩ (.cons ⟨_, rfl⟩ (.cons ⟨_, rfl⟩ (.cons ⟨_, rfl⟩ (.cons ⟨_, rfl⟩ .nil)))))))))))))))))))))))⟩)
    (case ua1 => k_is)
    (case ul1 => k_is)
    (case uv1 => exact ⟨_, _, rfl, rfl, by decide, (.cons ⟨_, rfl⟩ (.cons ⟨_, rfl⟩ (.cons ⟨_, rfl⟩ (.cons ⟨_, rfl⟩ (.cons ⟨_, rfl⟩ (.cons ⟨_, rfl⟩ (.cons ⟨_, rfl⟩ (.cons ⟨_, rfl⟩ (.cons ⟨_, rfl⟩ (.cons ⟨_, rfl⟩ (.cons ⟨_, rfl⟩ (.cons ⟨_, rfl⟩ (.cons ⟨_, rfl⟩ (.cons ⟨_, rfl⟩ (.cons ⟨_, rfl⟩ (.cons ⟨_, rfl⟩ (.cons ⟨_, rfl⟩ (.cons ⟨_, rfl⟩ (.cons ⟨_, rfl⟩ (.cons ⟨_, rfl⟩ (.cons ⟨_, rfl⟩ (.cons ⟨_, rfl⟩ (.cons ⟨_, rfl⟩ .nil)))))))))))))))))))))))⟩)
  case S =>
    intro K H xs a hO hwi hask hx
    cases hx with
    | cons h1 h2 =>
      cases h2
      cases h1 with
      | lst hs ha =>
        have e := L2.ints_dw a.1 _ ha
        subst e
        have q : ((Codec.inLen 0 21248 a.1 && a.1.all (Codec.inInt 0 4294967295)) && true) = true := hwi
        rw [Bool.and_eq_true, Bool.and_eq_true] at q
        exact ⟨_, a.1, rfl, hs, (Codec.inNat_iff.mp q.1.1).2, hask, fun H' p hp => .lst (L2.SqL.of hp) (L2.dw_ints _)⟩
#print axioms PySem.Challenge.cw_standblocks_s01_answers_holds
