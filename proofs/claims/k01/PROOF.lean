import PyProof.Rows.All
import Wide.All
import OpenK.AllK
import Wide.FinOn
import HandS.ForMost
import HandS.Evl
import HandS.IsInst
import HandS.WrittenGet
import HandS.Replace
import HandS.ReplaceLit
import HandS.TupMul
import HandS.Zip
import HandS.ReplaceList
import HandS.Walk
import KE.GoesMore
import PySem.Challenge.RW_turnedends_k01_whole_texts
set_option Elab.async false
set_option linter.all false
set_option maxRecDepth 100000
set_option maxHeartbeats 4000000
namespace Tu
open PySem PySem.Spec PyProof.Rows L2 Evl
/-! ### the text -/
def topS (i : Nat) : Stmt := PySem.Challenge.pw_turnedends_k01_whole_texts.main.body.getD i (.Pass ⟨0, 0, 0, 0⟩)
abbrev sNum : Stmt := topS 29
abbrev sTake : Stmt := topS 30
abbrev sPick : Stmt := topS 31
theorem scNum : FnScope ["script", "index", "cells", "cell", "low", "high", "total", "blend"] ["script", "index"] (defScope sNum) := ⟨rfl, rfl, rfl, by decide +kernel, rfl, by decide +kernel, by decide +kernel⟩
theorem scTake : FnScope ["draw", "many"] ["draw", "many"] (defScope sTake) := ⟨rfl, rfl, rfl, by decide +kernel, rfl, by decide +kernel, by decide +kernel⟩
theorem scPick : FnScope ["draw", "things"] ["draw", "things"] (defScope sPick) := ⟨rfl, rfl, rfl, by decide +kernel, rfl, by decide +kernel, by decide +kernel⟩
/-! ### data -/
def flatD : PyData → Bool
  | .none => true | .bool _ => true | .int _ => true | .str x => x.cps.all (· < 0x110000) | _ => false
theorem flat_lay : ∀ ds : List PyData, ds.all flatD = true → PyData.canLayAll0 ds = true
  | [], _ => by simp [PyData.canLayAll0]
  | d :: ds, h => by
    rw [List.all_cons, Bool.and_eq_true] at h
    have ih := flat_lay ds h.2
    cases d <;> first | (simp [PyData.canLayAll0, PyData.canLay0, ih]; done) | (simp only [PyData.canLayAll0, PyData.canLay0, ih, Bool.and_true]; exact h.1) | exact absurd h.1 Bool.false_ne_true
theorem flat_depth : ∀ ds : List PyData, ds.all flatD = true → PyData.depthAll ds ≤ 1
  | [], _ => by simp [PyData.depthAll]
  | d :: ds, h => by
    rw [List.all_cons, Bool.and_eq_true] at h
    have ih := flat_depth ds h.2
    cases d <;> first | (simp only [PyData.depthAll, PyData.depth]; omega) | exact absurd h.1 Bool.false_ne_true
theorem shaped_fl {ds : List PyData} (h : ds.all flatD = true) : SeqAt.shaped (.list ds) = true := by
  have h1 := flat_depth ds h
  have h2 : PyData.depth (.list ds) ≤ 64 := by
    simp only [PyData.depth]
    omega
  show (PyData.canLay0 (.list ds) && decide (PyData.depth (.list ds) ≤ 64)) = true
  rw [Bool.and_eq_true]
  exact ⟨by simp only [PyData.canLay0]; exact flat_lay ds h, decide_eq_true h2⟩
theorem shaped_ft {ds : List PyData} (h : ds.all flatD = true) : SeqAt.shaped (.tuple ds) = true := by
  have h1 := flat_depth ds h
  have h2 : PyData.depth (.tuple ds) ≤ 64 := by
    simp only [PyData.depth]
    omega
  show (PyData.canLay0 (.tuple ds) && decide (PyData.depth (.tuple ds) ≤ 64)) = true
  rw [Bool.and_eq_true]
  exact ⟨by simp only [PyData.canLay0]; exact flat_lay ds h, decide_eq_true h2⟩
theorem ints_flat : ∀ ns : List Int, (ns.map PyData.int).all flatD = true
  | [] => rfl
  | _ :: ns => ints_flat ns
theorem dp_ints {K : PySem.W.Frag} {H : Hp} : ∀ ns : List Int, DpAll K H (ns.map V.int) (ns.map PyData.int)
  | [] => .nil
  | n :: ns => .cons (.int n) (dp_ints ns)
theorem el_if {σ : L2.St} {H : Hp} {t : TT} {ta tb : TE} {b : Bool} {xs : List V} (h : EvT t σ H b) (h1 : b = true → EvL ta σ H xs) (h2 : b = false → EvL tb σ H xs) : EvL (tIf t ta tb) σ H xs := fun H1 e Q q => h H1 e _ fun H2 e2 => by
  cases b with
  | true => exact iteT (h1 rfl H2 (e.trans e2) Q fun p H3 hp e3 x => q p H3 (fresh_back e2 hp) (e2.trans e3) x)
  | false => exact iteF (h2 rfl H2 (e.trans e2) Q fun p H3 hp e3 x => q p H3 (fresh_back e2 hp) (e2.trans e3) x)
theorem rc_len {K : PySem.W.Frag} {H : Hp} {p : Addr} {ys : List V} (h : SqL K H p ys ∨ SqT K H p ys) : RC (fun xs H Q => ∃ p ys, xs = [V.ref p] ∧ (SqL K H p ys ∨ SqT K H p ys) ∧ Q (.int ys.length) H) [.ref p] H (.int ys.length) :=
  fun H1 e Q q => ⟨p, ys, rfl, h.elim (fun z => .inl (ex_l e z)) (fun z => .inr (ex_t e z)), q H1 (Ex.refl H1)⟩
theorem rv_ne_nil {K : PySem.W.Frag} {H : Hp} {a p : Addr} {ns : List Int} (h : SqL K H a (ns.map V.int)) (hp : SqL K H p []) : RV (rNeD K) (.ref a) (.ref p) H (.bl (!ns.isEmpty)) := fun H1 e Q q => by
  refine ⟨.list (ns.map .int), .list [], .lst (ex_l e h) (dp_ints ns), .lst (ex_l e hp) .nil, shaped_fl (ints_flat ns), by decide, ?_⟩
  cases ns with
  | nil => exact q H1 (Ex.refl H1)
  | cons n ns => exact q H1 (Ex.refl H1)
theorem rv_mod {H : Hp} {i j : Int} (h : 0 < j) : RV (rI (fun _ j => j ≠ 0) fun i j => V.int (i.fmod j)) (.int i) (.int j) H (.int (i % j)) := fun H1 _ Q q => ⟨i, j, rfl, rfl, by omega, by
  show Q (V.int (i.fmod j)) H1
  rw [Int.fmod_eq_emod_of_nonneg i (by omega)]
  exact q H1 (Ex.refl H1)⟩
theorem rv_div {H : Hp} {i j : Int} (h : 0 < j) (h2 : j < 1000000000) : RV (rI CDivN fun i j => V.int (i.fdiv j)) (.int i) (.int j) H (.int (i / j)) := fun H1 _ Q q => ⟨i, j, rfl, rfl, ⟨by omega, by omega⟩, by
  show Q (V.int (i.fdiv j)) H1
  rw [Int.fdiv_eq_ediv_of_nonneg i (by omega)]
  exact q H1 (Ex.refl H1)⟩
theorem rv_mulL {H : Hp} {i j : Int} (h : -(2 ^ 64) < i ∧ i < 2 ^ 64) : RV (rI CMul fun i j => V.int (i * j)) (.int i) (.int j) H (.int (i * j)) := rv_I (.inl h)
theorem rv_add {H : Hp} {i j : Int} : RV (rI0 fun i j => V.int (i + j)) (.int i) (.int j) H (.int (i + j)) := rv_I0
theorem q_par {σ : L2.St} {H : Hp} {D : Ends} {tz : TS} {i j : Nat} {ta : TA} {v w : V} (h : EvA ta σ H [v, w]) (k : ∀ H1, Ex H H1 → tz D ((σ.set i (some v)).set j (some w)) H1) : tSeq (tPar i j ta) tz D σ H := h H (Ex.refl H) _ fun H1 e => ⟨v, w, rfl, k H1 e⟩
/-- the script's first cells, or [5] -/
def cellsOf (ns : List Int) : List Int := if ns.isEmpty then [5] else ns
theorem cells_len (ns : List Int) (h : ns.length ≤ 63) : 0 < (cellsOf ns).length ∧ (cellsOf ns).length ≤ 63 := by
  unfold cellsOf
  cases ns with
  | nil => exact ⟨by decide, by decide⟩
  | cons n ns => exact ⟨Nat.succ_pos _, h⟩
def cellOf (ns : List Int) (ix : Int) : Int := (cellsOf ns).getD (ix % ((cellsOf ns).length : Int)).toNat 0 + 13 * (ix / ((cellsOf ns).length : Int))
def blendOf (ns : List Int) (ix : Int) : Int := ((cellOf ns ix % 1000003 + 977 * ix) * 48271 + 31 * (cellOf ns ix / 1000003 % 999983) + (cellsOf ns).sum % 65521) % 2147483647
def numOf (ns : List Int) (ix : Int) : Int := blendOf ns ix * (blendOf ns ix + 31 * ix + 7) % 2147483629 * 65537 + cellOf ns ix / 1000003 % 999983
theorem cut63 (xs : List V) (h : xs.length ≤ 63) : cutV xs none (some 63) = xs := by
  unfold cutV
  rw [HT.sIx_none, show HT.sIx xs.length xs.length (some 63) = min 63 xs.length from HT.sIx_nat xs.length xs.length 63]
  rw [List.drop_zero, Nat.sub_zero]
  exact List.take_of_length_le (by omega)
section
variable {P : Program} {w : World} {K : PySem.W.Frag} {mg : Str → Option Value} {base : Heap}
/-- a call of int on an int -/
theorem ev_int1 {te : TE} {σ : L2.St} {H : Hp} {i : Int} (h : Ev te σ H (.int i)) : Ev (tCB (fun xs H Q => (∃ i, xs = [V.int i] ∧ Q (.int i) H) ∨ ∃ k, xs = [V.bl k] ∧ Q (.int (if k then 1 else 0)) H) (tCons te tNil)) σ H (.int i) :=
  ev_cb (vs := [.int i]) (ea_cons h ea_nil) fun H1 _ Q q => .inl ⟨i, rfl, q H1 (Ex.refl H1)⟩
def spNum (K : PySem.W.Frag) : Sp := fun vs H Q _ => ∃ (a : Addr) (ns : List Int) (i : Int), vs = [.ref a, .int i] ∧ SqL K H a (ns.map V.int) ∧ ns.length ≤ 63 ∧ 0 ≤ i ∧ i ≤ 1000000 ∧ RetV (.int (numOf ns i)) H Q
theorem ok_num {f : Addr} {fd : FuncData} {k : Nat} (F : Fun K "_law_number" "_law_number" sNum f fd) (mi : mg "int" = none) (ml : mg "len" = none) (ms : mg "sum" = none) : FnOk P w K mg base CX0 (k + 1) f fd ["script", "index"] (spNum K) := by
  refine F.ok scNum (fun vs H Q E h => ?_) (fun cdv A outer s H vs Q E hr h => ?_)
  · obtain ⟨a, ns, i, rfl, _⟩ := h
    rfl
  · obtain ⟨a, ns, ix, rfl, hS, hlen, i0, i1, q⟩ := h
    have nd := scNum.nd
    refine ⟨_, pss_cons (ps_set (i := 2) nd rfl (.inl rfl) (pe_ifExp (pt_cmpR (op_neD hr.units) (pv 0) (pe_lst pa_nil) (nomark _)) (pe_slice sl_list (pv 0) po_none (po_some pe_int)) (pe_lst (pa_cons pe_int pa_nil))))
      (pss_cons (ps_set (i := 3) nd rfl (.inl rfl) (pe_op op_add
          (pe_ix ix_list (pv 2) (pe_op op_modN (pe_callTy call_int1 (by rfl) mi (by decide +kernel) (pa_cons (pv 1) pa_nil)) (pe_callB call_len_seq (by rfl) ml PySem.boot_len (pa_cons (pv 2) pa_nil))) (fun _ _ => rfl))
          (pe_op op_mul pe_int (pe_op op_fdivN (pv 1) (pe_callB call_len_seq (by rfl) ml PySem.boot_len (pa_cons (pv 2) pa_nil))))))
      (pss_cons (ps_par (i := 4) (j := 5) (by rfl) nd rfl rfl (by decide) rfl rfl (pa_cons (pe_op op_modN (pe_callTy call_int1 (by rfl) mi (by decide +kernel) (pa_cons (pv 3) pa_nil)) pe_int)
          (pa_cons (pe_op op_modN (pe_callTy call_int1 (by rfl) mi (by decide +kernel) (pa_cons (pe_op op_fdivN (pv 3) pe_int) pa_nil)) pe_int) pa_nil)) (by rfl))
      (pss_cons (ps_set (i := 6) nd rfl (.inl rfl) (pe_op op_modN (pe_callTy call_int1 (by rfl) mi (by decide +kernel) (pa_cons (pe_callB (cr_sum rfl) (by rfl) ms (by decide +kernel) (pa_cons (pv 2) pa_nil)) pa_nil)) pe_int))
      (pss_cons (ps_set (i := 7) nd rfl (.inl rfl) (pe_op op_modN (pe_callTy call_int1 (by rfl) mi (by decide +kernel) (pa_cons
          (pe_op op_add (pe_op op_add (pe_op op_mul (pe_op op_add (pv 4) (pe_op op_mul pe_int (pv 1))) pe_int) (pe_op op_mul pe_int (pv 5))) (pv 6)) pa_nil)) pe_int))
      (pss_one (ps_ret (pe_op op_add (pe_op op_mul (pe_op op_modN (pe_callTy call_int1 (by rfl) mi (by decide +kernel) (pa_cons
          (pe_op op_mul (pv 7) (pe_op op_add (pe_op op_add (pv 7) (pe_op op_mul pe_int (pv 1))) pe_int)) pa_nil)) pe_int) pe_int) (pv 5)))))))), ?_⟩
    have hc := cells_len ns hlen
    have nz : (0 : Int) < ((cellsOf ns).length : Int) := by omega
    -- cells
    refine q_asgL (xs := (cellsOf ns).map V.int) (el_if (b := !ns.isEmpty) (et_test (ev_opL (ev_var rfl) (el_lst ea_nil (by decide)) fun p H1 hp e => rv_ne_nil (ex_l e hS) (sq_of hp)))
      (fun hb => ?_) (fun hb => ?_)) fun p H1 hp e1 h1 => ?_
    · have e0 : cellsOf ns = ns := by
        unfold cellsOf
        cases ns with
        | nil => cases hb
        | cons n ns => rfl
      have ex : cutV (ns.map V.int) none (some 63) = (cellsOf ns).map V.int := by
        rw [e0, cut63 _ (by rw [List.length_map]; exact hlen)]
      rw [← ex]
      exact el_sl (ev_var rfl) eo_none (eo_some ev_c) hS
    · have e0 : (cellsOf ns).map V.int = [V.int 5] := by
        unfold cellsOf
        cases ns with
        | nil => rfl
        | cons n ns => cases hb
      rw [e0]
      exact el_lst (ea_cons ev_c ea_nil) (by decide)
    -- cell
    have hP : SqL K H1 p ((cellsOf ns).map V.int) := sq_of h1
    have hl : ((cellsOf ns).map V.int).length = (cellsOf ns).length := List.length_map ..
    have mlt : 0 ≤ ix % ((cellsOf ns).length : Int) ∧ ix % ((cellsOf ns).length : Int) < ((cellsOf ns).length : Int) := ⟨Int.emod_nonneg _ (by omega), Int.emod_lt_of_pos _ nz⟩
    obtain ⟨j, hj⟩ : ∃ j : Nat, ix % ((cellsOf ns).length : Int) = (j : Int) := ⟨(ix % ((cellsOf ns).length : Int)).toNat, by omega⟩
    have hj2 : j < (cellsOf ns).length := by omega
    have gx : atI ((cellsOf ns).map V.int) (ix % ((cellsOf ns).length : Int)) = some (.int ((cellsOf ns)[j])) := by
      rw [hj]
      refine atI_nat ?_
      rw [List.getElem?_map, List.getElem?_eq_getElem hj2]
      rfl
    have evlen : ∀ {σ : L2.St} {H' : Hp}, Ex H1 H' → σ[2]? = some (some (.ref p)) → Ev (tCB (fun xs H Q => ∃ p ys, xs = [V.ref p] ∧ (SqL K H p ys ∨ SqT K H p ys) ∧ Q (.int ys.length) H) (tCons (tVar 2) tNil)) σ H' (.int ((cellsOf ns).length : Int)) := fun e hs => by
      have z := ev_cb (ea_cons (ev_var hs) ea_nil) (rc_len (.inl (ex_l e hP)))
      rw [hl] at z
      exact z
    refine q_asg (v := .int ((cellsOf ns)[j] + 13 * (ix / ((cellsOf ns).length : Int)))) (ev_op (ev_op (ev_var rfl) (ev_op (ev_int1 (ev_var rfl)) (evlen (Ex.refl _) rfl) (rv_mod nz)) (rv_ixL hP gx))
      (ev_op ev_c (ev_op (ev_var rfl) (evlen (Ex.refl _) rfl) (rv_div nz (by omega))) (rv_mulL (by decide))) rv_add) fun H2 e2 => ?_
    have ec : (cellsOf ns)[j] + 13 * (ix / ((cellsOf ns).length : Int)) = cellOf ns ix := by
      unfold cellOf
      rw [hj, Int.toNat_natCast, List.getD_eq_getElem?_getD, List.getElem?_eq_getElem hj2]
      rfl
    rw [ec]
    -- low, high
    refine q_par (v := .int (cellOf ns ix % 1000003)) (w := .int (cellOf ns ix / 1000003 % 999983)) (ea_cons (ev_op (ev_int1 (ev_var rfl)) ev_c (rv_mod (by decide))) (ea_cons (ev_op (ev_int1 (ev_op (ev_var rfl) ev_c (rv_div (by decide) (by decide)))) ev_c (rv_mod (by decide))) ea_nil)) fun H3 e3 => ?_
    have l0 : 0 ≤ cellOf ns ix % 1000003 ∧ cellOf ns ix % 1000003 < 1000003 := ⟨Int.emod_nonneg _ (by decide), Int.emod_lt_of_pos _ (by decide)⟩
    -- total
    refine q_asg (v := .int ((cellsOf ns).sum % 65521)) (ev_op (ev_int1 (ev_cb (ea_cons (ev_var rfl) ea_nil) fun H4 e4 Q q => ⟨p, cellsOf ns, rfl, ex_l (e2.trans (e3.trans e4)) hP, q H4 (Ex.refl _)⟩)) ev_c (rv_mod (by decide))) fun H4 e4 => ?_
    -- blend
    refine q_asg (v := .int (blendOf ns ix)) (ev_op (ev_int1 (ev_op (ev_op (ev_op (ev_op (ev_var rfl) (ev_op ev_c (ev_var rfl) (rv_mulL (by decide))) rv_add) ev_c (rv_mulL ?_)) (ev_op ev_c (ev_var rfl) (rv_mulL (by decide))) rv_add) (ev_var rfl) rv_add)) ev_c (rv_mod (by decide))) fun H5 e5 => ?_
    · constructor <;> omega
    have b0 : 0 ≤ blendOf ns ix ∧ blendOf ns ix < 2147483647 := ⟨Int.emod_nonneg _ (by decide), Int.emod_lt_of_pos _ (by decide)⟩
    refine s_ret (ev_op (ev_op (ev_op (ev_int1 (ev_op (ev_var rfl) (ev_op (ev_op (ev_var rfl) (ev_op ev_c (ev_var rfl) (rv_mulL (by decide))) rv_add) ev_c rv_add) (rv_mulL ⟨?_, ?_⟩))) ev_c (rv_mod (by decide))) ev_c (rv_mulL ?_)) (ev_var rfl) rv_add) fun H6 e6 => ?_
    · omega
    · omega
    · have := Int.emod_lt_of_pos (blendOf ns ix * (blendOf ns ix + 31 * ix + 7)) (b := 2147483629) (by decide)
      have := Int.emod_nonneg (blendOf ns ix * (blendOf ns ix + 31 * ix + 7)) (b := 2147483629) (by decide)
      constructor <;> omega
    · exact q _ (e1.trans (e2.trans (e3.trans (e4.trans (e5.trans e6)))))
end
end Tu
namespace Tu
open PySem PySem.Spec PyProof.Rows L2 Evl
/-! ### what draws: one list changes -/
def ExB (d : Addr) (H H' : Hp) : Prop := ∀ b o, b ≠ d → H b = some o → H' b = some o
theorem ExB.refl (d : Addr) (H : Hp) : ExB d H H := fun _ _ _ h => h
theorem ExB.of {d : Addr} {H H' : Hp} (e : Ex H H') : ExB d H H' := fun b o _ h => e b o h
theorem ExB.trans {d : Addr} {H H1 H2 : Hp} (a : ExB d H H1) (b : ExB d H1 H2) : ExB d H H2 := fun c o n h => b c o n (a c o n h)
theorem ExB.upd {d : Addr} {H : Hp} {o : HO} : ExB d H (upd H d o) := fun b u n h => by rw [upd_ne n]; exact h
theorem ExB.new {d p : Addr} {H : Hp} {o : HO} (h : H p = none) : ExB d H (L2.upd H p o) := .of (Ex.new h)
theorem ExB.fresh {d p : Addr} {H H' : Hp} (e : ExB d H H') (h : H' p = none) (n : p ≠ d) : H p = none := by
  cases q : H p with
  | none => rfl
  | some o =>
    rw [e p o n q] at h
    cases h
/-- .. and one more list, fresh at first, changes -/
theorem ExB.mut {d p : Addr} {H H' : Hp} {o : HO} (e : ExB d H H') (h : H p = none) : ExB d H (L2.upd H' p o) := fun b u n hb => by
  rw [upd_ne (ne_of_none hb h)]
  exact e b u n hb
theorem ExB.sql {K : PySem.W.Frag} {d t : Addr} {H H' : Hp} {xs : List V} (e : ExB d H H') (n : t ≠ d) (h : SqL K H t xs) : SqL K H' t xs := by
  rcases h with (h | ⟨o, h⟩) | h
  · exact .inl (.inl (e _ _ n h))
  · exact .inl (.inr ⟨o, e _ _ n h⟩)
  · exact .inr h
theorem ExB.sqt {K : PySem.W.Frag} {d t : Addr} {H H' : Hp} {xs : List V} (e : ExB d H H') (n : t ≠ d) (h : SqT K H t xs) : SqT K H' t xs := by
  rcases h with (h | ⟨o, h⟩) | h
  · exact .inl (.inl (e _ _ n h))
  · exact .inl (.inr ⟨o, e _ _ n h⟩)
  · exact .inr h
structure Draw (K : PySem.W.Frag) (H : Hp) (d a : Addr) (ns : List Int) (c : Nat) : Prop where
  here : H d = some (.lst [.ref a, .int (c : Int)])
  sq : SqL K H a (ns.map V.int)
  len : ns.length ≤ 63
section
variable {P : Program} {w : World} {K : PySem.W.Frag} {mg : Str → Option Value} {base : Heap} {H H' : Hp} {d a : Addr} {ns : List Int} {c c' : Nat}
theorem Draw.keep (D : Draw K H d a ns c) (e : ExB d H H') : SqL K H' a (ns.map V.int) := by
  rcases D.sq with (h | ⟨o, h⟩) | h
  · have n : a ≠ d := ne_of h D.here fun z => by
      injection z with z
      cases ns with
      | nil => cases z
      | cons n ns => injection z with z _; cases z
    exact e.sql n D.sq
  · exact e.sql (ne_of h D.here (fun z => nomatch z)) D.sq
  · exact .inr h
theorem Draw.mono (D : Draw K H d a ns c) (e : Ex H H') : Draw K H' d a ns c := ⟨e _ _ D.here, ex_l e D.sq, D.len⟩
theorem Draw.step (D : Draw K H d a ns c) (e : ExB d H H') (h : H' d = some (.lst [.ref a, .int (c' : Int)])) : Draw K H' d a ns c' := ⟨h, D.keep e, D.len⟩
/-- a tuple is not the draws' list -/
theorem Draw.neT {t : Addr} {xs : List V} (D : Draw K H d a ns c) (h : H t = some (.tup xs)) : t ≠ d := ne_of h D.here (fun z => nomatch z)
/-- what a def that draws hands back -/
def DrawQ (K : PySem.W.Frag) (H : Hp) (d a : Addr) (ns : List Int) (c N : Nat) (R : V → Hp → Prop) (Q : VK) : Prop := ∀ v H' c', Draw K H' d a ns c' → ExB d H H' → c ≤ c' → c' ≤ c + N → R v H' → Q v H'
theorem DrawQ.go {N M : Nat} {R : V → Hp → Prop} {Q : VK} (q : DrawQ K H d a ns c N R Q) (e : ExB d H H') (h : c ≤ c') (h2 : c' + M ≤ c + N) : DrawQ K H' d a ns c' M R Q :=
  fun v H2 c2 D e2 l1 l2 r => q v H2 c2 D (e.trans e2) (by omega) (by omega) r
theorem call_raw {sp : Sp} {dvs vs : List V} {E : XK} {ta : TA} {σ : L2.St} {Q : VK} (h : EvA ta σ H vs) (k : ∀ H1, Ex H H1 → sp (vs ++ dvs) H1 Q E) : tCall sp dvs E ta σ H Q := h H (Ex.refl _) _ k
def spTake (K : PySem.W.Frag) : Sp := fun vs H Q _ => ∃ (d a : Addr) (ns : List Int) (c : Nat) (many : Int), vs = [.ref d, .int many] ∧ Draw K H d a ns c ∧ c < 900000 ∧ 0 < many ∧
  DrawQ K H d a ns c 1 (fun v _ => ∃ n : Int, 0 ≤ n ∧ n < many ∧ v = .int n) Q
theorem ok_take {f fN : Addr} {fd fdN : FuncData} {k : Nat} (F : Fun K "_law_take" "_law_take" sTake f fd) (GN : FnOk P w K mg base CX0 k fN fdN ["script", "index"] (spNum K)) (kN : PySem.W.keepIn K (.ref fN) = true) (bN : Binds K fdN ["script", "index"] []) (gN : mg "_law_number" = some (.ref fN)) (mi : mg "int" = none) :
    FnOk P w K mg base CX0 (k + 1) f fd ["draw", "many"] (spTake K) := by
  refine F.ok scTake (fun vs H Q E h => ?_) (fun cdv A outer s H vs Q E hr h => ?_)
  · obtain ⟨d, a, ns, c, many, rfl, _⟩ := h
    rfl
  · obtain ⟨d, a, ns, c, many, rfl, D, hc, hm, q⟩ := h
    refine ⟨_, pss_cons (ps_asg (pe_op op_add (pe_ix ix_list (pv 0) pe_int (fun _ _ => rfl)) pe_int) (pg_sub (pv 0) pe_int set_list))
      (pss_one (ps_ret (pe_op op_modN (pe_callTy call_int1 (by rfl) mi (by decide +kernel) (pa_cons (pe_call GN hr (by rfl) gN kN bN .nil pass0
        (pa_cons (pe_ix ix_list (pv 0) pe_int (fun _ _ => rfl)) (pa_cons (pe_callTy call_int1 (by rfl) mi (by decide +kernel) (pa_cons (pe_ix ix_list (pv 0) pe_int (fun _ _ => rfl)) pa_nil)) pa_nil))) pa_nil)) (pv 1)))), ?_⟩
    refine q_setL (j := 1) (v := .int ((c : Int) + 1)) D.here (ev_op (ev_op (ev_var rfl) ev_c (rv_ixL (i := 1) (sq_of D.here) (atI_nat (j := 1) rfl))) ev_c rv_add) (ev_var rfl) ev_c (Nat.lt_succ_self 1) fun H1 e1 => ?_
    have eB : ExB d H (upd H1 d (.lst ([.ref a, .int (c : Int)].set 1 (.int ((c : Int) + 1))))) := (ExB.of e1).trans .upd
    have D1 : Draw K (upd H1 d (.lst ([.ref a, .int (c : Int)].set 1 (.int ((c : Int) + 1))))) d a ns (c + 1) := D.step eB (by rw [upd_same]; rfl)
    refine s_ret (v := .int (numOf ns ((c + 1 : Nat) : Int) % many)) (ev_op (ev_int1 (ev_call (vs := [.ref a, .int ((c + 1 : Nat) : Int)]) (ea_cons (ev_op (ev_var rfl) ev_c (rv_ixL (i := 0) (sq_of D1.here) (atI_nat (j := 0) rfl)))
      (ea_cons (ev_int1 (ev_op (ev_var rfl) ev_c (rv_ixL (i := 1) (sq_of D1.here) (atI_nat (j := 1) rfl)))) ea_nil)) ?_)) (ev_var rfl) (rv_mod hm)) fun H2 e2 => ?_
    · exact fun H2 e2 Q q E => ⟨a, ns, _, rfl, (D1.mono e2).sq, D.len, by omega, by omega, q⟩
    · exact q _ _ (c + 1) (D1.mono e2) (eB.trans (.of e2)) (by omega) (by omega) ⟨_, Int.emod_nonneg _ (by omega), Int.emod_lt_of_pos _ hm, rfl⟩
def spPick (K : PySem.W.Frag) : Sp := fun vs H Q _ => ∃ (d a t : Addr) (ns : List Int) (c : Nat) (xs : List V), vs = [.ref d, .ref t] ∧ Draw K H d a ns c ∧ c < 900000 ∧ t ≠ d ∧ SqL K H t xs ∧ 0 < xs.length ∧
  DrawQ K H d a ns c 1 (fun v _ => v ∈ xs) Q
theorem ok_pick {f fN : Addr} {fd fdN : FuncData} {k : Nat} (F : Fun K "_law_pick" "_law_pick" sPick f fd) (GN : FnOk P w K mg base CX0 k fN fdN ["draw", "many"] (spTake K)) (kN : PySem.W.keepIn K (.ref fN) = true) (bN : Binds K fdN ["draw", "many"] []) (gN : mg "_law_take" = some (.ref fN)) (ml : mg "len" = none) :
    FnOk P w K mg base CX0 (k + 1) f fd ["draw", "things"] (spPick K) := by
  refine F.ok scPick (fun vs H Q E h => ?_) (fun cdv A outer s H vs Q E hr h => ?_)
  · obtain ⟨d, a, t, ns, c, xs, rfl, _⟩ := h
    rfl
  · obtain ⟨d, a, t, ns, c, xs, rfl, D, hc, ht, hx, h0, q⟩ := h
    refine ⟨_, pss_one (ps_ret (pe_ix ix_list (pv 1) (pe_call GN hr (by rfl) gN kN bN .nil pass0
        (pa_cons (pv 0) (pa_cons (pe_callB call_len_seq (by rfl) ml PySem.boot_len (pa_cons (pv 1) pa_nil)) pa_nil))) (fun _ _ => rfl))), ?_⟩
    refine ⟨_, rfl, call_raw (vs := [.ref d, .int (xs.length : Int)]) (ea_cons (ev_var rfl) (ea_cons (ev_cb (ea_cons (ev_var rfl) ea_nil) (rc_len (.inl hx))) ea_nil)) fun H1 e1 => ⟨d, a, ns, c, _, rfl, D.mono e1, hc, by omega, ?_⟩⟩
    intro v H2 c2 D2 e2 l1 l2 ⟨n, n0, n1, ev⟩
    subst ev
    obtain ⟨j, rfl⟩ : ∃ j : Nat, n = (j : Int) := ⟨n.toNat, by omega⟩
    have hj : j < xs.length := by omega
    exact ⟨t, xs, (j : Int), xs[j], rfl, rfl, e2.sql ht (ex_l e1 hx), atI_nat (List.getElem?_eq_getElem hj), q _ _ c2 D2 ((ExB.of e1).trans e2) l1 l2 (List.getElem_mem hj)⟩
end
end Tu
namespace Tu
open PySem PySem.Spec PyProof.Rows L2 Evl
/-! ### conversions, signs -/
inductive Cv where | all | both | care | lone | lones | pairs deriving DecidableEq
def Cv.s : Cv → Str | .all => "all" | .both => "both" | .care => "care" | .lone => "lone" | .lones => "lones" | .pairs => "pairs"
inductive Sg where | a | n | r deriving DecidableEq
def Sg.c : Sg → Nat | .a => 97 | .n => 110 | .r => 114
def txt (l : List Sg) : Str := ⟨(l.map Sg.c).toArray⟩
def wayV (ws : List Cv) : List V := ws.map fun c => .str c.s
theorem conv_words : ∀ acc : List V, (∀ v ∈ acc, ∃ cv : Cv, v = .str cv.s) → ∃ ws : List Cv, acc = wayV ws
  | [], _ => ⟨[], rfl⟩
  | v :: acc, h => by
    obtain ⟨cv, e⟩ := h v (List.mem_cons_self ..)
    obtain ⟨ws, e2⟩ := conv_words acc fun x hx => h x (List.mem_cons_of_mem _ hx)
    exact ⟨cv :: ws, by rw [e, e2]; rfl⟩
theorem conv_signs : ∀ acc : List V, (∀ v ∈ acc, ∃ g : Sg, v = .str ⟨#[g.c]⟩) → ∃ l : List Sg, acc = l.map fun g => V.str ⟨#[g.c]⟩
  | [], _ => ⟨[], rfl⟩
  | v :: acc, h => by
    obtain ⟨cv, e⟩ := h v (List.mem_cons_self ..)
    obtain ⟨ws, e2⟩ := conv_signs acc fun x hx => h x (List.mem_cons_of_mem _ hx)
    exact ⟨cv :: ws, by rw [e, e2]; rfl⟩
abbrev sWay : Stmt := topS 32
abbrev sText : Stmt := topS 33
theorem scWay : FnScope ["draw", "most", "words", "place"] ["draw", "most"] (defScope sWay) := ⟨rfl, rfl, rfl, by decide +kernel, rfl, by decide +kernel, by decide +kernel⟩
theorem scText : FnScope ["draw", "most", "place"] ["draw", "most"] (defScope sText) := ⟨rfl, rfl, rfl, by decide +kernel, rfl, by decide +kernel, by decide +kernel⟩
section
variable {P : Program} {w : World} {K : PySem.W.Frag} {mg : Str → Option Value} {base : Heap} {H H' : Hp} {d a : Addr} {ns : List Int} {c c' : Nat}
/-- a comprehension whose element draws once -/
theorem lc_drawn {te : TE} {σ : L2.St} {vs : List Nat} {H1 : Hp} {Dl : Addr} {Qd : Hp → Prop} {j n : Nat} (R : V → Prop) (D : Draw K H1 d a ns c) (hD : H1 Dl = none) (hn : n ≤ 1000) (hw : ∀ x, wipe ((wipe σ vs).set j (some x)) vs = wipe σ vs)
    (turn : ∀ i H' c', i < n → Draw K H' d a ns c' → c' ≤ c + i → ExB d H1 H' → ∀ Q, DrawQ K H' d a ns c' 1 (fun v _ => R v) Q → te ((wipe σ vs).set j (some (.int ((0 : Int) + (i : Int))))) H' Q)
    (done : ∀ H' acc c', Draw K H' d a ns c' → ExB d H1 H' → c ≤ c' → c' ≤ c + n → H' Dl = some (.lst acc) → acc.length = n → (∀ v ∈ acc, R v) → Qd H') :
    ∃ W : Nat → Nat → Hp → Prop, (∃ m, W 0 m (upd H1 Dl (.lst []))) ∧ ∀ i m H, W i m H →
      ((Itr 0 n).stop i H ∧ Qd H) ∨ ((Itr 0 n).go i H ∧ ∃ Nx : Hp → Prop, (∀ H', Nx H' → ∃ m', m' < m ∧ W (i + 1) m' H') ∧ ∀ x H', (Itr 0 n).yld i H x H' → gName j x (wipe σ vs) H' fun σ2 H2 => wipe σ2 vs = wipe σ vs ∧ tYes σ2 H2 fun b H3 =>
        if b = true then te σ2 H3 fun y H4 => ∃ acc, H4 Dl = some (.lst acc) ∧ acc.length < sizeLine ∧ Nx (upd H4 Dl (.lst (acc ++ [y]))) else Nx H3) := by
  have nd : Dl ≠ d := fun e => by
    subst e
    rw [D.here] at hD
    cases hD
  refine lc_range (lo := 0) (n := n) (fun i H' => ∃ acc c', Draw K H' d a ns c' ∧ ExB d H1 H' ∧ c ≤ c' ∧ c' ≤ c + i ∧ H' Dl = some (.lst acc) ∧ acc.length = i ∧ (∀ v ∈ acc, R v)) ?_ ?_ ?_
  · exact ⟨[], c, D.step (.new hD) (by rw [upd_ne nd.symm]; exact D.here), .new hD, Nat.le_refl _, Nat.le_refl _, upd_same, rfl, fun v h => nomatch h⟩
  · intro i H' hi ⟨acc, c', D', e, l1, l2, hl, ha, hR⟩
    refine ⟨hw _, ?_⟩
    simp only [tYes, if_true]
    refine turn i H' c' hi D' l2 e _ fun v H2 c2 D2 e2 m1 m2 hv => ?_
    have h2 : H2 Dl = some (.lst acc) := e2 _ _ nd hl
    refine ⟨acc, h2, Nat.lt_of_le_of_lt (show acc.length ≤ 1000 by omega) (by decide), acc ++ [v], c2, ?_, (e.trans e2).mut hD, by omega, by omega, upd_same, by simp [ha], fun x hx => ?_⟩
    · refine ⟨by rw [upd_ne nd.symm]; exact D2.here, ?_, D2.len⟩
      exact D.keep ((e.trans e2).mut (o := .lst (acc ++ [v])) hD)
    · rcases List.mem_append.mp hx with hx | hx
      · exact hR x hx
      · rw [List.mem_singleton] at hx
        subst hx
        exact hv
  · intro H' ⟨acc, c', D', e, l1, l2, hl, ha, hR⟩
    exact done H' acc c' D' e l1 l2 hl ha hR
def spWay (K : PySem.W.Frag) : Sp := fun vs H Q _ => ∃ (d a : Addr) (ns : List Int) (c : Nat) (most : Int), vs = [.ref d, .int most] ∧ Draw K H d a ns c ∧ c < 800000 ∧ 0 ≤ most ∧ most ≤ 100 ∧
  DrawQ K H d a ns c (most.toNat + 2) (fun v H' => ∃ p ws, v = .ref p ∧ H' p = some (.tup (wayV ws)) ∧ (ws.length : Int) ≤ most) Q
theorem ok_way {f fT fP : Addr} {fd fdT fdP : FuncData} {k : Nat} (F : Fun K "_law_way" "_law_way" sWay f fd) (GT : FnOk P w K mg base CX0 k fT fdT ["draw", "many"] (spTake K)) (kT : PySem.W.keepIn K (.ref fT) = true) (bT : Binds K fdT ["draw", "many"] []) (gT : mg "_law_take" = some (.ref fT))
    (GP : FnOk P w K mg base CX0 k fP fdP ["draw", "things"] (spPick K)) (kP : PySem.W.keepIn K (.ref fP) = true) (bP : Binds K fdP ["draw", "things"] []) (gP : mg "_law_pick" = some (.ref fP)) (mt : mg "tuple" = none) (mr : mg "range" = none) :
    FnOk P w K mg base CX0 (k + 1) f fd ["draw", "most"] (spWay K) := by
  refine F.ok scWay (fun vs H Q E h => ?_) (fun cdv A outer s H vs Q E hr h => ?_)
  · obtain ⟨d, a, ns, c, many, rfl, _⟩ := h
    rfl
  · obtain ⟨d, a, ns, c, most, rfl, D, hc, hm, hm2, q⟩ := h
    have nd := scWay.nd
    refine ⟨_, pss_cons (ps_set (i := 2) nd rfl (.inr rfl) (pe_lst (pa_cons pe_str (pa_cons pe_str (pa_cons pe_str (pa_cons pe_str (pa_cons pe_str (pa_cons pe_str pa_nil))))))))
      (pss_one (ps_ret (pe_callTy call_tuple_of (by rfl) mt (by decide +kernel) (pa_cons
        (pe_lc (own := [("place", 3)]) (g := gName 3) (by rfl) nd (pi_range1 (by rfl) mr (pa_cons (pe_call GT hr (by rfl) gT kT bT .nil pass0 (pa_cons (pv 0) (pa_cons (pe_op op_add (pv 1) pe_int) pa_nil))) pa_nil))
          (blkOk_by (N := ["draw", "most", "words", "place"]) (sc := defScope sWay) (by decide +kernel)) (fun _ _ _ _ _ => pg_name (i := 3) nd rfl (Or.inl rfl)) (fun _ _ _ _ _ => pts_nil)
          (fun _ _ _ _ _ => pe_call GP hr (by rfl) gP kP bP .nil pass0 (pa_cons (pv 0) (pa_cons (pe_op op_cat (pv 2) (pe_lst (pa_cons pe_str (pa_cons pe_str pa_nil)))) pa_nil)))) pa_nil)))), ?_⟩
    refine q_asgL (el_lst (vs := [.str "all", .str "both", .str "care", .str "lone", .str "lones", .str "pairs"]) (ea_cons ev_c (ea_cons ev_c (ea_cons ev_c (ea_cons ev_c (ea_cons ev_c (ea_cons ev_c ea_nil)))))) (by simp)) fun p H1 hp e1 hP => ?_
    have D1 := D.mono e1
    have npd : p ≠ d := ne_of hP D1.here (fun z => by injection z with z; injection z with z; cases z)
    refine call_raw (vs := [.ref d, .int (most + 1)]) (ea_cons (ev_var rfl) (ea_cons (ev_op (ev_var rfl) ev_c rv_add) ea_nil)) fun H2 e2 => ⟨d, a, ns, c, _, rfl, D1.mono e2, by omega, by omega, ?_⟩
    rintro _ H3 c3 D3 e3 l1 l2 ⟨n, n0, n1, rfl⟩
    have hP3 : H3 p = some (.lst _) := e3 _ _ npd (e2 _ _ hP)
    refine ⟨n, rfl, by omega, by omega, fun Dl hD => ?_⟩
    refine lc_drawn (vs := [3]) (fun v => ∃ cv : Cv, v = .str cv.s) D3 hD (show n.toNat ≤ 1000 by omega) (fun x => rfl) (fun i H4 c4 hi D4 l3 e4 Q4 q4 => ?_) (fun H4 acc c4 D4 e4 l3 l4 hl ha hR => ?_)
    · have hP4 : H4 p = some (.lst _) := e4 _ _ npd hP3
      refine ⟨_, rfl, _, rfl, sz_of (n := 2) (by decide), fun t ht => ⟨p, t, _, _, rfl, rfl, Ex.new ht p _ hP4, upd_same, by decide, fun u hu => ?_⟩⟩
      have e5 : Ex H4 (upd (upd H4 t (.lst [.str "pairs", .str "care"])) u (.lst ([.str "all", .str "both", .str "care", .str "lone", .str "lones", .str "pairs"] ++ [.str "pairs", .str "care"]))) := (Ex.new ht).trans (Ex.new hu)
      have nu : u ≠ d := (ne_of_none (Ex.new ht d _ D4.here) hu).symm
      refine ⟨d, a, u, ns, c4, _, rfl, D4.mono e5, by omega, nu, sq_of upd_same, by decide, ?_⟩
      intro v H5 c5 D5 e6 m1 m2 hv
      refine q4 v H5 c5 D5 ((ExB.of e5).trans e6) m1 m2 ?_
      simp only [List.cons_append, List.nil_append, List.mem_cons, List.not_mem_nil, or_false] at hv
      rcases hv with h | h | h | h | h | h | h | h <;> subst h
      · exact ⟨.all, rfl⟩
      · exact ⟨.both, rfl⟩
      · exact ⟨.care, rfl⟩
      · exact ⟨.lone, rfl⟩
      · exact ⟨.lones, rfl⟩
      · exact ⟨.pairs, rfl⟩
      · exact ⟨.pairs, rfl⟩
      · exact ⟨.care, rfl⟩
    · obtain ⟨ws, hws⟩ := conv_words acc hR
      subst hws
      have hlw : ws.length = n.toNat := by
        rw [← ha]
        exact (List.length_map ..).symm
      refine ⟨Dl, _, rfl, .inl ⟨sq_of hl, fun l hl2 => ?_⟩⟩
      have nl : l ≠ d := (ne_of_none D4.here hl2).symm
      exact q _ _ c4 (D4.mono (Ex.new hl2)) ((((ExB.of (e1.trans e2)).trans e3).trans e4).trans (.new hl2)) (by omega) (by omega) ⟨l, ws, rfl, upd_same, by omega⟩
end
end Tu
namespace Tu
open PySem PySem.Spec PyProof.Rows L2 Evl
/-! ### texts as lists of codes -/
def ofl (l : List Nat) : Str := ⟨l.toArray⟩
theorem ofl_app (x y : List Nat) : ofl x ++ ofl y = ofl (x ++ y) := by
  show (⟨x.toArray ++ y.toArray⟩ : Str) = ⟨(x ++ y).toArray⟩
  rw [List.append_toArray]
theorem ofl_len (l : List Nat) : (ofl l).length = l.length := by
  show l.toArray.size = l.length
  exact List.size_toArray ..
theorem ofl_cps (l : List Nat) : (ofl l).cps.toList = l := rfl
theorem ofl_inj {x y : List Nat} (h : ofl x = ofl y) : x = y := by
  have := congrArg (fun z : Str => z.cps.toList) h
  exact this
theorem join_ofl : ∀ ls : List (List Nat), Txt.join "" (ls.map ofl) = ofl ls.flatten := by
  intro ls
  show Builtin.Str.glued _ _ = _
  rw [StrLaws.glued_eq_join]
  induction ls with
  | nil => rfl
  | cons x ls ih =>
    have e : (("" : Str)) = ⟨#[]⟩ := rfl
    rw [e] at ih ⊢
    rw [List.map_cons, join_nil_cons, ih, ofl_app]
    rfl
theorem txt_ofl (l : List Sg) : txt l = ofl (l.map Sg.c) := rfl
theorem txt_len (l : List Sg) : (txt l).length = l.length := by rw [txt_ofl, ofl_len, List.length_map]
theorem txt_app (x y : List Sg) : txt x ++ txt y = txt (x ++ y) := by rw [txt_ofl, txt_ofl, ofl_app, txt_ofl, List.map_append]
theorem join_txt (ls : List (List Sg)) : Txt.join "" (ls.map txt) = txt ls.flatten := by
  have e : ls.map txt = (ls.map fun l => l.map Sg.c).map ofl := by
    rw [List.map_map]
    rfl
  rw [e, join_ofl, txt_ofl, List.map_flatten]
theorem join_sg (l : List Sg) : Txt.join "" (l.map fun g => (⟨#[g.c]⟩ : Str)) = txt l := by
  have e : (l.map fun g => (⟨#[g.c]⟩ : Str)) = (l.map fun g => [g]).map txt := by
    rw [List.map_map]
    rfl
  rw [e, join_txt]
  congr 1
  induction l with
  | nil => rfl
  | cons x l ih =>
    rw [List.map_cons, List.flatten_cons, ih (by rw [List.map_map]; rfl)]
    rfl
theorem sum_one : ∀ l : List Sg, ((l.map fun g => (⟨#[g.c]⟩ : Str)).map (·.length)).sum = l.length
  | [] => rfl
  | _ :: l => by
    rw [List.map_cons, List.map_cons, List.sum_cons, sum_one l, List.length_cons]
    show 1 + l.length = l.length + 1
    omega
section
variable {P : Program} {w : World} {K : PySem.W.Frag} {mg : Str → Option Value} {base : Heap} {H H' : Hp} {d a : Addr} {ns : List Int} {c c' : Nat}
def spText (K : PySem.W.Frag) : Sp := fun vs H Q _ => ∃ (d a : Addr) (ns : List Int) (c : Nat) (most : Int), vs = [.ref d, .int most] ∧ Draw K H d a ns c ∧ c < 800000 ∧ 0 ≤ most ∧ most ≤ 100 ∧
  DrawQ K H d a ns c (most.toNat + 2) (fun v _ => ∃ l : List Sg, v = .str (txt l) ∧ (l.length : Int) ≤ most) Q
theorem ok_text {f fT fP : Addr} {fd fdT fdP : FuncData} {k : Nat} (F : Fun K "_law_text" "_law_text" sText f fd) (GT : FnOk P w K mg base CX0 k fT fdT ["draw", "many"] (spTake K)) (kT : PySem.W.keepIn K (.ref fT) = true) (bT : Binds K fdT ["draw", "many"] []) (gT : mg "_law_take" = some (.ref fT))
    (GP : FnOk P w K mg base CX0 k fP fdP ["draw", "things"] (spPick K)) (kP : PySem.W.keepIn K (.ref fP) = true) (bP : Binds K fdP ["draw", "things"] []) (gP : mg "_law_pick" = some (.ref fP)) (mr : mg "range" = none) :
    FnOk P w K mg base CX0 (k + 1) f fd ["draw", "most"] (spText K) := by
  refine F.ok scText (fun vs H Q E h => ?_) (fun cdv A outer s H vs Q E hr h => ?_)
  · obtain ⟨d, a, ns, c, many, rfl, _⟩ := h
    rfl
  · obtain ⟨d, a, ns, c, most, rfl, D, hc, hm, hm2, q⟩ := h
    have nd := scText.nd
    refine ⟨_, pss_one (ps_ret (pe_join pe_str
        (pe_lc (own := [("place", 2)]) (g := gName 2) (by rfl) nd (pi_range1 (by rfl) mr (pa_cons (pe_call GT hr (by rfl) gT kT bT .nil pass0 (pa_cons (pv 0) (pa_cons (pe_op op_add (pv 1) pe_int) pa_nil))) pa_nil))
          (blkOk_by (N := ["draw", "most", "place"]) (sc := defScope sText) (by decide +kernel)) (fun _ _ _ _ _ => pg_name (i := 2) nd rfl (Or.inl rfl)) (fun _ _ _ _ _ => pts_nil)
          (fun _ _ _ _ _ => pe_call GP hr (by rfl) gP kP bP .nil pass0 (pa_cons (pv 0) (pa_cons (pe_lst (pa_cons pe_str (pa_cons pe_str (pa_cons pe_str (pa_cons pe_str (pa_cons pe_str pa_nil)))))) pa_nil)))))), ?_⟩
    refine ⟨⟨_, rfl⟩, ?_⟩
    refine call_raw (vs := [.ref d, .int (most + 1)]) (ea_cons (ev_var rfl) (ea_cons (ev_op (ev_var rfl) ev_c rv_add) ea_nil)) fun H2 e2 => ⟨d, a, ns, c, _, rfl, D.mono e2, by omega, by omega, ?_⟩
    rintro _ H3 c3 D3 e3 l1 l2 ⟨n, n0, n1, rfl⟩
    refine ⟨n, rfl, by omega, by omega, fun Dl hD => ?_⟩
    refine lc_drawn (vs := [2]) (fun v => ∃ g : Sg, v = .str ⟨#[g.c]⟩) D3 hD (show n.toNat ≤ 1000 by omega) (fun x => rfl) (fun i H4 c4 hi D4 l3 e4 Q4 q4 => ?_) (fun H4 acc c4 D4 e4 l3 l4 hl ha hR => ?_)
    · refine ⟨_, rfl, sz_of (n := 5) (by decide), fun t ht => ?_⟩
      have nt : t ≠ d := (ne_of_none D4.here ht).symm
      refine ⟨d, a, t, ns, c4, _, rfl, D4.mono (Ex.new ht), by omega, nt, sq_of upd_same, by decide, ?_⟩
      intro v H5 c5 D5 e6 m1 m2 hv
      refine q4 v H5 c5 D5 ((ExB.of (Ex.new ht)).trans e6) m1 m2 ?_
      simp only [List.mem_cons, List.not_mem_nil, or_false] at hv
      rcases hv with h | h | h | h | h <;> subst h
      · exact ⟨.a, rfl⟩
      · exact ⟨.n, rfl⟩
      · exact ⟨.r, rfl⟩
      · exact ⟨.r, rfl⟩
      · exact ⟨.n, rfl⟩
    · obtain ⟨l, hl2⟩ := conv_signs acc hR
      subst hl2
      have hlw : l.length = n.toNat := by
        rw [← ha]
        exact (List.length_map ..).symm
      have em : (l.map fun g => V.str ⟨#[g.c]⟩) = (l.map fun g => (⟨#[g.c]⟩ : Str)).map V.str := by
        rw [List.map_map]
        rfl
      rw [em] at hl
      refine ⟨_, Dl, _, rfl, rfl, .inl (sq_of hl), ?_, ?_⟩
      · rw [sum_one, List.length_map]
        show l.length + l.length * 0 ≤ 16777216
        omega
      · rw [join_sg]
        exact q _ _ c4 D4 (((ExB.of e2).trans e3).trans e4) (by omega) (by omega) ⟨l, rfl, by omega⟩
end
end Tu
namespace Tu
open PySem PySem.Spec
open PySem.StrLaws (replL replL_nil replL_hit replL_miss)
/-! ### the mathematics: what becomes of a text, all places at once -/
/-- what becomes of one sign: whether an r is directly ahead of it, whether an n is directly behind it -/
def outS (c : Cv) (prev next : Bool) : Sg → List Sg
  | .a => [.a]
  | .n => match c with
    | .all => [.r, .n]
    | .care => if prev then [.n] else [.r, .n]
    | .lone => [.r]
    | _ => [.n]
  | .r => match c with
    | .both => if next then [] else [.n]
    | .lones => if next then [.r] else [.n]
    | .pairs => if next then [] else [.r]
    | _ => [.r]
def isN : List Sg → Bool | .n :: _ => true | _ => false
def go (c : Cv) : Bool → List Sg → List Sg
  | _, [] => []
  | p, s :: l => outS c p (isN l) s ++ go c (decide (s = .r)) l
def by1 (c : Cv) (l : List Sg) : List Sg := go c false l
def turnL : List Cv → List Sg → List Sg
  | [], l => l
  | c :: ws, l => turnL ws (by1 c l)
/-! ### by replacing -/
theorem r1_hit (c : Nat) (z m : List Nat) : replL [c] z (c :: m) = z ++ replL [c] z m := replL_hit (by simp) (by simp)
theorem r1_miss {c d : Nat} (h : d ≠ c) (z m : List Nat) : replL [c] z (d :: m) = d :: replL [c] z m := replL_miss (by simp [h])
theorem r2_hit (z m : List Nat) : replL [114, 110] z (114 :: 110 :: m) = z ++ replL [114, 110] z m := replL_hit (by simp) (by simp)
theorem r2_miss {d : Nat} (h : d ≠ 114) (z m : List Nat) : replL [114, 110] z (d :: m) = d :: replL [114, 110] z m := replL_miss (by cases m <;> simp [h])
theorem r2_miss2 {d : Nat} (h : d ≠ 110) (z m : List Nat) : replL [114, 110] z (114 :: d :: m) = 114 :: replL [114, 110] z (d :: m) := replL_miss (by simp [h])
theorem r2_last (z : List Nat) : replL [114, 110] z [114] = [114] := by
  rw [replL_miss (by simp), replL_nil]
/-- the replacements that stand for a conversion -/
def pairsOf : Cv → List (List Nat × List Nat)
  | .all => [([110], [114, 110])]
  | .both => [([114, 110], [110]), ([114], [110])]
  | .care => [([114, 110], [110]), ([110], [114, 110])]
  | .lone => [([110], [114])]
  | .lones => [([114, 110], [120]), ([114], [110]), ([120], [114, 110])]
  | .pairs => [([114, 110], [110])]
def repAll (ps : List (List Nat × List Nat)) (m : List Nat) : List Nat := ps.foldl (fun m p => replL p.1 p.2 m) m
theorem go_prev {c : Cv} (p q : Bool) {l : List Sg} (h : isN l = false) : go c p l = go c q l := by
  cases l with
  | nil => rfl
  | cons s l =>
    cases s with
    | n => cases h
    | a => rfl
    | r => cases c <;> rfl
theorem rep_by (c : Cv) : ∀ (k : Nat) (l : List Sg), l.length ≤ k → repAll (pairsOf c) (l.map Sg.c) = (by1 c l).map Sg.c
  | 0, l, h => by
    have e : l = [] := List.length_eq_zero_iff.mp (by omega)
    subst e
    cases c <;> simp [repAll, pairsOf, replL_nil, by1, go]
  | k + 1, l, h => by
    cases l with
    | nil => cases c <;> simp [repAll, pairsOf, replL_nil, by1, go]
    | cons s l =>
      have ih := rep_by c k l (by simpa using h)
      cases s with
      | a =>
        have e2 : by1 c (.a :: l) = .a :: by1 c l := by cases c <;> rfl
        rw [e2, List.map_cons, List.map_cons, ← ih]
        cases c <;> simp [repAll, pairsOf, Sg.c, r1_miss, r2_miss]
      | n =>
        have e2 : by1 c (.n :: l) = outS c false (isN l) .n ++ by1 c l := by cases c <;> rfl
        rw [e2, List.map_append, ← ih]
        cases c <;> simp [repAll, pairsOf, Sg.c, r1_hit, r1_miss, r2_miss, outS]
      | r =>
        cases l with
        | nil => cases c <;> simp [repAll, pairsOf, Sg.c, r1_hit, r1_miss, r2_last, replL_nil, by1, go, outS, isN]
        | cons t l =>
          have ih2 := rep_by c (k - 1) l (by simp at h; omega)
          cases t with
          | n =>
            have e2 : by1 c (.r :: .n :: l) = outS c false true .r ++ (outS c true (isN l) .n ++ by1 c l) := by cases c <;> rfl
            rw [e2, List.map_append, List.map_append, ← ih2]
            cases c <;> simp [repAll, pairsOf, Sg.c, r1_hit, r1_miss, r2_hit, outS]
          | a =>
            have e2 : by1 c (.r :: .a :: l) = outS c false false .r ++ by1 c (.a :: l) := by cases c <;> rfl
            rw [e2, List.map_append, ← ih]
            cases c <;> simp [repAll, pairsOf, Sg.c, r1_hit, r1_miss, r2_miss, r2_miss2, outS]
          | r =>
            have e2 : by1 c (.r :: .r :: l) = outS c false false .r ++ by1 c (.r :: l) := by cases c <;> rfl
            rw [e2, List.map_append, ← ih]
            cases c <;> simp [repAll, pairsOf, Sg.c, r1_hit, r1_miss, r2_miss2, outS]
/-! ### sign by sign -/
def holds : Cv → Bool | .both => true | .lones => true | .pairs => true | _ => false
/-- what a held r becomes ahead of an n, and otherwise -/
def heldN : Cv → List Sg | .lones => [.r] | _ => []
def heldE : Cv → List Sg | .both => [.n] | .lones => [.n] | .pairs => [.r] | _ => []
def plain : Cv → Bool | .all => true | .lone => true | _ => false
def one (c : Cv) (b : Bool) (s : Sg) : Bool × List Sg :=
  match c with
  | .all => (false, if s = .n then [.r, .n] else [s])
  | .lone => (false, if s = .n then [.r] else [s])
  | .care => (decide (s = .r), if s = .n && !b then [.r, .n] else [s])
  | c => (decide (s = .r), (if b then (if s = .n then heldN c else heldE c) else []) ++ (if s = .r then [] else [s]))
def many (c : Cv) : Bool → List Sg → Bool × List Sg
  | b, [] => (b, [])
  | b, s :: l => ((many c (one c b s).1 l).1, (one c b s).2 ++ (many c (one c b s).1 l).2)
theorem many_app (c : Cv) : ∀ (b : Bool) (x y : List Sg), many c b (x ++ y) = ((many c (many c b x).1 y).1, (many c b x).2 ++ (many c (many c b x).1 y).2)
  | b, [], y => rfl
  | b, s :: x, y => by
    show ((many c (one c b s).1 (x ++ y)).1, (one c b s).2 ++ (many c (one c b s).1 (x ++ y)).2) = _
    rw [many_app c _ x y]
    simp [many]
/-- the whole of it: what is given out, and at the end -/
def tailE (c : Cv) (b : Bool) : List Sg := if b && holds c then heldE c else []
def runF (c : Cv) (b : Bool) (l : List Sg) : List Sg := (many c b l).2 ++ tailE c (many c b l).1
theorem go_any {c : Cv} (h : c ≠ .care) (p q : Bool) (l : List Sg) : go c p l = go c q l := by
  cases l with
  | nil => rfl
  | cons s l =>
    cases s with
    | a => rfl
    | r => cases c <;> rfl
    | n => cases c <;> first | rfl | exact absurd rfl h
theorem run_cons (c : Cv) (b : Bool) (s : Sg) (l : List Sg) : runF c b (s :: l) = (one c b s).2 ++ runF c (one c b s).1 l := by simp [runF, many]
theorem run_care : ∀ (b : Bool) (l : List Sg), runF .care b l = go .care b l
  | b, [] => by cases b <;> rfl
  | b, s :: l => by
    rw [run_cons, run_care _ l]
    cases b <;> cases s <;> rfl
/-- a held r stands for the r that was read -/
theorem run_go {c : Cv} (h : c ≠ .care) : ∀ (b : Bool) (l : List Sg), runF c b l = (if b && holds c then outS c false (isN l) .r else []) ++ go c false l
  | b, [] => by cases c <;> cases b <;> first | rfl | exact absurd rfl h
  | b, s :: l => by
    have e : go c false (s :: l) = outS c false (isN l) s ++ go c false l := by
      show outS c false (isN l) s ++ go c (decide (s = .r)) l = _
      rw [go_any h _ false l]
    rw [run_cons, run_go h _ l, e]
    cases c <;> first | exact absurd rfl h | (cases b <;> cases s <;> simp [one, holds, heldN, heldE, outS, isN])
theorem run_by (c : Cv) (l : List Sg) : runF c false l = by1 c l := by
  by_cases h : c = .care
  · subst h
    exact run_care false l
  · rw [run_go h]
    rfl
/-! ### ways -/
def stepW : List Cv → List Bool → List Sg → List Bool × List Sg
  | c :: ws, b :: st, t => ((many c b t).1 :: (stepW ws st (many c b t).2).1, (stepW ws st (many c b t).2).2)
  | _, _, t => ([], t)
def endW : List Cv → List Bool → List Sg → List Sg
  | c :: ws, b :: st, t => endW ws st (runF c b t)
  | _, _, t => t
theorem step_len : ∀ (ws : List Cv) (st : List Bool) (t : List Sg), st.length = ws.length → (stepW ws st t).1.length = ws.length
  | [], _, _, _ => by simp [stepW]
  | _ :: ws, b :: st, t, h => by
    show (stepW ws st _).1.length + 1 = ws.length + 1
    rw [step_len ws st _ (by simpa using h)]
  | _ :: _, [], _, h => by simp at h
theorem end_app : ∀ (ws : List Cv) (st : List Bool) (x y : List Sg), st.length = ws.length → endW ws st (x ++ y) = (stepW ws st x).2 ++ endW ws (stepW ws st x).1 y
  | [], st, x, y, h => by
    cases st with
    | nil => rfl
    | cons _ _ => simp at h
  | c :: ws, b :: st, x, y, h => by
    have hl : st.length = ws.length := by simpa using h
    show endW ws st (runF c b (x ++ y)) = (stepW ws st (many c b x).2).2 ++ endW ws (stepW ws st (many c b x).2).1 (runF c (many c b x).1 y)
    have e : runF c b (x ++ y) = (many c b x).2 ++ runF c (many c b x).1 y := by simp [runF, many_app]
    rw [e, end_app ws st _ _ hl]
  | _ :: _, [], _, _, h => by simp at h
/-- reading sign by sign, from a standing on -/
def walkW (ws : List Cv) : List Bool → List Sg → List Bool × List Sg
  | st, [] => (st, [])
  | st, s :: l => ((walkW ws (stepW ws st [s]).1 l).1, (stepW ws st [s]).2 ++ (walkW ws (stepW ws st [s]).1 l).2)
theorem walk_end (ws : List Cv) : ∀ (l : List Sg) (st : List Bool), st.length = ws.length → (walkW ws st l).2 ++ endW ws (walkW ws st l).1 [] = endW ws st l
  | [], st, h => rfl
  | s :: l, st, h => by
    have e := end_app ws st [s] l h
    rw [List.singleton_append] at e
    rw [e, ← walk_end ws l _ (step_len ws st [s] h)]
    simp [walkW]
theorem end_turn : ∀ (ws : List Cv) (l : List Sg), endW ws (List.replicate ws.length false) l = turnL ws l
  | [], l => rfl
  | c :: ws, l => by
    show endW ws (List.replicate ws.length false) (runF c false l) = turnL ws (by1 c l)
    rw [run_by, end_turn ws]
end Tu
namespace Tu
open PySem PySem.Spec PyProof.Rows L2 Evl
/-! ### more words of evaluation -/
section
variable {K : PySem.W.Frag} {H H' : Hp} {σ : L2.St} {t : TT} {te tl : TE} {D : Ends} {tz tu : TS}
/-- a comprehension over a text -/
theorem el_lcS {x : Str} {j : Nat} {vs : List Nat} (f : Nat → Bool) (v : Nat → V) (h : Ev tl σ H (.str x)) (hz : x.cps.size ≤ 40000) (hw : ∀ x, wipe ((wipe σ vs).set j (some x)) vs = wipe σ vs)
    (ht : ∀ (i c : Nat) H1, Ex H H1 → x.cps[i]? = some c → EvT t ((wipe σ vs).set j (some (.str ⟨#[c]⟩))) H1 (f i)) (he : ∀ (i c : Nat) H1, Ex H H1 → x.cps[i]? = some c → f i = true → Ev te ((wipe σ vs).set j (some (.str ⟨#[c]⟩))) H1 (v i)) :
    EvL (tLc (iStr tl) (gName j) t te vs) σ H (given x.cps.size f v) := fun H0 e Q q => h H0 e _ fun H1 e1 => ⟨x, rfl, fun Dl hD =>
  lc_it walk_str (Cw H1 f v Dl) ⟨hD, Ex.new hD, upd_same⟩ (fun i H' _ p => trivial) (fun i y H' H2 hi p hy => by
    obtain ⟨rfl, c, hc, rfl⟩ := hy
    exact ⟨hw _, cw_turn p (by omega) (ht i c H1 (e.trans e1) hc) (fun hf => he i c H1 (e.trans e1) hc hf)⟩)
    (fun H' p => q Dl H' (fresh_back e1 p.1) (e1.trans p.2.1) p.2.2)⟩
/-- a comprehension over a tuple -/
theorem el_lcT {a : Addr} {xs : List V} {j : Nat} {vs : List Nat} (f : Nat → Bool) (v : Nat → V) (h : Ev tl σ H (.ref a)) (hx : SqT K H a xs) (hz : xs.length ≤ 40000) (hw : ∀ x, wipe ((wipe σ vs).set j (some x)) vs = wipe σ vs)
    (ht : ∀ (i : Nat) (x : V) H1, Ex H H1 → xs[i]? = some x → EvT t ((wipe σ vs).set j (some x)) H1 (f i)) (he : ∀ (i : Nat) (x : V) H1, Ex H H1 → xs[i]? = some x → f i = true → Ev te ((wipe σ vs).set j (some x)) H1 (v i)) :
    EvL (tLc (iTup K tl) (gName j) t te vs) σ H (given xs.length f v) := fun H0 e Q q => h H0 e _ fun H1 e1 => ⟨a, rfl, ⟨xs, ex_t (e.trans e1) hx⟩, fun Dl hD =>
  lc_it walk_tup (Cw H1 f v Dl) ⟨hD, Ex.new hD, upd_same⟩ (fun i H' _ p => ex_t ((e.trans e1).trans p.2.1) hx) (fun i y H' H2 hi p hy => by
    obtain ⟨rfl, hc⟩ := hy
    exact ⟨hw _, cw_turn p (by omega) (ht i y H1 (e.trans e1) hc) (fun hf => he i y H1 (e.trans e1) hc hf)⟩)
    (fun H' p => q Dl H' (fresh_back e1 p.1) (e1.trans p.2.1) p.2.2)⟩
theorem given_all (n : Nat) (f : Nat → Bool) (v : Nat → V) (g : Nat → V) (hf : ∀ i, f i = true) (h : ∀ i, i < n → v i = g i) : given n f v = (List.range n).map g := by
  unfold given
  rw [List.filter_eq_self.mpr fun i _ => hf i]
  exact List.map_congr_left fun i hi => h i (List.mem_range.mp hi)
theorem given_const (n : Nat) (v : V) : given n (fun _ => true) (fun _ => v) = List.replicate n v := by
  rw [given_all n _ _ (fun _ => v) (fun _ => rfl) (fun _ _ => rfl), List.map_const', List.length_range]
theorem ev_all {n : Nat} (h : EvL tl σ H (given n (fun _ => true) fun _ => V.bl true)) : Ev (tCB (rAll K) (tCons tl tNil)) σ H (.bl true) := fun H1 e Q q =>
  h H1 e _ fun p H2 hp e2 hl => ⟨p, List.replicate n true, rfl, sq_of (by rw [hl, given_const, List.map_replicate]), by
    rw [show (List.replicate n true).all id = true by simp]
    exact q H2 e2⟩
theorem ev_isi {x : V} {c t : String} {b : Bool} {tc : TE} (hx : Ev te σ H x) (hc : Ev tc σ H (.ty c)) (ht : ∀ H1, Ex H H1 → TyX K H1 x (.type t)) (hb : kitB t c = some b) : Ev (tCB (rIsi K) (tCons te (tCons tc tNil))) σ H (.bl b) :=
  ev_cb (vs := [x, .ty c]) (ea_cons hx (ea_cons hc ea_nil)) fun H1 e Q q => ⟨x, .ty c, .type t, .type c, b, rfl, .ty c, ht H1 e, kit_ty hb, q H1 (Ex.refl H1)⟩
theorem et_yes : EvT tYes σ H true := fun H1 _ Q q => q H1 (Ex.refl H1)
end
abbrev sChkText : Stmt := topS 10
abbrev sChkKind : Stmt := topS 11
abbrev sIsOf : Stmt := topS 12
abbrev sChkWay : Stmt := topS 19
abbrev sChkSt : Stmt := topS 20
theorem scChkText : FnScope ["text", "sign"] ["text"] (defScope sChkText) := ⟨rfl, rfl, rfl, by decide +kernel, rfl, by decide +kernel, by decide +kernel⟩
theorem scChkKind : FnScope ["kind"] ["kind"] (defScope sChkKind) := ⟨rfl, rfl, rfl, by decide +kernel, rfl, by decide +kernel, by decide +kernel⟩
theorem scIsOf : FnScope ["text", "kind"] ["text", "kind"] (defScope sIsOf) := ⟨rfl, rfl, rfl, by decide +kernel, rfl, by decide +kernel, by decide +kernel⟩
theorem scChkWay : FnScope ["way", "word"] ["way"] (defScope sChkWay) := ⟨rfl, rfl, rfl, by decide +kernel, rfl, by decide +kernel, by decide +kernel⟩
theorem scChkSt : FnScope ["way", "standing", "word", "flag"] ["way", "standing"] (defScope sChkSt) := ⟨rfl, rfl, rfl, by decide +kernel, rfl, by decide +kernel, by decide +kernel⟩
def allCv : List Cv := [.all, .both, .care, .lone, .lones, .pairs]
theorem in_signs (g : Sg) : inV (.str ⟨#[g.c]⟩) [.str "a", .str "n", .str "r"] = true := by cases g <;> decide +kernel
theorem in_convs (c : Cv) : inV (.str c.s) (wayV allCv) = true := by cases c <;> decide +kernel
theorem txt_get {l : List Sg} {i c : Nat} (h : (txt l).cps[i]? = some c) : ∃ g : Sg, l[i]? = some g ∧ c = g.c := by
  have h2 : (l.map Sg.c)[i]? = some c := by
    have e : (txt l).cps = (l.map Sg.c).toArray := rfl
    rw [e, List.getElem?_toArray] at h
    exact h
  rw [List.getElem?_map] at h2
  cases q : l[i]? with
  | none => rw [q] at h2; cases h2
  | some g =>
    rw [q] at h2
    exact ⟨g, rfl, (Option.some.inj h2).symm⟩
section
variable {P : Program} {w : World} {K : PySem.W.Frag} {mg : Str → Option Value} {base : Heap} {H H' : Hp}
def spChkText (K : PySem.W.Frag) : Sp := fun vs H Q _ => ∃ l : List Sg, vs = [.str (txt l)] ∧ l.length ≤ 40000 ∧ RetV .non H Q
theorem ok_chkText {f aS : Addr} {fd : FuncData} {k : Nat} (F : Fun K "check_text" "check_text" sChkText f fd) (mi : mg "isinstance" = none) (ms : mg "str" = none) (ma : mg "all" = none) (mS : mg "SIGNS" = some (.ref aS)) (tS : ∀ H, SqT K H aS [.str "a", .str "n", .str "r"]) :
    FnOk P w K mg base CX0 (k + 1) f fd ["text"] (spChkText K) := by
  refine F.ok scChkText (fun vs H Q E h => ?_) (fun cdv A outer s H vs Q E hr h => ?_)
  · obtain ⟨l, rfl, _⟩ := h
    rfl
  · obtain ⟨l, rfl, hl, q⟩ := h
    have nd := scChkText.nd
    refine ⟨_, pss_one (ps_if (PW.pt (pw_or (pt_not (pt_val (pe_callB call_isi (by rfl) mi (by decide +kernel) (pa_cons (pv 0) (pa_cons (pe_bltn (v := .ty "str") (u := .type "str") (by rfl) ms (by decide +kernel) rfl) pa_nil)))))
      (pw_or1 (pt_not (pt_val (pe_callB (cr_all rfl) (by rfl) ma (by decide +kernel) (pa_cons
        (pe_lc (own := [("sign", 1)]) (g := gName 1) (by rfl) nd (pi_str (pv 0)) (blkOk_by (N := ["text", "sign"]) (sc := defScope sChkText) (by decide +kernel)) (fun _ _ _ _ _ => pg_name (i := 1) nd rfl (Or.inl rfl)) (fun _ _ _ _ _ => pts_nil)
          (fun _ _ _ _ _ => pe_cmpR (r := rIn K false) op_in_seq (pv 1) (pe_glob (v := .ref aS) (by rfl) mS rfl) rfl)) pa_nil)))))))
      (pss_one ps_never) pss_nil), ?_⟩
    refine s_if (b := false) (et_or (a := false) (b := false) (et_not (a := true) (et_test (ev_isi (t := "str") (ev_var rfl) ev_c (fun _ _ => .base (.str _)) (by decide +kernel))))
      (fun _ => et_not (a := true) (et_test (ev_all (el_lcS (fun _ => true) (fun _ => .bl true) (ev_var rfl) ?_ (fun _ => rfl) (fun _ _ _ _ _ => et_yes) (fun i c H1 e hc _ => ?_)))))) (fun z => nomatch z) (fun _ H1 e1 => q.go e1)
    · rw [show (txt l).cps.size = (txt l).length from rfl, txt_len]
      exact hl
    · obtain ⟨g, _, rfl⟩ := txt_get hc
      have z := ev_op (σ := [some (.str (txt l)), some (.str ⟨#[g.c]⟩)]) (ev_var (i := 1) rfl) (ev_c (v := .ref aS)) (rv_isT (tS H1) rfl rfl)
      rw [in_signs g] at z
      exact z
end
end Tu
namespace Tu
open PySem PySem.Spec PyProof.Rows L2 Evl RZ
/-! ### a written dict: in, and its items -/
def KIn (K : PySem.W.Frag) (w : World) (p : Addr) (x : Str) (b : Bool) : Prop :=
  ∃ es n r, K.lookup p = some ⟨.type "dict", none, .dict es n, #[]⟩ ∧ PySem.W.KeysLit w.params es.toList ∧ (p == sysModules) = false ∧ PySem.W.nsIn K p x = some r ∧ r.isSome = b
def rInK (K : PySem.W.Frag) (w : World) : R2 := fun x y H Q => ∃ p z b, x = .str z ∧ y = .ref p ∧ KIn K w p z b ∧ Q (.bl b) H
theorem op_in_kd {X : Cx} : OpR X (compareOp .In) (rInK X.K X.w) := by
  intro pins s σ H x y v u Q I rx ry h
  obtain ⟨p, z, b, rfl, rfl, ⟨es, n, r, hl, hk, lo, e, hb⟩, q⟩ := h
  obtain ⟨t, rfl⟩ := rx
  obtain rfl : u = Value.ref p := ry
  refine wpAny_in_of (strKind_is X.prog X.w z t) lo (PySem.W.mapOf_K (prog := X.prog) (w := X.w) I.kIn hl hk) ?_
  rw [PySem.W.find_K hl e]
  exact ⟨.bl b, H, I.tok _, by rw [hb]; rfl, q⟩
section
variable {K : PySem.W.Frag} {w : World} {H H' : Hp} {σ : L2.St} {t : TT} {te tl ta tb : TE} {D : Ends} {tz tu : TS}
theorem ev_inK {p : Addr} {z : Str} {b : Bool} (h : Ev ta σ H (.str z)) (h2 : Ev tb σ H (.ref p)) (hk : KIn K w p z b) : Ev (tOp (rInK K w) ta tb) σ H (.bl b) := ev_op h h2 fun H1 _ Q q => ⟨p, z, b, rfl, rfl, hk, q H1 (Ex.refl H1)⟩
theorem ev_ixK {p : Addr} {z : Str} {v : V} (h : Ev ta σ H (.ref p)) (h2 : Ev tb σ H (.str z)) (hk : KDct K w p z v) : Ev (tOp (rIxD K w) ta tb) σ H v := ev_op h h2 fun H1 _ Q q => ⟨p, z, v, rfl, rfl, hk, q H1 (Ex.refl H1)⟩
theorem tyx_sqt {a : Addr} {xs : List V} (h : SqT K H a xs) : TyX K H (.ref a) (.type "tuple") := by
  rcases h with (h | ⟨o, h⟩) | ⟨o, its, n, l, c, _⟩
  · exact .base (.tup h)
  · exact .fTuple h
  · exact .kTuple l c
/-- for a, b in zip(t, u) of two tuples of one length -/
theorem s_forZ {a b : Addr} {xs ys : List V} {ta : TA} {j k : Nat} (h : EvA ta σ H [.ref a, .ref b]) (hx : SqT K H a xs) (hy : SqT K H b ys) (hl : xs.length = ys.length) (Pv : Nat → L2.St → Hp → Prop) (h0 : ∀ H1, Ex H H1 → Pv 0 σ H1)
    (hq : ∀ i σ' H', Pv i σ' H' → SqT K H' a xs ∧ SqT K H' b ys) (hs : ∀ i x y σ' H', xs[i]? = some x → ys[i]? = some y → Pv i σ' H' → ∀ H2, Ex H' H2 → tu { D with nx := Pv (i + 1), ct := Pv (i + 1), bk := D.nx } ((σ'.set j (some x)).set k (some y)) H2)
    (hd : ∀ σ' H', Pv xs.length σ' H' → D.nx σ' H') : tFor (iZipA K ta) (gTup K 2 (gCons (gName j) (gCons (gName k) gNil))) tu D σ H := h H (Ex.refl H) _ fun H1 e1 =>
  ⟨a, b, xs, ys, rfl, .inr ⟨ex_t e1 hx, ex_t e1 hy, for_zipT hl Pv (h0 H1 e1) hq
    (fun i x y T σ' H' gx gy p hT => ⟨T, [x, y], rfl, st_of upd_same, rfl, x, [y], rfl, y, [], rfl, rfl, hs i x y σ' H' gx gy p _ (Ex.new hT)⟩) hd⟩⟩
theorem q_forZ {a b : Addr} {xs ys : List V} {ta : TA} {j k : Nat} (h : EvA ta σ H [.ref a, .ref b]) (hx : SqT K H a xs) (hy : SqT K H b ys) (hl : xs.length = ys.length) (Pv : Nat → L2.St → Hp → Prop) (h0 : ∀ H1, Ex H H1 → Pv 0 σ H1)
    (hq : ∀ i σ' H', Pv i σ' H' → SqT K H' a xs ∧ SqT K H' b ys) (hs : ∀ i x y σ' H', xs[i]? = some x → ys[i]? = some y → Pv i σ' H' → ∀ H2, Ex H' H2 → tu { D with nx := Pv (i + 1), ct := Pv (i + 1), bk := tz D } ((σ'.set j (some x)).set k (some y)) H2)
    (hd : ∀ σ' H', Pv xs.length σ' H' → tz D σ' H') : tSeq (tFor (iZipA K ta) (gTup K 2 (gCons (gName j) (gCons (gName k) gNil))) tu) tz D σ H := s_forZ (D := { D with nx := tz D }) h hx hy hl Pv h0 hq hs hd
end
inductive Kd where | any | bare | lone | paired deriving DecidableEq
def Kd.s : Kd → Str | .any => "any" | .bare => "bare" | .lone => "lone" | .paired => "paired"
def kinds : List Kd := [.any, .bare, .lone, .paired]
def kindV (ks : List Kd) : List V := ks.map fun k => .str k.s
theorem in_kinds (c : Kd) : inV (.str c.s) (kindV kinds) = true := by cases c <;> decide +kernel
def stV (st : List Bool) : List V := st.map V.bl
/-- a standing of a way -/
def stOk : List Cv → List Bool → Prop
  | [], [] => True
  | c :: ws, b :: st => (b = true → plain c = false) ∧ stOk ws st
  | _, _ => False
theorem stOk.len : ∀ {ws : List Cv} {st : List Bool}, stOk ws st → st.length = ws.length
  | [], [], _ => rfl
  | _ :: _, _ :: _, h => congrArg (· + 1) (stOk.len h.2)
  | [], _ :: _, h => h.elim
  | _ :: _, [], h => h.elim
theorem stOk.get : ∀ {ws : List Cv} {st : List Bool} {i : Nat} {c : Cv} {b : Bool}, stOk ws st → ws[i]? = some c → st[i]? = some b → b = true → plain c = false
  | c :: ws, b :: st, 0, _, _, h, h1, h2 => by
    have e1 := Option.some.inj h1
    have e2 := Option.some.inj h2
    subst e1 e2
    exact h.1
  | c :: ws, b :: st, i + 1, _, _, h, h1, h2 => stOk.get (i := i) h.2 h1 h2
  | [], [], i, _, _, _, h1, _ => by simp at h1
  | [], _ :: _, _, _, _, h, _, _ => h.elim
  | _ :: _, [], _, _, _, h, _, _ => h.elim
theorem wayV_get {ws : List Cv} {i : Nat} {x : V} (h : (wayV ws)[i]? = some x) : ∃ c, ws[i]? = some c ∧ x = .str c.s := by
  unfold wayV at h
  rw [List.getElem?_map] at h
  cases q : ws[i]? with
  | none => rw [q] at h; cases h
  | some c => rw [q] at h; exact ⟨c, rfl, (Option.some.inj h).symm⟩
theorem stV_get {ws : List Bool} {i : Nat} {x : V} (h : (stV ws)[i]? = some x) : ∃ c, ws[i]? = some c ∧ x = .bl c := by
  unfold stV at h
  rw [List.getElem?_map] at h
  cases q : ws[i]? with
  | none => rw [q] at h; cases h
  | some c => rw [q] at h; exact ⟨c, rfl, (Option.some.inj h).symm⟩
theorem wayV_len (ws : List Cv) : (wayV ws).length = ws.length := List.length_map ..
theorem stV_len (ws : List Bool) : (stV ws).length = ws.length := List.length_map ..
section
variable {P : Program} {w : World} {K : PySem.W.Frag} {mg : Str → Option Value} {base : Heap} {H H' : Hp}
def spChkKind (K : PySem.W.Frag) : Sp := fun vs H Q _ => ∃ c : Kd, vs = [.str c.s] ∧ RetV .non H Q
theorem ok_chkKind {f aS : Addr} {fd : FuncData} {k : Nat} (F : Fun K "check_kind" "check_kind" sChkKind f fd) (mi : mg "isinstance" = none) (ms : mg "str" = none) (mS : mg "KINDS" = some (.ref aS)) (tS : ∀ H, SqT K H aS (kindV kinds)) :
    FnOk P w K mg base CX0 (k + 1) f fd ["kind"] (spChkKind K) := by
  refine F.ok scChkKind (fun vs H Q E h => ?_) (fun cdv A outer s H vs Q E hr h => ?_)
  · obtain ⟨l, rfl, _⟩ := h
    rfl
  · obtain ⟨c, rfl, q⟩ := h
    refine ⟨_, pss_one (ps_if (PW.pt (pw_or (pt_not (pt_val (pe_callB call_isi (by rfl) mi (by decide +kernel) (pa_cons (pv 0) (pa_cons (pe_bltn (v := .ty "str") (u := .type "str") (by rfl) ms (by decide +kernel) rfl) pa_nil)))))
      (pw_or1 (pt_cmpR op_notIn_seq (pv 0) (pe_glob (v := .ref aS) (by rfl) mS rfl) rfl)))) (pss_one ps_never) pss_nil), ?_⟩
    have z := ev_op (σ := [some (.str c.s)]) (ev_var (i := 0) rfl) (ev_c (v := .ref aS)) (rv_niT (tS H) (x := .str c.s) rfl rfl)
    rw [in_kinds c] at z
    exact s_if (b := false) (et_or (a := false) (b := false) (et_not (a := true) (et_test (ev_isi (t := "str") (ev_var rfl) ev_c (fun _ _ => .base (.str _)) (by decide +kernel)))) (fun _ => et_test z)) (fun z => nomatch z) (fun _ H1 e1 => q.go e1)
def spChkWay (K : PySem.W.Frag) : Sp := fun vs H Q _ => ∃ (a : Addr) (ws : List Cv), vs = [.ref a] ∧ SqT K H a (wayV ws) ∧ ws.length ≤ 6 ∧ RetV .non H Q
theorem ok_chkWay {f aS : Addr} {fd : FuncData} {k : Nat} {t6 : Tok} (F : Fun K "check_way" "check_way" sChkWay f fd) (mi : mg "isinstance" = none) (ms : mg "str" = none) (ma : mg "all" = none) (mt : mg "tuple" = none) (ml : mg "len" = none)
    (m6 : mg "LONGEST" = some (.int 6 t6)) (mS : mg "CONVERSIONS" = some (.ref aS)) (tS : ∀ H, SqT K H aS (wayV allCv)) :
    FnOk P w K mg base CX0 (k + 1) f fd ["way"] (spChkWay K) := by
  refine F.ok scChkWay (fun vs H Q E h => ?_) (fun cdv A outer s H vs Q E hr h => ?_)
  · obtain ⟨a, ws, rfl, _⟩ := h
    rfl
  · obtain ⟨a, ws, rfl, hS, hl, q⟩ := h
    have nd := scChkWay.nd
    refine ⟨_, pss_cons (ps_if (PW.pt (pw_or (pt_not (pt_val (pe_callB call_isi (by rfl) mi (by decide +kernel) (pa_cons (pv 0) (pa_cons (pe_bltn (v := .ty "tuple") (u := .type "tuple") (by rfl) mt (by decide +kernel) rfl) pa_nil)))))
      (pw_or1 (pt_cmpR op_gt (pe_callB call_len_seq (by rfl) ml PySem.boot_len (pa_cons (pv 0) pa_nil)) (pe_glob (v := .int 6) (by rfl) m6 ⟨_, rfl⟩) (nomark _))))) (pss_one ps_never) pss_nil)
      (pss_one (ps_if (pt_not (pt_val (pe_callB (cr_all rfl) (by rfl) ma (by decide +kernel) (pa_cons
        (pe_lc (own := [("word", 1)]) (g := gName 1) (by rfl) nd (pi_tup (pv 0)) (blkOk_by (N := ["way", "word"]) (sc := defScope sChkWay) (by decide +kernel)) (fun _ _ _ _ _ => pg_name (i := 1) nd rfl (Or.inl rfl)) (fun _ _ _ _ _ => pts_nil)
          (fun _ _ _ _ _ => pe_and (pe_callB (r := rIsi K) call_isi (by rfl) mi (by decide +kernel) (pa_cons (pv 1) (pa_cons (pe_bltn (v := .ty "str") (u := .type "str") (by rfl) ms (by decide +kernel) rfl) pa_nil)))
            (pe_one (pe_cmpR (r := rIn K false) op_in_seq (pv 1) (pe_glob (v := .ref aS) (by rfl) mS rfl) rfl)))) pa_nil)))) (pss_one ps_never) pss_nil)), ?_⟩
    refine q_if (b := false) (et_or (a := false) (b := false) (et_not (a := true) (et_test (ev_isi (t := "tuple") (ev_var rfl) ev_c (fun H1 e => tyx_sqt (ex_t e hS)) (by decide +kernel))))
      (fun _ => et_test ?_)) (fun z => nomatch z) (fun _ H1 e1 => ?_)
    · have z := ev_cb (σ := L2.start ["way", "word"] [.ref a]) (ea_cons (ev_var (i := 0) rfl) ea_nil) (rc_len (K := K) (.inr hS))
      rw [wayV_len] at z
      refine ev_is (ev_op z ev_c rv_I0) ?_
      rw [decide_eq_false (by omega)]
    · refine s_if (b := false) (et_not (a := true) (et_test (ev_all (el_lcT (fun _ => true) (fun _ => .bl true) (ev_var rfl) (ex_t e1 hS) (by rw [wayV_len]; omega) (fun _ => rfl) (fun _ _ _ _ _ => et_yes) (fun i x H2 e2 hc _ => ?_))))) (fun z => nomatch z) (fun _ H2 e2 => q.go (e1.trans e2))
      obtain ⟨c, _, rfl⟩ := wayV_get hc
      refine ev_andV (a := true) (b := true) (ev_isi (t := "str") (ev_var rfl) ev_c (fun _ _ => .base (.str _)) (by decide +kernel)) (fun _ => ?_)
      have z := ev_op (σ := [some (.ref a), some (.str c.s)]) (ev_var (i := 1) rfl) (ev_c (v := .ref aS)) (rv_isT (tS H2) (x := .str c.s) rfl rfl)
      rw [in_convs c] at z
      exact z
def spChkSt (K : PySem.W.Frag) : Sp := fun vs H Q _ => ∃ (a b : Addr) (ws : List Cv) (st : List Bool), vs = [.ref a, .ref b] ∧ SqT K H a (wayV ws) ∧ SqT K H b (stV st) ∧ stOk ws st ∧ ws.length ≤ 6 ∧ RetV .non H Q
theorem ok_chkSt {f aP : Addr} {fd : FuncData} {k : Nat} (F : Fun K "check_standing" "check_standing" sChkSt f fd) (mi : mg "isinstance" = none) (mt : mg "tuple" = none) (ml : mg "len" = none) (mz : mg "zip" = none) (mb : mg "bool" = none)
    (mP : mg "_PLAIN" = some (.ref aP)) (tP : ∀ c : Cv, KIn K w aP c.s (plain c)) :
    FnOk P w K mg base CX0 (k + 1) f fd ["way", "standing"] (spChkSt K) := by
  refine F.ok scChkSt (fun vs H Q E h => ?_) (fun cdv A outer s H vs Q E hr h => ?_)
  · obtain ⟨a, b, ws, st, rfl, _⟩ := h
    rfl
  · obtain ⟨a, b, ws, st, rfl, hS, hT, ok, hl, q⟩ := h
    have nd := scChkSt.nd
    refine ⟨_, pss_cons (ps_if (PW.pt (pw_or (pt_not (pt_val (pe_callB call_isi (by rfl) mi (by decide +kernel) (pa_cons (pv 1) (pa_cons (pe_bltn (v := .ty "tuple") (u := .type "tuple") (by rfl) mt (by decide +kernel) rfl) pa_nil)))))
      (pw_or1 (pt_cmpR op_ne (pe_callB call_len_seq (by rfl) ml PySem.boot_len (pa_cons (pv 1) pa_nil)) (pe_callB call_len_seq (by rfl) ml PySem.boot_len (pa_cons (pv 0) pa_nil)) (nomark _))))) (pss_one ps_never) pss_nil)
      (pss_one (ps_for PassesOwn.never rfl (pi_zipA (by rfl) mz (pa_cons (pv 0) (pa_cons (pv 1) pa_nil))) (pg_tup rfl (pgs_cons (pg_name (i := 2) nd rfl (.inl rfl)) (pgs_cons (pg_name (i := 3) nd rfl (.inl rfl)) pgs_nil)))
        (pss_one (ps_if (PW.pt (pw_or (pt_not (pt_val (pe_callB call_isi (by rfl) mi (by decide +kernel) (pa_cons (pv 3) (pa_cons (pe_bltn (v := .ty "bool") (u := .type "bool") (by rfl) mb (by decide +kernel) rfl) pa_nil)))))
          (pw_or1 (PW.pt (pw_and (pt_val (pv 3)) (pw_and1 (pt_cmpR op_in_kd (pv 2) (pe_glob (v := .ref aP) (by rfl) mP rfl) rfl)))))))
          (pss_one ps_never) pss_nil)))), ?_⟩
    refine q_if (b := false) (et_or (a := false) (b := false) (et_not (a := true) (et_test (ev_isi (t := "tuple") (ev_var rfl) ev_c (fun H1 e => tyx_sqt (ex_t e hT)) (by decide +kernel))))
      (fun _ => et_test ?_)) (fun z => nomatch z) (fun _ H1 e1 => ?_)
    · have z := ev_op (σ := L2.start ["way", "standing", "word", "flag"] [.ref a, .ref b]) (ev_cb (ea_cons (ev_var (i := 1) rfl) ea_nil) (rc_len (K := K) (.inr hT))) (ev_cb (ea_cons (ev_var (i := 0) rfl) ea_nil) (rc_len (K := K) (.inr hS))) (rv_ne rfl)
      rw [stV_len, wayV_len, ok.len] at z
      refine ev_is z ?_
      rw [decide_eq_true rfl]
      rfl
    · refine s_forZ (ea_cons (ev_var rfl) (ea_cons (ev_var rfl) ea_nil)) (ex_t e1 hS) (ex_t e1 hT) (by rw [wayV_len, stV_len, ok.len]) (fun i σ H' => Ex H1 H' ∧ ∃ x y, σ = [some (.ref a), some (.ref b), x, y]) (fun H2 e2 => ⟨e2, _, _, rfl⟩) (fun i σ H' p => ⟨ex_t (e1.trans p.1) hS, ex_t (e1.trans p.1) hT⟩) ?_ ?_
      · rintro i x y σ H' hx hy ⟨e2, x2, y2, rfl⟩ H2 e3
        obtain ⟨c, hc, rfl⟩ := wayV_get hx
        obtain ⟨f, hf, rfl⟩ := stV_get hy
        have hok := ok.get hc hf
        refine s_if (b := false) (et_or (a := false) (b := false) (et_not (a := true) (et_test (ev_isi (t := "bool") (ev_var rfl) ev_c (fun _ _ => .base (.bl _)) (by decide +kernel)))) (fun _ => ?_)) (fun z => nomatch z) (fun _ H3 e4 => ⟨e2.trans (e3.trans e4), _, _, rfl⟩)
        refine et_is (et_and (a := f) (b := plain c) (et_test (ev_var rfl)) (fun _ => et_test (ev_inK (ev_var rfl) ev_c (tP c)))) ?_
        cases f with
        | false => rfl
        | true => rw [hok rfl]; rfl
      · rintro σ H' ⟨e2, _⟩
        exact q.go (e1.trans e2)
end
end Tu
namespace Tu
open PySem PySem.Spec PyProof.Rows L2
theorem tuple_mul1 (l : Addr) (n : Nat) (dd : Option Addr) (sl : Array (Option Value)) (u : Tok) :
    Meets (Builtin.«tuple.__mul__» ⟨[.ref l, .int 1 u], []⟩) (fun _ R s => s.heap.get? l = some { cls := .type "tuple", dict := dd, data := .seq #[.bool false] n, slots := sl } ∧
      R (.ok (.ret (Value.ref l))) s) :=
  .of_wp fun prog w A R s h => by
    obtain ⟨hp, g, d, tk, os⟩ := s
    obtain ⟨hl, h⟩ := h
    have f1 := AutoSeq1.idx_int
    wp_walk using wpAny_loadPart' hl
    exact ⟨_, rfl, h⟩
theorem tuple_mul0 (l : Addr) (n : Nat) (dd : Option Addr) (sl : Array (Option Value)) (u : Tok) :
    Meets (Builtin.«tuple.__mul__» ⟨[.ref l, .int 0 u], []⟩) (fun _ R s => s.heap.get? l = some { cls := .type "tuple", dict := dd, data := .seq #[.bool false] n, slots := sl } ∧
      R (.ok (.ret (Value.ref s.heap.objs.size))) { s with heap := s.heap.push { cls := Value.type "tuple", data := Data.seq #[] }, toks := s.toks }) :=
  .of_wp fun prog w A R s h => by
    obtain ⟨hp, g, d, tk, os⟩ := s
    obtain ⟨hl, h⟩ := h
    have f1 := AutoSeq1.idx_int
    wp_walk using wpAny_loadPart' hl
    exact ⟨_, rfl, h⟩
/-- (False,) * k -/
def rFalses (K : PySem.W.Frag) : R2 := fun x y H Q => ∃ (l : Addr) (k : Nat), x = .ref l ∧ y = .int (k : Int) ∧ SqT K H l [.bl false] ∧ k ≤ 1000 ∧ ∀ p H', Evl.Ex H H' → SqT K H' p (List.replicate k (.bl false)) → Q (.ref p) H'
theorem rep_one {α : Type} (x : α) : ∀ k : Nat, (List.replicate k [x]).flatten = List.replicate k x
  | 0 => rfl
  | k + 1 => by
    rw [List.replicate_succ, List.flatten_cons, rep_one x k]
    rfl
theorem op_falses {X : Cx} : OpR X (binaryOp .Mult) (rFalses X.K) := by
  intro pins s σ H x y v u Q I rx ry h
  obtain ⟨l, k, rfl, rfl, hT, h2, q⟩ := h
  by_cases h1 : 2 ≤ k
  · refine op_repT (X := X) pins s σ H _ _ v u Q I rx ry ⟨l, (k : Int), [.bl false], rfl, rfl, hT, by simp, by omega, by omega, by simp, fun p hp => ?_⟩
    rw [Int.toNat_natCast, rep_one]
    exact q p _ (Evl.Ex.new hp) (Evl.st_of upd_same)
  · cases rx
    obtain ⟨t, rfl⟩ := ry
    obtain ⟨its, r, ⟨⟨cls, dd, data, sl⟩, ho, hc, n, hd⟩, hs⟩ := I.tuple hT
    simp only at hc hd
    subst hc hd
    have e : its = [Value.bool false] := by
      cases r with
      | cons r1 r2 =>
        cases r2
        cases r1
        rfl
    subst e
    have hk : k = 0 ∨ k = 1 := by omega
    rcases hk with rfl | rfl
    · refine wpAny_binaryOp_repeat_ref (T := "tuple") (U := "int") (by decide) ⟨_, ho, rfl⟩ (fun s' => typeIs_int s' _ t) noFill_tuple_mul F.fills_int_mul F.slot_int_rmul repeat_tuple F.slot_int_index.lookup
        (call_meets F.slot_int_rmul (typeIs_int s _ t) F.entry_int_rmul (F.args_int_rmul_2 _ _) (int_rmul_tuple _ t l _ n dd sl)
          ⟨ho, rfl, ⟨_, ho, rfl⟩, call_meets F.slot_tuple_mul ⟨_, ho, rfl⟩ F.entry_tuple_mul (F.args_tuple_mul_2 _ _) (tuple_mul0 l n dd sl t) ⟨ho, ?_⟩⟩)
      refine ⟨.ref s.heap.objs.size, _, I.laid (t' := s.toks) (o := .tup []) (fun b ob q => Heap.get?_push_of_some _ q) (Nat.le_refl _) ?_, rfl, q _ _ (Evl.Ex.new (I.hok.fresh (Nat.le_refl _))) (Evl.st_of upd_same)⟩
      exact ⟨Nat.zero_le _, _, .nil, IsTup.new _ _⟩
    · refine wpAny_binaryOp_repeat_ref (T := "tuple") (U := "int") (by decide) ⟨_, ho, rfl⟩ (fun s' => typeIs_int s' _ t) noFill_tuple_mul F.fills_int_mul F.slot_int_rmul repeat_tuple F.slot_int_index.lookup
        (call_meets F.slot_int_rmul (typeIs_int s _ t) F.entry_int_rmul (F.args_int_rmul_2 _ _) (int_rmul_tuple _ t l _ n dd sl)
          ⟨ho, rfl, ⟨_, ho, rfl⟩, call_meets F.slot_tuple_mul ⟨_, ho, rfl⟩ F.entry_tuple_mul (F.args_tuple_mul_2 _ _) (tuple_mul1 l n dd sl t) ⟨ho, ?_⟩⟩)
      exact ⟨.ref l, H, I, rfl, q l H (Evl.Ex.refl H) hT⟩
end Tu
namespace Tu
open PySem PySem.Spec PyProof.Rows L2 Evl RZ
section
variable {K : PySem.W.Frag} {w : World} {H H' : Hp} {σ : L2.St} {t : TT} {te tl ta tb : TE} {D : Ends} {tz tu : TS}
/-- for c in s -/
theorem s_forS {x : Str} {j : Nat} {tl : TE} (h : Ev tl σ H (.str x)) (Pv : Nat → L2.St → Hp → Prop) (h0 : ∀ H1, Ex H H1 → Pv 0 σ H1)
    (hs : ∀ (i c : Nat) σ' H', x.cps[i]? = some c → Pv i σ' H' → tu { D with nx := Pv (i + 1), ct := Pv (i + 1), bk := D.nx } (σ'.set j (some (.str ⟨#[c]⟩))) H') (hd : ∀ σ' H', Pv x.cps.size σ' H' → D.nx σ' H') : tFor (iStr tl) (gName j) tu D σ H := h H (Ex.refl H) _ fun H1 e1 =>
  ⟨x, rfl, for_it walk_str Pv (h0 H1 e1) (fun _ _ _ _ _ => trivial) (fun i v σ' H' H2 hi p hy => by
    obtain ⟨rfl, c, hc, rfl⟩ := hy
    exact hs i c σ' _ hc p) hd⟩
theorem q_forS {x : Str} {j : Nat} {tl : TE} (h : Ev tl σ H (.str x)) (Pv : Nat → L2.St → Hp → Prop) (h0 : ∀ H1, Ex H H1 → Pv 0 σ H1)
    (hs : ∀ (i c : Nat) σ' H', x.cps[i]? = some c → Pv i σ' H' → tu { D with nx := Pv (i + 1), ct := Pv (i + 1), bk := tz D } (σ'.set j (some (.str ⟨#[c]⟩))) H') (hd : ∀ σ' H', Pv x.cps.size σ' H' → tz D σ' H') : tSeq (tFor (iStr tl) (gName j) tu) tz D σ H :=
  s_forS (D := { D with nx := tz D }) h Pv h0 hs hd
/-- a, b = e, where e hands back a new pair -/
theorem q_pair {j k : Nat} {x y : V} (h : EvU te σ H [x, y]) (c : ∀ H1, Ex H H1 → tz D ((σ.set j (some x)).set k (some y)) H1) : tSeq (tAsg te (gTup K 2 (gCons (gName j) (gCons (gName k) gNil)))) tz D σ H :=
  h H (Ex.refl H) _ fun p H1 hp e hP => ⟨p, [x, y], rfl, st_of hP, rfl, x, [y], rfl, y, [], rfl, rfl, c H1 e⟩
/-- .. a pair that is written -/
theorem q_pairT {j k : Nat} {x y : V} {p : Addr} (h : Ev te σ H (.ref p)) (hT : ∀ H, SqT K H p [x, y]) (c : ∀ H1, Ex H H1 → tz D ((σ.set j (some x)).set k (some y)) H1) : tSeq (tAsg te (gTup K 2 (gCons (gName j) (gCons (gName k) gNil)))) tz D σ H :=
  h H (Ex.refl H) _ fun H1 e => ⟨p, [x, y], rfl, hT H1, rfl, x, [y], rfl, y, [], rfl, rfl, c H1 e⟩
def RetU (xs : List V) (H : Hp) (Q : VK) : Prop := ∀ p H2, H p = none → Ex H H2 → H2 p = some (.tup xs) → Q (.ref p) H2
theorem RetU.go {xs : List V} {Q : VK} (k : RetU xs H Q) (e : Ex H H') {p : Addr} {H2 : Hp} (hp : H' p = none) (e2 : Ex H' H2) (h : H2 p = some (.tup xs)) : Q (.ref p) H2 := k p H2 (fresh_back e hp) (e.trans e2) h
def SpU (sp : Sp) (vs : List V) (H : Hp) (xs : List V) : Prop := ∀ H1, Ex H H1 → ∀ Q : VK, RetU xs H1 Q → ∀ E : XK, sp vs H1 Q E
theorem eu_call {sp : Sp} {dvs vs xs : List V} {E : XK} {ta : TA} (h : EvA ta σ H vs) (hs : SpU sp (vs ++ dvs) H xs) : EvU (tCall sp dvs E ta) σ H xs := fun H1 e Q q =>
  h H1 e _ fun H2 e2 => hs H2 (e.trans e2) Q (fun p H3 hp e3 x => q p H3 (fresh_back e2 hp) (e2.trans e3) x) E
end
abbrev sOne : Stmt := topS 22
abbrev sAll : Stmt := topS 23
abbrev sStep : Stmt := topS 24
theorem scOne : FnScope ["word", "flag", "sign", "ahead_of_n", "otherwise", "held"] ["word", "flag", "sign"] (defScope sOne) := ⟨rfl, rfl, rfl, by decide +kernel, rfl, by decide +kernel, by decide +kernel⟩
theorem scAll : FnScope ["word", "flag", "text", "given", "sign", "out"] ["word", "flag", "text"] (defScope sAll) := ⟨rfl, rfl, rfl, by decide +kernel, rfl, by decide +kernel, by decide +kernel⟩
theorem scStep : FnScope ["way", "standing", "sign", "behind", "text", "word", "flag", "flag_behind"] ["way", "standing", "sign"] (defScope sStep) := ⟨rfl, rfl, rfl, by decide +kernel, rfl, by decide +kernel, by decide +kernel⟩
def sg (g : Sg) : Str := ⟨#[g.c]⟩
theorem sg_txt (g : Sg) : sg g = txt [g] := rfl
theorem dec_n (g : Sg) : decide (V.str (sg g) = V.str "n") = decide (g = .n) := by cases g <;> decide +kernel
theorem dec_r (g : Sg) : decide (V.str (sg g) = V.str "r") = decide (g = .r) := by cases g <;> decide +kernel
theorem dec_care (c : Cv) : decide (V.str c.s = V.str "care") = decide (c = .care) := by cases c <;> decide +kernel
theorem evn {σ : L2.St} {H' : Hp} {g : Sg} {i : Nat} (hs : σ[i]? = some (some (.str (sg g)))) : Ev (tOp rEq (tVar i) (tC (.str "n"))) σ H' (.bl (decide (g = .n))) := by
  have z := ev_op (σ := σ) (H := H') (ev_var hs) (ev_c (v := .str "n")) (rv_eq rfl)
  rw [dec_n] at z
  exact z
theorem evr {σ : L2.St} {H' : Hp} {g : Sg} {i : Nat} (hs : σ[i]? = some (some (.str (sg g)))) : Ev (tOp rEq (tVar i) (tC (.str "r"))) σ H' (.bl (decide (g = .r))) := by
  have z := ev_op (σ := σ) (H := H') (ev_var hs) (ev_c (v := .str "r")) (rv_eq rfl)
  rw [dec_r] at z
  exact z
def plainN : Cv → List Sg | .all => [.r, .n] | _ => [.r]
theorem one_plain {c : Cv} (h : plain c = true) (b : Bool) (g : Sg) : one c b g = (false, if g = .n then plainN c else [g]) := by cases c <;> first | rfl | cases h
theorem one_held {c : Cv} (h : plain c = false) (h2 : c ≠ .care) (b : Bool) (g : Sg) : one c b g = (decide (g = .r), (if b then (if g = .n then heldN c else heldE c) else []) ++ (if g = .r then [] else [g])) := by
  cases c <;> first | rfl | exact absurd rfl h2 | cases h
theorem holds_of {c : Cv} (h : plain c = false) (h2 : c ≠ .care) : holds c = true := by cases c <;> first | rfl | exact absurd rfl h2 | cases h
theorem one_len (c : Cv) (b : Bool) (g : Sg) : (one c b g).2.length ≤ 2 := by cases c <;> cases b <;> cases g <;> decide
theorem many_len (c : Cv) : ∀ (b : Bool) (l : List Sg), (many c b l).2.length ≤ 2 * l.length
  | b, [] => Nat.zero_le _
  | b, s :: l => by
    show ((one c b s).2 ++ (many c _ l).2).length ≤ 2 * (l.length + 1)
    have := one_len c b s
    have := many_len c (one c b s).1 l
    rw [List.length_append]
    omega
theorem many_take (c : Cv) (b : Bool) (l : List Sg) {i : Nat} {g : Sg} (h : l[i]? = some g) :
    many c b (l.take (i + 1)) = ((one c (many c b (l.take i)).1 g).1, (many c b (l.take i)).2 ++ (one c (many c b (l.take i)).1 g).2) := by
  rw [List.take_add_one, h, many_app]
  simp [many]
section
variable {P : Program} {w : World} {K : PySem.W.Frag} {mg : Str → Option Value} {base : Heap} {H H' : Hp}
def spOne (K : PySem.W.Frag) : Sp := fun vs H Q _ => ∃ (c : Cv) (b : Bool) (g : Sg), vs = [.str c.s, .bl b, .str (sg g)] ∧ RetU [.bl (one c b g).1, .str (txt (one c b g).2)] H Q
theorem ok_one {f aP aH : Addr} {fd : FuncData} {k : Nat} (F : Fun K "_read_one" "_read_one" sOne f fd) (mP : mg "_PLAIN" = some (.ref aP)) (tP : ∀ c : Cv, KIn K w aP c.s (plain c)) (iP : ∀ c : Cv, plain c = true → KDct K w aP c.s (.str (txt (plainN c))))
    (mH : mg "_HELD" = some (.ref aH)) (iH : ∀ c : Cv, holds c = true → ∃ t, KDct K w aH c.s (.ref t) ∧ ∀ H, SqT K H t [.str (txt (heldN c)), .str (txt (heldE c))]) :
    FnOk P w K mg base CX0 (k + 1) f fd ["word", "flag", "sign"] (spOne K) := by
  refine F.ok scOne (fun vs H Q E h => ?_) (fun cdv A outer s H vs Q E hr h => ?_)
  · obtain ⟨c, b, g, rfl, _⟩ := h
    rfl
  · obtain ⟨c, b, g, rfl, q⟩ := h
    have nd := scOne.nd
    refine ⟨_, pss_cons (ps_if (pt_cmpR op_in_kd (pv 0) (pe_glob (v := .ref aP) (by rfl) mP rfl) rfl) (pss_one (ps_ret (pe_tup (pa_cons pe_bl (pa_cons (pe_ifExp (pt_cmpR op_eq (pv 2) pe_str (nomark _)) (pe_ix ix_kdict (pe_glob (v := .ref aP) (by rfl) mP rfl) (pv 0) (fun _ _ => rfl)) (pv 2)) pa_nil))))) pss_nil)
      (pss_cons (ps_if (pt_cmpR op_eq (pv 0) pe_str (nomark _)) (pss_one (ps_ret (pe_tup (pa_cons (pe_cmpR op_eq (pv 2) pe_str (nomark _)) (pa_cons (pe_ifExp (PW.pt (pw_and (pt_cmpR op_eq (pv 2) pe_str (nomark _)) (pw_and1 (pt_not (pt_val (pv 1)))))) pe_str (pv 2)) pa_nil))))) pss_nil)
      (pss_cons (ps_asg (pe_ix ix_kdict (pe_glob (v := .ref aH) (by rfl) mH rfl) (pv 0) (fun _ _ => rfl)) (pg_tup rfl (pgs_cons (pg_name (i := 3) nd rfl (.inl rfl)) (pgs_cons (pg_name (i := 4) nd rfl (.inl rfl)) pgs_nil))))
      (pss_cons (ps_set (i := 5) nd rfl (.inl rfl) pe_str)
      (pss_cons (ps_if (pt_val (pv 1)) (pss_one (ps_set (i := 5) nd rfl (.inl rfl) (pe_ifExp (pt_cmpR op_eq (pv 2) pe_str (nomark _)) (pv 3) (pv 4)))) pss_nil)
      (pss_one (ps_ret (pe_tup (pa_cons (pe_cmpR op_eq (pv 2) pe_str (nomark _)) (pa_cons (pe_ifExp (pt_cmpR op_eq (pv 2) pe_str (nomark _)) (pv 5) (pe_op op_add_str (pv 5) (pv 2))) pa_nil))))))))), ?_⟩
    refine q_if (b := plain c) (et_test (ev_inK (ev_var rfl) ev_c (tP c))) (fun hp H1 e1 => ?_) (fun hp H1 e1 => ?_)
    · rw [one_plain hp] at q
      refine s_retU (eu_tup (vs := [.bl false, .str (txt (if g = .n then plainN c else [g]))]) (ea_cons ev_c (ea_cons (ev_if (et_test (evn rfl)) (fun hb => ?_) (fun hb => ?_)) ea_nil)) (by simp)) fun p H2 hp e2 h2 => q.go e1 hp e2 h2
      · rw [if_pos (of_decide_eq_true hb)]
        exact ev_ixK ev_c (ev_var rfl) (iP c hp)
      · rw [if_neg (of_decide_eq_false hb)]
        exact ev_var rfl
    · have zc := ev_op (σ := L2.start ["word", "flag", "sign", "ahead_of_n", "otherwise", "held"] [.str c.s, .bl b, .str (sg g)]) (H := H1) (ev_var (i := 0) rfl) (ev_c (v := .str "care")) (rv_eq rfl)
      rw [dec_care] at zc
      refine q_if (et_test zc) (fun hc H2 e2 => ?_) (fun hc H2 e2 => ?_)
      · have hc := of_decide_eq_true hc
        subst hc
        refine s_retU (eu_tup (vs := [.bl (decide (g = .r)), .str (txt (if g = .n && !b then [.r, .n] else [g]))]) (ea_cons (evr rfl) (ea_cons (ev_if (b := decide (g = .n) && !b) (et_and (et_test (evn rfl)) (fun _ => et_not (et_test (ev_var rfl)))) (fun hb => ?_) (fun hb => ?_)) ea_nil)) (by simp)) fun p H3 hp e3 h3 => q.go (e1.trans e2) hp e3 h3
        · rw [if_pos (by simpa using hb)]
          exact ev_c
        · rw [if_neg (by rw [hb]; exact Bool.false_ne_true)]
          exact ev_var rfl
      · have hc := of_decide_eq_false hc
        obtain ⟨tt, hd, hT⟩ := iH c (holds_of hp hc)
        rw [one_held hp hc] at q
        refine q_pairT (ev_ixK ev_c (ev_var rfl) hd) hT fun H3 e3 => ?_
        refine q_asg ev_c fun H4 e4 => ?_
        refine q_ifAsg (v := .str (txt (if b then (if g = .n then heldN c else heldE c) else []))) (et_test (ev_var rfl)) (fun hb => ?_) (fun hb => ?_) fun H5 e5 => ?_
        · rw [hb, if_pos rfl]
          refine ev_if (et_test (evn rfl)) (fun hn => ?_) (fun hn => ?_)
          · rw [if_pos (of_decide_eq_true hn)]
            exact ev_var rfl
          · rw [if_neg (of_decide_eq_false hn)]
            exact ev_var rfl
        · rw [hb]
          rfl
        · refine s_retU (eu_tup (ea_cons (evr rfl) (ea_cons (x := .str (txt ((if b then (if g = .n then heldN c else heldE c) else []) ++ (if g = .r then [] else [g])))) (ev_if (et_test (evr rfl)) (fun hb => ?_) (fun hb => ?_)) ea_nil)) (by simp)) fun p H6 hp e6 h6 => q.go (e1.trans (e2.trans (e3.trans (e4.trans e5)))) hp e6 h6
          · rw [if_pos (of_decide_eq_true hb), List.append_nil]
            exact ev_var rfl
          · rw [if_neg (of_decide_eq_false hb)]
            refine ev_op (ev_var rfl) (ev_var rfl) fun H6 e6 Q q => ⟨_, _, rfl, rfl, ?_, ?_⟩
            · rw [txt_len, sg_txt, txt_len]
              cases c <;> cases b <;> cases g <;> decide
            · rw [sg_txt, txt_app]
              exact q H6 (Ex.refl H6)
end
end Tu
namespace Tu
open PySem PySem.Spec PyProof.Rows L2 Evl RZ
theorem sum_flat : ∀ ls : List (List Sg), ((ls.map txt).map (·.length)).sum = ls.flatten.length
  | [] => rfl
  | l :: ls => by
    rw [List.map_cons, List.map_cons, List.sum_cons, sum_flat ls, List.flatten_cons, List.length_append, txt_len]
def rJoin (K : PySem.W.Frag) : V → List V → Hp → VK → Prop := fun x xs H Q => ∃ a p, ∃ ys : List Str, x = .str a ∧ xs = [.ref p] ∧ (SqL K H p (ys.map V.str) ∨ SqT K H p (ys.map V.str)) ∧
      (ys.map (·.length)).sum + ys.length * a.length ≤ 16777216 ∧ Q (.str (Txt.join a ys)) H
def txtV (ls : List (List Sg)) : List V := (ls.map txt).map V.str
section
variable {K : PySem.W.Frag} {w : World} {H H' : Hp} {σ : L2.St} {t : TT} {te tl ta tb : TE} {D : Ends} {tz tu : TS}
theorem ev_join {p : Addr} {ls : List (List Sg)} (h : Ev te σ H (.ref p)) (hp : SqL K H p (txtV ls)) (hb : ls.flatten.length ≤ 10000000) : Ev (tM1 (rJoin K) (tC (.str "")) te) σ H (.str (txt ls.flatten)) := fun H1 e Q q =>
  ⟨⟨_, rfl⟩, h H1 e _ fun H2 e2 => ⟨_, p, ls.map txt, rfl, rfl, .inl (ex_l (e.trans e2) hp), by
    rw [sum_flat]
    show _ + _ * 0 ≤ _
    omega, by
    rw [join_txt]
    exact q H2 e2⟩⟩
end
section
variable {P : Program} {w : World} {K : PySem.W.Frag} {mg : Str → Option Value} {base : Heap} {H H' : Hp}
def spAll (K : PySem.W.Frag) : Sp := fun vs H Q _ => ∃ (c : Cv) (b : Bool) (l : List Sg), vs = [.str c.s, .bl b, .str (txt l)] ∧ l.length ≤ 50000 ∧ RetU [.bl (many c b l).1, .str (txt (many c b l).2)] H Q
theorem ok_all {f fO : Addr} {fd fdO : FuncData} {k : Nat} (F : Fun K "_read_all" "_read_all" sAll f fd) (GO : FnOk P w K mg base CX0 k fO fdO ["word", "flag", "sign"] (spOne K)) (kO : PySem.W.keepIn K (.ref fO) = true) (bO : Binds K fdO ["word", "flag", "sign"] []) (gO : mg "_read_one" = some (.ref fO)) :
    FnOk P w K mg base CX0 (k + 1) f fd ["word", "flag", "text"] (spAll K) := by
  refine F.ok scAll (fun vs H Q E h => ?_) (fun cdv A outer s H vs Q E hr h => ?_)
  · obtain ⟨c, b, g, rfl, _⟩ := h
    rfl
  · obtain ⟨c, b, l, rfl, hl, q⟩ := h
    have nd := scAll.nd
    refine ⟨_, pss_cons (ps_set (i := 3) nd rfl (.inl rfl) (pe_lst pa_nil))
      (pss_cons (ps_for PassesOwn.never rfl (pi_str (pv 2)) (pg_name (i := 4) nd rfl (.inl rfl))
        (pss_cons (ps_asg (pe_call GO hr (by rfl) gO kO bO .nil pass0 (pa_cons (pv 0) (pa_cons (pv 1) (pa_cons (pv 4) pa_nil)))) (pg_tup rfl (pgs_cons (pg_name (i := 1) nd rfl (.inl rfl)) (pgs_cons (pg_name (i := 5) nd rfl (.inl rfl)) pgs_nil))))
        (pss_one (ps_expr (pe_bm PySem.F.plainAttrs_list PySem.F.slot_list_append PySem.F.type_list_append mt_append (pv 3) (pa_cons (pv 5) pa_nil))))))
      (pss_one (ps_ret (pe_tup (pa_cons (pv 1) (pa_cons (pe_join pe_str (pv 3)) pa_nil)))))), ?_⟩
    refine q_asgL (el_lst ea_nil (by simp)) fun p H1 hp e1 h1 => ?_
    refine q_forS (ev_var rfl) (fun i σ H' => ∃ ls x y, σ = [some (.str c.s), some (.bl (many c b (l.take i)).1), some (.str (txt l)), some (.ref p), x, y] ∧ Ex H H' ∧ H' p = some (.lst (txtV ls)) ∧ ls.flatten = (many c b (l.take i)).2 ∧ ls.length = i)
      (fun H2 e2 => ⟨[], _, _, rfl, e1.trans e2, e2 _ _ h1, rfl, rfl⟩) ?_ ?_
    · rintro i cc σ H2 hc ⟨ls, x, y, rfl, e2, h2, hf, hn⟩
      obtain ⟨g, hg, rfl⟩ := txt_get hc
      have hi : i < l.length := (List.getElem?_eq_some_iff.mp hg).1
      refine q_pair (eu_call (vs := [.str c.s, .bl (many c b (l.take i)).1, .str (sg g)]) (ea_cons (ev_var rfl) (ea_cons (ev_var rfl) (ea_cons (ev_var rfl) ea_nil))) fun H3 e3 Q r E => ⟨c, _, g, rfl, r⟩) fun H3 e3 => ?_
      refine s_app (e3 _ _ h2) (ev_var rfl) (ev_var rfl) (by simp [txtV]; omega) fun H4 e4 => ?_
      refine ⟨ls ++ [(one c (many c b (l.take i)).1 g).2], some (.str (sg g)), some (.str (txt (one c (many c b (l.take i)).1 g).2)), ?_, (e2.trans (e3.trans e4)).mut hp, ?_, ?_, by simp [hn]⟩
      · rw [many_take c b l hg]
        rfl
      · rw [upd_same]
        simp [txtV]
      · rw [many_take c b l hg, List.flatten_append, hf]
        simp
    · rintro σ H2 ⟨ls, x, y, rfl, e2, h2, hf, hn⟩
      have ht : l.take (txt l).cps.size = l := List.take_of_length_le (by rw [show (txt l).cps.size = (txt l).length from rfl, txt_len]; omega)
      rw [ht] at hf ⊢
      have hb := many_len c b l
      refine s_retU (eu_tup (ea_cons (ev_var rfl) (ea_cons (ev_join (ev_var rfl) (sq_of h2) (by rw [hf]; omega)) ea_nil)) (by simp)) fun r H3 hr3 e3 h3 => ?_
      rw [hf] at h3
      exact q.go e2 hr3 e3 h3
/-- a pair of a standing and a text -/
def RetP (st : List Bool) (l : List Sg) (H : Hp) (Q : VK) : Prop := ∀ p r H2, Ex H H2 → H2 r = some (.tup (stV st)) → H2 p = some (.tup [.ref r, .str (txt l)]) → Q (.ref p) H2
theorem RetP.go {st : List Bool} {l : List Sg} {Q : VK} (k : RetP st l H Q) (e : Ex H H') {p r : Addr} {H2 : Hp} (e2 : Ex H' H2) (h : H2 r = some (.tup (stV st))) (h2 : H2 p = some (.tup [.ref r, .str (txt l)])) : Q (.ref p) H2 := k p r H2 (e.trans e2) h h2
theorem step_at {ws : List Cv} {st : List Bool} {i : Nat} {c : Cv} {b : Bool} (t : List Sg) (h : ws[i]? = some c) (h2 : st[i]? = some b) :
    stepW (ws.drop i) (st.drop i) t = ((many c b t).1 :: (stepW (ws.drop (i + 1)) (st.drop (i + 1)) (many c b t).2).1, (stepW (ws.drop (i + 1)) (st.drop (i + 1)) (many c b t).2).2) := by
  obtain ⟨hi, e⟩ := List.getElem?_eq_some_iff.mp h
  obtain ⟨hi2, e2⟩ := List.getElem?_eq_some_iff.mp h2
  rw [List.drop_eq_getElem_cons hi, List.drop_eq_getElem_cons hi2, e, e2]
  rfl
def spStep (K : PySem.W.Frag) : Sp := fun vs H Q _ => ∃ (a b : Addr) (ws : List Cv) (st : List Bool) (l : List Sg), vs = [.ref a, .ref b, .str (txt l)] ∧ SqT K H a (wayV ws) ∧ SqT K H b (stV st) ∧ st.length = ws.length ∧ l.length * 2 ^ ws.length ≤ 50000 ∧ ws.length ≤ 1000 ∧
  RetP (stepW ws st l).1 (stepW ws st l).2 H Q
theorem ok_step {f fO : Addr} {fd fdO : FuncData} {k : Nat} (F : Fun K "step" "step" sStep f fd) (GO : FnOk P w K mg base CX0 k fO fdO ["word", "flag", "text"] (spAll K)) (kO : PySem.W.keepIn K (.ref fO) = true) (bO : Binds K fdO ["word", "flag", "text"] []) (gO : mg "_read_all" = some (.ref fO)) (mz : mg "zip" = none) (mt : mg "tuple" = none) :
    FnOk P w K mg base CX0 (k + 1) f fd ["way", "standing", "sign"] (spStep K) := by
  refine F.ok scStep (fun vs H Q E h => ?_) (fun cdv A outer s H vs Q E hr h => ?_)
  · obtain ⟨a, b, ws, st, l, rfl, _⟩ := h
    rfl
  · obtain ⟨a, b, ws, st, l, rfl, hS, hT, hlen, hl, hw, q⟩ := h
    have nd := scStep.nd
    refine ⟨_, pss_cons (ps_set (i := 3) nd rfl (.inl rfl) (pe_lst pa_nil))
      (pss_cons (ps_set (i := 4) nd rfl (.inl rfl) (pv 2))
      (pss_cons (ps_for PassesOwn.never rfl (pi_zipA (by rfl) mz (pa_cons (pv 0) (pa_cons (pv 1) pa_nil))) (pg_tup rfl (pgs_cons (pg_name (i := 5) nd rfl (.inl rfl)) (pgs_cons (pg_name (i := 6) nd rfl (.inl rfl)) pgs_nil)))
        (pss_cons (ps_asg (pe_call GO hr (by rfl) gO kO bO .nil pass0 (pa_cons (pv 5) (pa_cons (pv 6) (pa_cons (pv 4) pa_nil)))) (pg_tup rfl (pgs_cons (pg_name (i := 7) nd rfl (.inl rfl)) (pgs_cons (pg_name (i := 4) nd rfl (.inl rfl)) pgs_nil))))
        (pss_one (ps_expr (pe_bm PySem.F.plainAttrs_list PySem.F.slot_list_append PySem.F.type_list_append mt_append (pv 3) (pa_cons (pv 7) pa_nil))))))
      (pss_one (ps_ret (pe_tup (pa_cons (pe_callTy call_tuple_of (by rfl) mt (by decide +kernel) (pa_cons (pv 3) pa_nil)) (pa_cons (pv 4) pa_nil))))))), ?_⟩
    refine q_asgL (el_lst ea_nil (by simp)) fun p H1 hp e1 h1 => ?_
    refine q_asg (ev_var rfl) fun H2 e2 => ?_
    have e12 := e1.trans e2
    refine q_forZ (ea_cons (ev_var rfl) (ea_cons (ev_var rfl) ea_nil)) (ex_t e12 hS) (ex_t e12 hT) (by rw [wayV_len, stV_len, hlen])
      (fun i σ H' => ∃ bs t x y z, σ = [some (.ref a), some (.ref b), some (.str (txt l)), some (.ref p), some (.str (txt t)), x, y, z] ∧ Ex H H' ∧ H' p = some (.lst (stV bs)) ∧ bs.length = i ∧ i ≤ ws.length ∧ t.length * 2 ^ (ws.length - i) ≤ 50000 ∧
        stepW ws st l = (bs ++ (stepW (ws.drop i) (st.drop i) t).1, (stepW (ws.drop i) (st.drop i) t).2))
      (fun H3 e3 => ⟨[], l, _, _, _, rfl, e12.trans e3, e3 _ _ (e2 _ _ h1), rfl, Nat.zero_le _, hl, rfl⟩) (fun i σ H' ⟨bs, t, x, y, z, _, e3, _⟩ => ⟨ex_t e3 hS, ex_t e3 hT⟩) ?_ ?_
    · rintro i x y σ H3 hx hy ⟨bs, t, x3, y3, z3, rfl, e3, h3, hb, hi, ht, hst⟩ H4 e4
      obtain ⟨c, hc, rfl⟩ := wayV_get hx
      obtain ⟨f, hf, rfl⟩ := stV_get hy
      have hi2 : i < ws.length := (List.getElem?_eq_some_iff.mp hc).1
      have hml := many_len c f t
      have hpow : 2 ^ (ws.length - i) = 2 * 2 ^ (ws.length - (i + 1)) := by
        rw [show ws.length - i = (ws.length - (i + 1)) + 1 by omega, Nat.pow_succ, Nat.mul_comm]
      have htl : t.length ≤ 50000 := Nat.le_trans (Nat.le_mul_of_pos_right _ (Nat.two_pow_pos _)) ht
      refine q_pair (eu_call (vs := [.str c.s, .bl f, .str (txt t)]) (ea_cons (ev_var rfl) (ea_cons (ev_var rfl) (ea_cons (ev_var rfl) ea_nil))) fun H5 e5 Q r E => ⟨c, f, t, rfl, htl, r⟩) fun H5 e5 => ?_
      refine s_app (e5 _ _ (e4 _ _ h3)) (ev_var rfl) (ev_var rfl) (by rw [stV_len]; omega) fun H6 e6 => ?_
      refine ⟨bs ++ [(many c f t).1], (many c f t).2, some (.str c.s), some (.bl f), some (.bl (many c f t).1), rfl, (e3.trans (e4.trans (e5.trans e6))).mut hp, ?_, by simp [hb], hi2, ?_, ?_⟩
      · rw [upd_same]
        simp [stV]
      · rw [hpow] at ht
        exact Nat.le_trans (Nat.mul_le_mul_right _ hml) (by rw [Nat.mul_comm 2, Nat.mul_assoc]; exact ht)
      · rw [hst, step_at t hc hf]
        simp
    · rintro σ H3 ⟨bs, t, x3, y3, z3, rfl, e3, h3, hb, hi, ht, hst⟩
      have hd1 : ws.drop (wayV ws).length = [] := by rw [wayV_len]; exact List.drop_length
      have hd2 : st.drop (wayV ws).length = [] := by rw [wayV_len, ← hlen]; exact List.drop_length
      rw [hd1, hd2] at hst
      have hst2 : stepW ws st l = (bs, t) := by rw [hst]; simp [stepW]
      rw [hst2] at q
      refine ⟨_, rfl, p, _, rfl, .inl ⟨sq_of h3, fun r hr => ?_⟩⟩
      refine ⟨_, rfl, sz_of (n := 2) (by decide), fun u hu => ?_⟩
      exact q.go e3 ((Ex.new hr).trans (Ex.new hu)) (Ex.new hu r _ upd_same) upd_same
end
end Tu
namespace Tu
open PySem PySem.Spec PyProof.Rows L2 Evl RZ
abbrev sFirst : Stmt := topS 25
abbrev sRead : Stmt := topS 26
abbrev sEnd : Stmt := topS 27
theorem scFirst : FnScope ["way"] ["way"] (defScope sFirst) := ⟨rfl, rfl, rfl, by decide +kernel, rfl, by decide +kernel, by decide +kernel⟩
theorem scRead : FnScope ["way", "standing", "sign"] ["way", "standing", "sign"] (defScope sRead) := ⟨rfl, rfl, rfl, by decide +kernel, rfl, by decide +kernel, by decide +kernel⟩
theorem scEnd : FnScope ["way", "standing", "text", "word", "flag", "flag_behind"] ["way", "standing"] (defScope sEnd) := ⟨rfl, rfl, rfl, by decide +kernel, rfl, by decide +kernel, by decide +kernel⟩
theorem end_at {ws : List Cv} {st : List Bool} {i : Nat} {c : Cv} {b : Bool} (t : List Sg) (h : ws[i]? = some c) (h2 : st[i]? = some b) :
    endW (ws.drop i) (st.drop i) t = endW (ws.drop (i + 1)) (st.drop (i + 1)) (runF c b t) := by
  obtain ⟨hi, e⟩ := List.getElem?_eq_some_iff.mp h
  obtain ⟨hi2, e2⟩ := List.getElem?_eq_some_iff.mp h2
  rw [List.drop_eq_getElem_cons hi, List.drop_eq_getElem_cons hi2, e, e2]
  rfl
section
variable {P : Program} {w : World} {K : PySem.W.Frag} {mg : Str → Option Value} {base : Heap} {H H' : Hp}
theorem spv_chkWay {a : Addr} {ws : List Cv} (hS : SqT K H a (wayV ws)) (hl : ws.length ≤ 6) : SpV (spChkWay K) [.ref a] H .non := fun H1 e1 Q q E => ⟨a, ws, rfl, ex_t e1 hS, hl, q⟩
theorem spv_chkSt {a b : Addr} {ws : List Cv} {st : List Bool} (hS : SqT K H a (wayV ws)) (hT : SqT K H b (stV st)) (ok : stOk ws st) (hl : ws.length ≤ 6) : SpV (spChkSt K) [.ref a, .ref b] H .non := fun H1 e1 Q q E => ⟨a, b, ws, st, rfl, ex_t e1 hS, ex_t e1 hT, ok, hl, q⟩
def spFirst (K : PySem.W.Frag) : Sp := fun vs H Q _ => ∃ (a : Addr) (ws : List Cv), vs = [.ref a] ∧ SqT K H a (wayV ws) ∧ ws.length ≤ 6 ∧ ∀ p H2, Ex H H2 → SqT K H2 p (stV (List.replicate ws.length false)) → Q (.ref p) H2
theorem ok_first {f fW : Addr} {fd fdW : FuncData} {k : Nat} (F : Fun K "first_standing" "first_standing" sFirst f fd) (GW : FnOk P w K mg base CX0 k fW fdW ["way"] (spChkWay K)) (kW : PySem.W.keepIn K (.ref fW) = true) (bW : Binds K fdW ["way"] []) (gW : mg "check_way" = some (.ref fW)) (ml : mg "len" = none) :
    FnOk P w K mg base CX0 (k + 1) f fd ["way"] (spFirst K) := by
  refine F.ok scFirst (fun vs H Q E h => ?_) (fun cdv A outer s H vs Q E hr h => ?_)
  · obtain ⟨a, ws, rfl, _⟩ := h
    rfl
  · obtain ⟨a, ws, rfl, hS, hl, q⟩ := h
    refine ⟨_, pss_cons (ps_expr (pe_call GW hr (by rfl) gW kW bW .nil pass0 (pa_cons (pv 0) pa_nil)))
      (pss_one (ps_ret (pe_op op_falses (pe_tup (pa_cons pe_bl pa_nil)) (pe_callB call_len_seq (by rfl) ml PySem.boot_len (pa_cons (pv 0) pa_nil))))), ?_⟩
    refine q_drop (ev_call (vs := [.ref a]) (ea_cons (ev_var rfl) ea_nil) (spv_chkWay hS hl)) fun H1 e1 => ?_
    refine ⟨sz_of (n := 1) (by decide), fun t ht => ?_⟩
    refine (ev_cb (σ := [some (.ref a)]) (ea_cons (ev_var rfl) ea_nil) (rc_len (K := K) (.inr (ex_t (e1.trans (Ex.new ht)) hS)))) _ (Ex.refl _) _ fun H2 e2 => ?_
    refine ⟨t, ws.length, rfl, by rw [wayV_len], ex_t e2 (st_of upd_same), by omega, fun p H3 e3 hp => ?_⟩
    refine q p H3 (e1.trans ((Ex.new ht).trans (e2.trans e3))) ?_
    unfold stV
    rw [List.map_replicate]
    exact hp
def spRead (K : PySem.W.Frag) : Sp := fun vs H Q _ => ∃ (a b : Addr) (ws : List Cv) (st : List Bool) (g : Sg), vs = [.ref a, .ref b, .str (sg g)] ∧ SqT K H a (wayV ws) ∧ SqT K H b (stV st) ∧ stOk ws st ∧ ws.length ≤ 6 ∧ RetP (stepW ws st [g]).1 (stepW ws st [g]).2 H Q
theorem ok_read {f fW fC fS aS : Addr} {fd fdW fdC fdS : FuncData} (F : Fun K "read" "read" sRead f fd) (GW : FnOk P w K mg base CX0 1 fW fdW ["way"] (spChkWay K)) (kW : PySem.W.keepIn K (.ref fW) = true) (bW : Binds K fdW ["way"] []) (gW : mg "check_way" = some (.ref fW))
    (GC : FnOk P w K mg base CX0 1 fC fdC ["way", "standing"] (spChkSt K)) (kC : PySem.W.keepIn K (.ref fC) = true) (bC : Binds K fdC ["way", "standing"] []) (gC : mg "check_standing" = some (.ref fC))
    (GS : FnOk P w K mg base CX0 3 fS fdS ["way", "standing", "sign"] (spStep K)) (kS : PySem.W.keepIn K (.ref fS) = true) (bS : Binds K fdS ["way", "standing", "sign"] []) (gS : mg "step" = some (.ref fS))
    (mi : mg "isinstance" = none) (ms : mg "str" = none) (mS : mg "SIGNS" = some (.ref aS)) (tS : ∀ H, SqT K H aS [.str "a", .str "n", .str "r"]) :
    FnOk P w K mg base CX0 4 f fd ["way", "standing", "sign"] (spRead K) := by
  refine F.ok scRead (fun vs H Q E h => ?_) (fun cdv A outer s H vs Q E hr h => ?_)
  · obtain ⟨a, b, ws, st, g, rfl, _⟩ := h
    rfl
  · obtain ⟨a, b, ws, st, g, rfl, hS, hT, ok, hl, q⟩ := h
    refine ⟨_, pss_cons (ps_expr (pe_call GW (hr.mono (by decide)) (by rfl) gW kW bW .nil pass0 (pa_cons (pv 0) pa_nil)))
      (pss_cons (ps_expr (pe_call GC (hr.mono (by decide)) (by rfl) gC kC bC .nil pass0 (pa_cons (pv 0) (pa_cons (pv 1) pa_nil))))
      (pss_cons (ps_if (PW.pt (pw_or (pt_not (pt_val (pe_callB call_isi (by rfl) mi (by decide +kernel) (pa_cons (pv 2) (pa_cons (pe_bltn (v := .ty "str") (u := .type "str") (by rfl) ms (by decide +kernel) rfl) pa_nil)))))
        (pw_or1 (pt_cmpR op_notIn_seq (pv 2) (pe_glob (v := .ref aS) (by rfl) mS rfl) rfl)))) (pss_one ps_never) pss_nil)
      (pss_one (ps_ret (pe_call GS hr (by rfl) gS kS bS .nil pass0 (pa_cons (pv 0) (pa_cons (pv 1) (pa_cons (pv 2) pa_nil)))))))), ?_⟩
    refine q_drop (ev_call (vs := [.ref a]) (ea_cons (ev_var rfl) ea_nil) (spv_chkWay hS hl)) fun H1 e1 => ?_
    refine q_drop (ev_call (vs := [.ref a, .ref b]) (ea_cons (ev_var rfl) (ea_cons (ev_var rfl) ea_nil)) (spv_chkSt (ex_t e1 hS) (ex_t e1 hT) ok hl)) fun H2 e2 => ?_
    have z := ev_op (σ := [some (.ref a), some (.ref b), some (.str (sg g))]) (ev_var (i := 2) rfl) (ev_c (v := .ref aS)) (rv_niT (tS H2) (x := .str (sg g)) rfl rfl)
    rw [show inV (.str (sg g)) [.str "a", .str "n", .str "r"] = true from in_signs g] at z
    refine q_if (b := false) (et_or (a := false) (b := false) (et_not (a := true) (et_test (ev_isi (t := "str") (ev_var rfl) ev_c (fun _ _ => .base (.str _)) (by decide +kernel)))) (fun _ => et_test z)) (fun z => nomatch z) (fun _ H3 e3 => ?_)
    have e123 := e1.trans (e2.trans e3)
    have hp : 2 ^ ws.length ≤ 2 ^ 6 := Nat.pow_le_pow_right (by decide) hl
    refine call_raw (vs := [.ref a, .ref b, .str (sg g)]) (ea_cons (ev_var rfl) (ea_cons (ev_var rfl) (ea_cons (ev_var rfl) ea_nil))) fun H4 e4 => ⟨a, b, ws, st, [g], rfl, ex_t (e123.trans e4) hS, ex_t (e123.trans e4) hT, ok.len, ?_, by omega, ?_⟩
    · show 1 * 2 ^ ws.length ≤ 50000
      omega
    · intro p r H5 e5 h1 h2
      exact q p r H5 (e123.trans (e4.trans e5)) h1 h2
def spEnd (K : PySem.W.Frag) : Sp := fun vs H Q _ => ∃ (a b : Addr) (ws : List Cv) (st : List Bool), vs = [.ref a, .ref b] ∧ SqT K H a (wayV ws) ∧ SqT K H b (stV st) ∧ stOk ws st ∧ ws.length ≤ 6 ∧ RetV (.str (txt (endW ws st []))) H Q
theorem ok_end {f fW fC fS aH : Addr} {fd fdW fdC fdS : FuncData} (F : Fun K "at_end" "at_end" sEnd f fd) (GW : FnOk P w K mg base CX0 1 fW fdW ["way"] (spChkWay K)) (kW : PySem.W.keepIn K (.ref fW) = true) (bW : Binds K fdW ["way"] []) (gW : mg "check_way" = some (.ref fW))
    (GC : FnOk P w K mg base CX0 1 fC fdC ["way", "standing"] (spChkSt K)) (kC : PySem.W.keepIn K (.ref fC) = true) (bC : Binds K fdC ["way", "standing"] []) (gC : mg "check_standing" = some (.ref fC))
    (GS : FnOk P w K mg base CX0 2 fS fdS ["word", "flag", "text"] (spAll K)) (kS : PySem.W.keepIn K (.ref fS) = true) (bS : Binds K fdS ["word", "flag", "text"] []) (gS : mg "_read_all" = some (.ref fS)) (mz : mg "zip" = none)
    (mH : mg "_HELD" = some (.ref aH)) (tH : ∀ c : Cv, KIn K w aH c.s (holds c)) (iH : ∀ c : Cv, holds c = true → ∃ t, KDct K w aH c.s (.ref t) ∧ ∀ H, SqT K H t [.str (txt (heldN c)), .str (txt (heldE c))]) :
    FnOk P w K mg base CX0 3 f fd ["way", "standing"] (spEnd K) := by
  refine F.ok scEnd (fun vs H Q E h => ?_) (fun cdv A outer s H vs Q E hr h => ?_)
  · obtain ⟨a, b, ws, st, rfl, _⟩ := h
    rfl
  · obtain ⟨a, b, ws, st, rfl, hS, hT, ok, hl, q⟩ := h
    have nd := scEnd.nd
    refine ⟨_, pss_cons (ps_expr (pe_call GW (hr.mono (by decide)) (by rfl) gW kW bW .nil pass0 (pa_cons (pv 0) pa_nil)))
      (pss_cons (ps_expr (pe_call GC (hr.mono (by decide)) (by rfl) gC kC bC .nil pass0 (pa_cons (pv 0) (pa_cons (pv 1) pa_nil))))
      (pss_cons (ps_set (i := 2) nd rfl (.inl rfl) pe_str)
      (pss_cons (ps_for PassesOwn.never rfl (pi_zipA (by rfl) mz (pa_cons (pv 0) (pa_cons (pv 1) pa_nil))) (pg_tup rfl (pgs_cons (pg_name (i := 3) nd rfl (.inl rfl)) (pgs_cons (pg_name (i := 4) nd rfl (.inl rfl)) pgs_nil)))
        (pss_cons (ps_asg (pe_call GS hr (by rfl) gS kS bS .nil pass0 (pa_cons (pv 3) (pa_cons (pv 4) (pa_cons (pv 2) pa_nil)))) (pg_tup rfl (pgs_cons (pg_name (i := 5) nd rfl (.inl rfl)) (pgs_cons (pg_name (i := 2) nd rfl (.inl rfl)) pgs_nil))))
        (pss_one (ps_if (PW.pt (pw_and (pt_val (pv 5)) (pw_and1 (pt_cmpR op_in_kd (pv 3) (pe_glob (v := .ref aH) (by rfl) mH rfl) rfl))))
          (pss_one (ps_set (i := 2) nd rfl (.inl rfl) (pe_op op_add_str (pv 2) (pe_ix ix_tup (pe_ix ix_kdict (pe_glob (v := .ref aH) (by rfl) mH rfl) (pv 3) (fun _ _ => rfl)) pe_int (fun _ _ => rfl))))) pss_nil))))
      (pss_one (ps_ret (pv 2)))))), ?_⟩
    refine q_drop (ev_call (vs := [.ref a]) (ea_cons (ev_var rfl) ea_nil) (spv_chkWay hS hl)) fun H1 e1 => ?_
    refine q_drop (ev_call (vs := [.ref a, .ref b]) (ea_cons (ev_var rfl) (ea_cons (ev_var rfl) ea_nil)) (spv_chkSt (ex_t e1 hS) (ex_t e1 hT) ok hl)) fun H2 e2 => ?_
    refine q_asg (v := .str (txt [])) ev_c fun H3 e3 => ?_
    have e123 := e1.trans (e2.trans e3)
    refine q_forZ (ea_cons (ev_var rfl) (ea_cons (ev_var rfl) ea_nil)) (ex_t e123 hS) (ex_t e123 hT) (by rw [wayV_len, stV_len, ok.len])
      (fun i σ H' => ∃ t x y z, σ = [some (.ref a), some (.ref b), some (.str (txt t)), x, y, z] ∧ Ex H H' ∧ i ≤ ws.length ∧ t.length + 1 ≤ 2 ^ i ∧ endW ws st [] = endW (ws.drop i) (st.drop i) t)
      (fun H4 e4 => ⟨[], _, _, _, rfl, e123.trans e4, Nat.zero_le _, Nat.le_refl _, rfl⟩) (fun i σ H' ⟨t, x, y, z, _, e4, _⟩ => ⟨ex_t e4 hS, ex_t e4 hT⟩) ?_ ?_
    · rintro i x y σ H4 hx hy ⟨t, x3, y3, z3, rfl, e4, hi, ht, hst⟩ H5 e5
      obtain ⟨c, hc, rfl⟩ := wayV_get hx
      obtain ⟨f, hf, rfl⟩ := stV_get hy
      have hi2 : i < ws.length := (List.getElem?_eq_some_iff.mp hc).1
      have hml := many_len c f t
      have hp : 2 ^ i ≤ 2 ^ 6 := Nat.pow_le_pow_right (by decide) (by omega)
      have hp2 : 2 ^ (i + 1) = 2 * 2 ^ i := by rw [Nat.pow_succ, Nat.mul_comm]
      refine q_pair (eu_call (vs := [.str c.s, .bl f, .str (txt t)]) (ea_cons (ev_var rfl) (ea_cons (ev_var rfl) (ea_cons (ev_var rfl) ea_nil))) fun H6 e6 Q r E => ⟨c, f, t, rfl, by omega, r⟩) fun H6 e6 => ?_
      refine s_ifAsg (b := (many c f t).1 && holds c) (v := .str (txt (runF c f t))) (et_and (et_test (ev_var rfl)) (fun _ => et_test (ev_inK (ev_var rfl) ev_c (tH c)))) (fun hb => ?_) (fun hb => ?_) fun H7 e7 => ?_
      · have hh : holds c = true := by
          rw [Bool.and_eq_true] at hb
          exact hb.2
        obtain ⟨tt, hd, hTT⟩ := iH c hh
        have er : runF c f t = (many c f t).2 ++ heldE c := by
          unfold runF tailE
          rw [hb, if_pos rfl]
        have hE : (heldE c).length ≤ 1 := by cases c <;> decide
        refine ev_op (ev_var rfl) (ev_op (ev_ixK ev_c (ev_var rfl) hd) ev_c (rv_ixT (i := 1) (hTT H6) (atI_nat (j := 1) rfl))) fun H8 e8 Q q => ⟨_, _, rfl, rfl, ?_, ?_⟩
        · rw [txt_len, txt_len]
          exact sz_of (by omega)
        · rw [txt_app, ← er]
          exact q H8 (Ex.refl H8)
      · have er : runF c f t = (many c f t).2 := by
          unfold runF tailE
          rw [hb, if_neg Bool.false_ne_true, List.append_nil]
        rw [er]
        rfl
      · have hrl : (runF c f t).length ≤ 2 * t.length + 1 := by
          unfold runF tailE
          rw [List.length_append]
          have hE : (if ((many c f t).1 && holds c) = true then heldE c else []).length ≤ 1 := by
            split
            · cases c <;> decide
            · exact Nat.zero_le _
          omega
        exact ⟨runF c f t, _, _, _, rfl, e4.trans (e5.trans (e6.trans e7)), hi2, by omega, by rw [hst, end_at t hc hf]⟩
    · rintro σ H4 ⟨t, x3, y3, z3, rfl, e4, hi, ht, hst⟩
      have hd1 : ws.drop (wayV ws).length = [] := by rw [wayV_len]; exact List.drop_length
      rw [hd1] at hst
      have hst2 : endW ws st [] = t := by rw [hst]; simp [endW]
      rw [hst2] at q
      exact s_ret (ev_var rfl) fun H5 e5 => q H5 (e4.trans e5)
end
end Tu
namespace Tu
open PySem PySem.Spec PyProof.Rows L2
section
variable {X : Cx} {pins : List (Addr × Obj)} {σ : L2.St} {H : Hp} {s : Shared}
/-- a local name is stored, and the very value is known behind it -/
theorem raw_store {M : Model} {A : Around} {E : Value → Shared → Prop} {i : Nat} {x : Str} {v : V} {u : Value} {Q : Unit → Shared → Prop} {m : Str → Option Value} (I : Inv X pins σ H s) (hm : s.heap.Ns X.env.locals m)
    (hN : X.N.Nodup) (hi : X.N[i]? = some x) (hk : X.env.scope.names.lookup x = some .local) (r : RelV v u)
    (h : ∀ s', Inv X pins (σ.set i (some v)) H s' → s'.heap.Ns X.env.locals (fun y => if y = x then some u else m y) → Q () s') : wpAny M A (storeName X.env x u) Q E s := by
  have knd : (X.env.scope.kind == .class || (X.env.scope.kind == .module && X.env.locals != X.env.globals)) = false := by
    rw [I.ok.kind]
    rfl
  refine wpAny_storeName_local hk hm (fun g hg hs => h _ ?_ hg) knd
  have far : ∀ b, b ≠ X.env.locals → ∀ o, s.heap.get? b = some o → g.get? b = some o := fun b n o e => (hs.2 b n).trans e
  have low : ∀ b o, X.s_0.heap.get? b = some o → b ≠ X.env.locals := fun b o e z => by
    subst z
    exact absurd (Nat.lt_of_lt_of_le (Heap.lt_size e) I.ok.above) (Nat.lt_irrefl _)
  have hsz : i < σ.length := by
    rw [I.len]
    exact (List.getElem?_eq_some_iff.mp hi).1
  obtain ⟨m0, hn0, hl0⟩ := I.loc
  have same : ∀ y, m0 y = m y := fun y => by
    obtain ⟨o1, es1, ep1, a1, a2, a3, a4⟩ := hn0
    obtain ⟨o2, es2, ep2, b1, b2, b3, b4⟩ := hm
    rw [a1] at b1
    have eo := Option.some.inj b1
    subst eo
    rw [a2] at b2
    injection b2 with b2 _
    subst b2
    exact (a4 y).symm.trans (b4 y)
  constructor
  · exact I.ok
  · exact I.os
  · exact I.bare
  · have B := I.base
    constructor
    · intro b o e n z1 z2
      exact far b (low b o e) o (B.keep b o e n z1 z2)
    · intro b o e n z1 z2
      obtain ⟨sl, w⟩ := B.slot b o e n z1 z2
      exact ⟨sl, far b (low b o e) _ w⟩
    · exact B.free
    · intro b o e z2
      obtain ⟨o', w⟩ := B.there b o e z2
      exact ⟨o', far b (low b o e) _ w⟩
    · exact B.tups
    · exact B.frzs
    · exact B.tbls
  · refine ⟨_, hg, fun j y w gj gw gv => ?_⟩
    by_cases hj : j = i
    · subst hj
      rw [hi] at gj
      have ey := Option.some.inj gj
      subst ey
      rw [List.getElem?_set_self hsz] at gw
      have ew := Option.some.inj (Option.some.inj gw)
      subst ew
      exact ⟨u, r, Or.inl ⟨hk, if_pos rfl⟩⟩
    · have gw' : σ[j]? = some (some w) := by
        rw [List.getElem?_set_ne (fun z => hj z.symm)] at gw
        exact gw
      obtain ⟨u', r', q⟩ := hl0 j y w gj gw' gv
      refine ⟨u', r', ?_⟩
      rcases q with ⟨k, e⟩ | ⟨k, c, e, z⟩
      · have nyx : y ≠ x := fun e' => hj (nodup_ix hN gj (e' ▸ hi))
        refine Or.inl ⟨k, ?_⟩
        show (if y = x then some u else m y) = some u'
        rw [if_neg nyx, ← same y]
        exact e
      · exact Or.inr ⟨k, c, e, z.sameBut hs (I.cne y c e)⟩
  · intro y c e
    obtain ⟨w, z⟩ := I.cell y c e
    exact ⟨w, z.sameBut hs (I.cne y c e)⟩
  · exact I.free
  · exact I.freeC
  · intro p hp
    obtain ⟨e, n, ne, rest⟩ := I.pin p hp
    exact ⟨far p.1 ne p.2 e, n, ne, rest⟩
  · intro b ob e
    have fr := I.free
    refine (I.hok b ob e).stay (fun c w hc q => far c ?_ w q) (fun _ q => q) (fun _ _ q => q)
    intro z
    rw [z] at hc
    rcases hc with hc | hc
    · rw [hc, e] at fr
      exact nomatch fr
    · rw [fr] at hc
      exact nomatch hc
  · rw [List.length_set]
    exact I.len
end
end Tu
namespace Tu
open PySem PySem.Spec PyProof.Rows L2
/-- the target and the body together -/
abbrev TJ := V → TS
structure PJ (X : Cx) (tg : Expr) (body : List Stmt) (gb : TJ) : Prop where
  run : ∀ (pins : List (Addr × Obj)) (s : Shared) (σ : L2.St) (H : Hp) (x : V) (u : Value) (D : Ends), Inv X pins σ H s → RelV x u → gb x D σ H →
    wpAny (model X.prog X.w) X.A (assign tg X.env u) (fun _ s' => wpAny (model X.prog X.w) X.A (execs body X.env) (SP X pins D) X.xe s') X.xe s
def tForJ (wi : TI) (gb : TJ) : TS := fun D σ H => wi σ H fun J H1 => ∃ W : Nat → Nat → L2.St → Hp → Prop, (∃ m, W 0 m σ H1) ∧ ∀ i m σ H, W i m σ H →
  (J.stop i H ∧ D.nx σ H) ∨ (J.go i H ∧ ∃ N : L2.St → Hp → Prop, (∀ σ' H', N σ' H' → ∃ m', m' < m ∧ W (i + 1) m' σ' H') ∧ ∀ x H', J.yld i H x H' → gb x { D with nx := N, ct := N, bk := D.nx } σ H')
theorem ps_forJ {X : Cx} {tg iter : Expr} {body : List Stmt} {wi : TI} {gb : TJ} {pos : Pos} (own : PassesOwn (model X.prog X.w) X.A X.env X.xe) (calm : X.calm = true) (walked : PI X tg iter wi) (joint : PJ X tg body gb)
    (folded : ∀ x, foldedSetIterable iter X.env x = pure x := by intro _; rfl) : PS X (.For tg iter body [] pos) (tForJ wi gb) := by
  constructor
  intro pins s σ H D I rd
  refine wpAny_For (thn (walked.run pins s σ H _ I rd) ?_) folded
  intro v s1 h1
  refine thn h1 ?_
  rintro itv s2 ⟨it, fp, tn, J, H2, rfl, I2, T, at0, own2, W, ⟨m0, w0⟩, turn⟩
  have quiet : ∀ {G : Hp}, (∀ b ∈ fp, G b = none) → ∀ b ∈ fp, FpOk X pins G b := fun hn b hb => ⟨hn b hb, (own2 b hb).2⟩
  refine codeAny_forLoop_any (fun n s' => ∃ i σ' H', Inv X pins σ' H' s' ∧ tn i s'.heap ∧ (∀ b ∈ fp, H' b = none) ∧ W i n σ' H') ?_ m0 ⟨0, σ, H2, I2, at0, (fun b hb => (own2 b hb).1), w0⟩
  rintro n s3 ⟨i, σ3, H3, I3, at3, fr3, w3⟩
  rcases turn i n σ3 H3 w3 with ⟨stop, qn⟩ | ⟨goes, N, hN, each⟩
  · refine wpAny_passesOwn own (thn (T.done X rfl rfl rfl calm i pins s3 σ3 H3 X.xe I3 (quiet fr3) at3 stop) ?_)
    rintro r s4 ⟨rfl, I4⟩
    exact wpAny_execs_nil ⟨σ3, H3, I4, qn⟩
  · refine wpAny_passesOwn own (thn (T.item X rfl rfl rfl calm i pins s3 σ3 H3 X.xe I3 (quiet fr3) at3 goes) ?_)
    rintro r s4 ⟨u, rfl, h4⟩
    refine wpAny_passesOwn own (thn h4 ?_)
    rintro _ s5 ⟨x, H5, I5, r5, y5, at5, fr5⟩
    have I5p := I5.pinned (quiet fr5) (T.obj _ _ at5)
    refine wpAny_passesOwn own (thn (joint.run _ s5 σ3 H5 x u _ I5p r5 (each x H5 y5)) ?_)
    intro _ s6 h6
    refine wpAny_passesOwn own (thn h6 ?_)
    intro f s7 q7
    have again : ∀ {σ7 : L2.St} {H7 : Hp}, Inv X (pins ++ pinsAt fp s5.heap) σ7 H7 s7 → N σ7 H7 → ∃ m, m < n ∧ ∃ i σ' H', Inv X pins σ' H' s7 ∧ tn i s7.heap ∧ (∀ b ∈ fp, H' b = none) ∧ W i m σ' H' := by
      intro σ7 H7 I7 n7
      obtain ⟨m', lt, w7⟩ := hN σ7 H7 n7
      have pinned : ∀ b ∈ fp, ∀ o, s5.heap.get? b = some o → s7.heap.get? b = some o ∧ H7 b = none := fun b hb o e => by
        have z := I7.pin (b, o) (List.mem_append_right _ (List.mem_append_right _ (mem_pinsAt hb e)))
        exact ⟨z.1, z.2.1⟩
      refine ⟨m', lt, i + 1, σ7, H7, I7.unpinned, T.keep _ _ _ at5 (fun b hb o e => (pinned b hb o e).1), ?_, w7⟩
      intro b hb
      obtain ⟨o, e, _⟩ := T.obj _ _ at5 b hb
      exact (pinned b hb o e).2
    match f, q7 with
    | .next, ⟨_, _, I7, n7⟩ => exact again I7 n7
    | .cont, ⟨_, _, I7, n7⟩ => exact again I7 n7
    | .brk, ⟨σ7, H7, I7, q⟩ => exact ⟨σ7, H7, I7.unpinned, q⟩
    | .ret _, ⟨x7, σ7, H7, I7, r7, q⟩ => exact ⟨x7, σ7, H7, I7.unpinned, r7, q⟩
/-- a written pair of two texts whose objects differ -/
def KPair (K : PySem.W.Frag) (p : Addr) (y z : Str) : Prop :=
  ∃ (dd : Option Addr) (t u : Tok) (n : Nat) (sl : Array (Option Value)), K.lookup p = some ⟨.type "tuple", dd, .seq #[.str y t, .str z u] n, sl⟩ ∧ t ≠ 0 ∧ u ≠ 0 ∧ t ≠ u ∧ (y == z) = false
/-- old, new = the pair; text = text.replace(old, new) -/
def gRepl (K : PySem.W.Frag) (io jo tx : Nat) : TJ := fun v D σ H => ∃ p y z a, v = .ref p ∧ KPair K p y z ∧ σ[tx]? = some (some (.str a)) ∧ a.length + (a.length + 1) * z.length ≤ 16777216 ∧
  D.nx (((σ.set io (some (.str y))).set jo (some (.str z))).set tx (some (.str (Txt.replace a y z)))) H
theorem pj_repl {X : Cx} {io jo tx : Nat} {ox nx tn : Str} {po pn tp p1 p2 ap q1 q2 cp sp : Pos} {k : Nat} (calm : X.calm = true) (nd : X.N.Nodup) (h1 : X.N[io]? = some ox) (h2 : X.N[jo]? = some nx) (h3 : X.N[tx]? = some tn)
    (l1 : X.env.scope.names.lookup ox = some .local) (l2 : X.env.scope.names.lookup nx = some .local) (l3 : X.env.scope.names.lookup tn = some .local) (ne : nx ≠ ox) (n1 : tx ≠ io) (n2 : tx ≠ jo)
    (d1 : (ox == ("__debug__" : Str)) = false := by decide) (d2 : (nx == ("__debug__" : Str)) = false := by decide) (d3 : (tn == ("__debug__" : Str)) = false := by decide) (d4 : (tn == ("__classdict__" : Str)) = false := by decide)
    (hlen : (assignEach [.Name ox po, .Name nx pn] X.env).length = 2 := by rfl) (hst : (assignEach [.Name ox po, .Name nx pn] X.env).findIdx? (·.1) = none := by rfl)
    (hmp : (assignEach [.Name ox po, .Name nx pn] X.env).map (·.2) = [assign (.Name ox po) X.env, assign (.Name nx pn) X.env] := by rfl)
    (hbase : attributeBase (.Name tn p2) "replace" X.env (eval (.Name tn p2) X.env) = eval (.Name tn p2) X.env := by rfl)
    (hargs : starEach [.Name ox q1, .Name nx q2] X.env = [(false, eval (.Name ox q1) X.env), (false, eval (.Name nx q2) X.env)] := by rfl) (hline : (ap.endLine == cp.line) = true := by rfl)
    (hsw : swapsWith (.Call (.Attribute (.Name tn p2) "replace" ap) [.Name ox q1, .Name nx q2] [] cp) (some (.Name tn p1)) sp.line X.env = pure false := by rfl) :
    PJ X (.Tuple [.Name ox po, .Name nx pn] k tp) [.Assign [.Name tn p1] (.Call (.Attribute (.Name tn p2) "replace" ap) [.Name ox q1, .Name nx q2] [] cp) sp] (gRepl X.K io jo tx) := by
  constructor
  rintro pins s σ H v u D I r ⟨p, y, z, a, rfl, ⟨dd, t, w, n, sl, hK, t0, w0, tw, yz⟩, ha, hb, q⟩
  obtain rfl : u = Value.ref p := r
  have hT : IsTup s.heap p #[.str y t, .str z w] := ⟨_, I.kIn _ _ hK, rfl, n, rfl⟩
  refine assign_Tuple_tuple (I.ok.hd calm) hT hlen hst ?_
  intro g hg
  have I1 : Inv X pins σ H { s with heap := g } := I.kept (t' := s.toks) fun b o e => hg b o (Nat.ne_of_lt (Heap.lt_size e)) e
  rw [hmp]
  obtain ⟨m, hm, _⟩ := I1.loc
  refine assignInOrder_cons (wpAny_assign_Name (raw_store I1 hm nd h1 l1 (v := .str y) ⟨t, rfl⟩ ?_))
  intro s2 I2 hm2
  refine assignInOrder_cons (wpAny_assign_Name (raw_store I2 hm2 nd h2 l2 (v := .str z) ⟨w, rfl⟩ ?_))
  intro s3 I3 hm3
  refine assignInOrder_nil ?_
  have gx : ((σ.set io (some (.str y))).set jo (some (.str z)))[tx]? = some (some (.str a)) := by
    rw [List.getElem?_set_ne (fun e => n2 e.symm), List.getElem?_set_ne (fun e => n1 e.symm)]
    exact ha
  refine wpAny_execs_cons (wpAny_Assign_Name (PySem.Call_method2 hbase hargs hline (raw_name h3 (.inl l3) I3 gx ?_ d3 d4)) hsw)
  · rintro tv ⟨ta, rfl⟩
    refine ⟨"str", _, PySem.F.plainAttrs_str, PySem.F.slot_str_replace, PySem.F.type_str_replace, typeIs_str _ _ _, (fun _ e => nomatch e), Calls.callWith_builtin rfl (Calls.evalArgs_plain (Calls.spliced_cons ?_))⟩
    refine wpAny_Name (wpAny_loadName_local I3.ok.kind l1 hm3 (by rw [if_neg ne.symm, if_pos rfl]) ?_) d1
    refine Calls.spliced_cons (wpAny_Name (wpAny_loadName_local I3.ok.kind l2 hm3 (if_pos rfl) ?_) d2)
    refine Calls.spliced_nil (PySem.SC.replace t0 w0 tw yz hb ?_)
    intro t' k'
    refine store_ok (I3.tok k') nd h3 (.inl l3) (v := .str (Txt.replace a y z)) ⟨t', rfl⟩ ?_ (.inr l3)
    intro s4 I4
    exact wpAny_execs_nil ⟨_, H, I4, q⟩
end Tu
namespace Tu
open PySem PySem.Spec PyProof.Rows L2 Evl RZ
open PySem.StrLaws (replL)
abbrev sTurned : Stmt := topS 21
theorem scTurned : FnScope ["way", "text", "word", "old", "new"] ["way", "text"] (defScope sTurned) := ⟨rfl, rfl, rfl, by decide +kernel, rfl, by decide +kernel, by decide +kernel⟩
theorem replace_ofl {x y z : List Nat} (h : 1 ≤ y.length) : Txt.replace (ofl x) (ofl y) (ofl z) = ofl (replL y z x) := by
  have e := PySem.StrLaws.replace_list (x := ofl x) (y := ofl y) (z := ofl z) (by rw [ofl_len]; exact h)
  have e2 : (Txt.replace (ofl x) (ofl y) (ofl z)).cps = (replL y z x).toArray := by
    rw [← Array.toArray_toList (xs := (Txt.replace (ofl x) (ofl y) (ofl z)).cps), e]
    rfl
  show _ = (⟨(replL y z x).toArray⟩ : Str)
  rw [← e2]
theorem repl_len {x y z : List Nat} (h : 1 ≤ y.length) : (replL y z x).length ≤ x.length + (x.length + 1) * z.length := by
  have e := TK.replace_len (ofl x) (ofl y) (ofl z)
  rw [replace_ofl h, ofl_len, ofl_len, ofl_len] at e
  exact e
theorem pairs_small (c : Cv) : ∀ q ∈ pairsOf c, 1 ≤ q.1.length ∧ q.2.length ≤ 2 := by cases c <;> decide
theorem pairs_few (c : Cv) : (pairsOf c).length ≤ 3 := by cases c <;> decide
theorem go_len (c : Cv) : ∀ (p : Bool) (l : List Sg), (go c p l).length ≤ 2 * l.length
  | _, [] => Nat.zero_le _
  | p, s :: l => by
    show (outS c p (isN l) s ++ go c _ l).length ≤ 2 * (l.length + 1)
    have h1 := go_len c (decide (s = .r)) l
    have h2 : (outS c p (isN l) s).length ≤ 2 := by cases c <;> cases s <;> cases p <;> cases isN l <;> decide
    rw [List.length_append]
    omega
theorem turnL_take {ws : List Cv} {i : Nat} {c : Cv} (h : ws[i]? = some c) (l : List Sg) : turnL (ws.take (i + 1)) l = by1 c (turnL (ws.take i) l) := by
  induction ws generalizing i l with
  | nil => simp at h
  | cons d ws ih =>
    cases i with
    | zero =>
      have e : d = c := by simpa using h
      subst e
      cases ws <;> rfl
    | succ i =>
      have h2 : ws[i]? = some c := by simpa using h
      show turnL (ws.take (i + 1)) (by1 d l) = by1 c (turnL (ws.take i) (by1 d l))
      exact ih h2 _
/-- what the module's table of replacements is -/
def RTab (K : PySem.W.Frag) (w : World) (aR : Addr) : Prop := ∀ c : Cv, ∃ (tR : Addr) (ps : List Addr), KDct K w aR c.s (.ref tR) ∧ (∀ H, SqT K H tR (ps.map V.ref)) ∧ ps.length = (pairsOf c).length ∧
  ∀ (i : Nat) (p : Addr) (q : List Nat × List Nat), ps[i]? = some p → (pairsOf c)[i]? = some q → KPair K p (ofl q.1) (ofl q.2)
section
variable {K : PySem.W.Frag} {w : World} {H H' : Hp} {σ : L2.St} {t : TT} {te tl ta tb : TE} {D : Ends} {tz tu : TS}
theorem s_forJT {a : Addr} {xs : List V} {tl : TE} {gb : TJ} (h : Ev tl σ H (.ref a)) (hx : ∀ H, SqT K H a xs) (Pv : Nat → L2.St → Hp → Prop) (h0 : ∀ H1, Ex H H1 → Pv 0 σ H1)
    (hs : ∀ i x σ' H', xs[i]? = some x → Pv i σ' H' → gb x { D with nx := Pv (i + 1), ct := Pv (i + 1), bk := D.nx } σ' H') (hd : ∀ σ' H', Pv xs.length σ' H' → D.nx σ' H') : tForJ (iTup K tl) gb D σ H := h H (Ex.refl H) _ fun H1 e1 => by
  refine ⟨a, rfl, ⟨xs, hx H1⟩, fun i m σ' H' => m = xs.length - i ∧ i ≤ xs.length ∧ Pv i σ' H', ⟨xs.length, rfl, Nat.zero_le _, h0 H1 e1⟩, ?_⟩
  rintro i m σ' H' ⟨rfl, hi, p⟩
  have W := walk_tup (K := K) (a := a) (xs := xs)
  by_cases lt : i < xs.length
  · refine .inr ⟨W.goes i H' lt (hx H'), Pv (i + 1), fun σ2 H2 p2 => ⟨xs.length - (i + 1), by omega, rfl, lt, p2⟩, fun x H2 y => ?_⟩
    obtain ⟨rfl, gx⟩ := W.yields i H' x H2 lt (hx H') y
    exact hs i x σ' _ gx p
  · have e : i = xs.length := by omega
    subst e
    exact .inl ⟨W.stops H' (hx H'), hd σ' H' p⟩
end
section
variable {P : Program} {w : World} {K : PySem.W.Frag} {mg : Str → Option Value} {base : Heap} {H H' : Hp}
def spTurned (K : PySem.W.Frag) : Sp := fun vs H Q _ => ∃ (a : Addr) (ws : List Cv) (l : List Sg), vs = [.ref a, .str (txt l)] ∧ SqT K H a (wayV ws) ∧ ws.length ≤ 6 ∧ l.length ≤ 1000 ∧ RetV (.str (txt (turnL ws l))) H Q
theorem ok_turned {f fW fC aR : Addr} {fd fdW fdC : FuncData} {k : Nat} (F : Fun K "turned" "turned" sTurned f fd) (GW : FnOk P w K mg base CX0 k fW fdW ["way"] (spChkWay K)) (kW : PySem.W.keepIn K (.ref fW) = true) (bW : Binds K fdW ["way"] []) (gW : mg "check_way" = some (.ref fW))
    (GC : FnOk P w K mg base CX0 k fC fdC ["text"] (spChkText K)) (kC : PySem.W.keepIn K (.ref fC) = true) (bC : Binds K fdC ["text"] []) (gC : mg "check_text" = some (.ref fC)) (mR : mg "_REPLACED" = some (.ref aR)) (tR : RTab K w aR) :
    FnOk P w K mg base CX0 (k + 1) f fd ["way", "text"] (spTurned K) := by
  refine F.ok scTurned (fun vs H Q E h => ?_) (fun cdv A outer s H vs Q E hr h => ?_)
  · obtain ⟨a, ws, l, rfl, _⟩ := h
    rfl
  · obtain ⟨a, ws, l, rfl, hS, hl, hz, q⟩ := h
    have nd := scTurned.nd
    refine ⟨_, pss_cons (ps_expr (pe_call GW hr (by rfl) gW kW bW .nil pass0 (pa_cons (pv 0) pa_nil)))
      (pss_cons (ps_expr (pe_call GC hr (by rfl) gC kC bC .nil pass0 (pa_cons (pv 1) pa_nil)))
      (pss_cons (ps_for PassesOwn.never rfl (pi_tup (pv 0)) (pg_name (i := 2) nd rfl (.inl rfl))
        (pss_one (ps_forJ PassesOwn.never rfl (pi_tup (pe_ix ix_kdict (pe_glob (v := .ref aR) (by rfl) mR rfl) (pv 2) (fun _ _ => rfl)))
          (pj_repl (io := 3) (jo := 4) (tx := 1) rfl nd rfl rfl rfl rfl rfl rfl (by decide) (by decide) (by decide)))))
      (pss_one (ps_ret (pv 1))))), ?_⟩
    refine q_drop (ev_call (vs := [.ref a]) (ea_cons (ev_var rfl) ea_nil) (spv_chkWay hS hl)) fun H1 e1 => ?_
    refine q_drop (ev_call (vs := [.str (txt l)]) (ea_cons (ev_var rfl) ea_nil) (fun H2 e2 Q q E => ⟨l, rfl, by omega, q⟩)) fun H2 e2 => ?_
    have e12 := e1.trans e2
    refine q_forT (ev_var rfl) (ex_t e12 hS) (fun i σ H' => ∃ x y z, σ = [some (.ref a), some (.str (txt (turnL (ws.take i) l))), x, y, z] ∧ Ex H H' ∧ i ≤ ws.length ∧ (turnL (ws.take i) l).length ≤ 1000 * 2 ^ i)
      (fun H3 e3 => ⟨_, _, _, rfl, e12.trans e3, Nat.zero_le _, by show l.length ≤ _; omega⟩) (fun i σ H' _ ⟨x, y, z, _, e3, _⟩ => ex_t e3 hS) ?_ ?_
    · rintro i x σ H3 hx ⟨x3, y3, z3, rfl, e3, hi, hlen⟩
      obtain ⟨c, hc, rfl⟩ := wayV_get hx
      have hi2 : i < ws.length := (List.getElem?_eq_some_iff.mp hc).1
      have hp : 2 ^ i ≤ 2 ^ 6 := Nat.pow_le_pow_right (by decide) (by omega)
      have hp2 : 2 ^ (i + 1) = 2 * 2 ^ i := by rw [Nat.pow_succ, Nat.mul_comm]
      obtain ⟨tp, ps, hd, hT, hpl, hkp⟩ := tR c
      have ht := turnL_take hc l
      generalize turnL (ws.take i) l = t at hlen ht
      refine s_forJT (ev_ixK ev_c (ev_var rfl) hd) hT (fun j σ H' => ∃ y z, σ = [some (.ref a), some (.str (ofl (repAll ((pairsOf c).take j) (t.map Sg.c)))), some (.str c.s), y, z] ∧ Ex H H' ∧ (repAll ((pairsOf c).take j) (t.map Sg.c)).length + 1 ≤ (t.length + 1) * 3 ^ j)
        (fun H4 e4 => ⟨_, _, rfl, e3.trans e4, by simp [repAll]⟩) ?_ ?_
      · rintro j x σ H4 hx2 ⟨y4, z4, rfl, e4, hln⟩
        rw [List.getElem?_map] at hx2
        cases hj : ps[j]? with
        | none =>
          rw [hj] at hx2
          cases hx2
        | some p =>
          rw [hj] at hx2
          have ex := Option.some.inj hx2
          subst ex
          have hj2 : j < (pairsOf c).length := by
            rw [← hpl]
            exact (List.getElem?_eq_some_iff.mp hj).1
          have hq : (pairsOf c)[j]? = some (pairsOf c)[j] := List.getElem?_eq_getElem hj2
          have hkq := hkp j p _ hj hq
          have sm := pairs_small c _ (List.getElem_mem hj2)
          have fw := pairs_few c
          have hstep : repAll ((pairsOf c).take (j + 1)) (t.map Sg.c) = replL (pairsOf c)[j].1 (pairsOf c)[j].2 (repAll ((pairsOf c).take j) (t.map Sg.c)) := by
            unfold repAll
            rw [List.take_add_one, hq, List.foldl_append]
            rfl
          have h3 : 3 ^ j ≤ 3 ^ 3 := Nat.pow_le_pow_right (by decide) (by omega)
          have h33 : 3 ^ (j + 1) = 3 * 3 ^ j := by rw [Nat.pow_succ, Nat.mul_comm]
          have tb : (t.length + 1) * 3 ^ j ≤ 64001 * 27 := Nat.mul_le_mul (by omega) h3
          generalize (pairsOf c)[j] = pr at hkq sm hstep
          obtain ⟨y, z⟩ := pr
          generalize repAll ((pairsOf c).take j) (t.map Sg.c) = m at hln hstep
          have hmz : (m.length + 1) * z.length ≤ (m.length + 1) * 2 := Nat.mul_le_mul_left _ sm.2
          refine ⟨p, ofl y, ofl z, ofl m, rfl, hkq, rfl, ?_, ?_⟩
          · rw [ofl_len, ofl_len]
            omega
          · rw [replace_ofl sm.1]
            refine ⟨_, _, by rw [hstep]; rfl, e4, ?_⟩
            rw [hstep, h33]
            have := repl_len (x := m) (y := y) (z := z) sm.1
            rw [show (t.length + 1) * (3 * 3 ^ j) = 3 * ((t.length + 1) * 3 ^ j) by rw [Nat.mul_left_comm]]
            show (replL y z m).length + 1 ≤ _
            omega
      · rintro σ H4 ⟨y4, z4, rfl, e4, hln⟩
        have hfull : repAll ((pairsOf c).take (ps.map V.ref).length) (t.map Sg.c) = (by1 c t).map Sg.c := by
          rw [List.length_map, hpl, List.take_length]
          exact rep_by c t.length t (Nat.le_refl _)
        rw [hfull]
        refine ⟨some (.str c.s), y4, z4, ?_, e4, hi2, ?_⟩
        · rw [ht]
          rfl
        · rw [ht]
          have := go_len c false t
          show (go c false t).length ≤ _
          omega
    · rintro σ H3 ⟨x3, y3, z3, rfl, e3, hi, hlen⟩
      have hfull : ws.take (wayV ws).length = ws := by rw [wayV_len, List.take_length]
      rw [hfull]
      exact s_ret (ev_var rfl) fun H4 e4 => q H4 (e3.trans e4)
end
end Tu
namespace Tu
open PySem PySem.Spec PyProof.Rows L2 Evl
/-! ### enumerate(text) -/
/-- a sign of the text in a new pair with its place -/
def Ites (x : Str) : It :=
  ⟨fun i _ => i < x.cps.size, fun i H v H' => ∃ T c, v = .ref T ∧ H T = none ∧ H' = upd H T (.tup [.int (i : Nat), .str ⟨#[c]⟩]) ∧ x.cps[i]? = some c, fun i _ => x.cps.size = i⟩
theorem turn_enumS {P : Program} {w : World} {K : PySem.W.Frag} {elts : List Expr} {kk : Nat} {tpos : Pos} (x : Str) (t : Tok) (e it : Addr) :
    Turn P w K (.Tuple elts kk tpos) (Ites x) [e, it] e (fun i h => (∃ old, IsEnum h e it ((i : Nat) : Int) old) ∧ h.IsStrIter it (strIterType x) x t i ∧ e ≠ it) where
  mem := List.mem_cons_self ..
  obj := by
    rintro i h ⟨⟨old, he⟩, ⟨o, ho, hc, hd⟩, _⟩ b hb
    rcases List.mem_cons.mp hb with rfl | hb
    · exact ⟨_, he, fun v q => nomatch q⟩
    · rw [List.mem_singleton.mp hb]
      exact ⟨o, ho, fun v q => by rw [hd] at q; cases q⟩
  keep := by
    rintro i h h' ⟨⟨old, he⟩, ⟨o, ho, r⟩, ne⟩ k
    exact ⟨⟨old, k e (List.mem_cons_self ..) _ he⟩, ⟨o, k it (by simp) o ho, r⟩, ne⟩
  item := by
    rintro X rfl rfl rfl calm i pins s σ H E I hf ⟨⟨old, he⟩, hit, ne⟩ lt
    have hel : e < s.heap.objs.size := Heap.lt_size he
    have hil : it < s.heap.objs.size := by
      obtain ⟨_, q, _⟩ := hit
      exact Heap.lt_size q
    have D : Draws X.prog X.w X.A.in1 it [it] x.cps.size (fun i v => ∃ c u, x.cps[i]? = some c ∧ v = .str ⟨#[c]⟩ u) (fun i h => h.IsStrIter it (strIterType x) x t i) := Draws.text (show X.A.in1.handled = none from I.ok.hd calm) it x t
    refine wpAny_pyNext_enum_itemD D he hit lt ne (by simpa using ne) ?_
    rintro v h' tk ⟨c, u, hc, rfl⟩ ho hit' hT hsz hk
    refine ⟨_, rfl, wpAny_letOwnedTupleGo_enum (s := { s with heap := h', toks := tk + 1 }) ho ?_⟩
    intro g he' sb
    have hT2 : g.get? s.heap.objs.size = some { cls := .type "tuple", data := .seq #[.int i tk, .str ⟨#[c]⟩ u] } := (sb.2 _ (Nat.ne_of_gt hel)).trans hT
    have new : ObjOk X.prog X.w (upd H s.heap.objs.size (.tup [.int (i : Nat), .str ⟨#[c]⟩])) g s.heap.objs.size (.tup [.int (i : Nat), .str ⟨#[c]⟩]) :=
      ⟨sz_of (n := 2) (by decide), [.int i tk, .str ⟨#[c]⟩ u], .cons ⟨_, rfl⟩ (.cons ⟨_, rfl⟩ .nil), ⟨_, hT2, rfl, _, rfl⟩⟩
    have kept : ∀ b ob, b ∉ [e, it] → s.heap.get? b = some ob → g.get? b = some ob := by
      intro b ob hb q
      have n1 : b ≠ e := fun z => hb (by simp [z])
      have n2 : b ≠ it := fun z => hb (by simp [z])
      exact (sb.2 b n1).trans (hk b ob n1 n2 q)
    have I1 : Inv X pins σ (upd H s.heap.objs.size (.tup [.int (i : Nat), .str ⟨#[c]⟩])) { s with heap := g, toks := tk + 1 } := I.turnedNew (ch := [e, it]) kept hf (Nat.le_refl _) new
    refine ⟨.ref s.heap.objs.size, _, I1, rfl, ⟨_, c, rfl, I.hok.fresh (Nat.le_refl _), rfl, hc⟩, ⟨⟨.str ⟨#[c]⟩ u, ?_⟩, ?_, ne⟩, ?_⟩
    · have z := he'
      rw [show ((i : Int) + 1) = ((i + 1 : Nat) : Int) by omega] at z
      exact z
    · obtain ⟨o, q, r⟩ := hit'
      exact ⟨o, (sb.2 it (Ne.symm ne)).trans q, r⟩
    · intro b hb
      have small : b < s.heap.objs.size := by
        rcases List.mem_cons.mp hb with rfl | hb
        · exact hel
        · rw [List.mem_singleton.mp hb]
          exact hil
      rw [upd_ne (Nat.ne_of_lt small)]
      exact (hf b hb).1
  done := by
    rintro X rfl rfl rfl calm i pins s σ H E I hf ⟨⟨old, he⟩, hit, ne⟩ stop
    obtain rfl : x.cps.size = i := stop
    have D : Draws X.prog X.w X.A.in1 it [it] x.cps.size (fun i v => ∃ c u, x.cps[i]? = some c ∧ v = .str ⟨#[c]⟩ u) (fun i h => h.IsStrIter it (strIterType x) x t i) := Draws.text (show X.A.in1.handled = none from I.ok.hd calm) it x t
    obtain ⟨f0, f1, f2, f3, f4, f5⟩ := hf it (by simp)
    exact wpAny_pyNext_enum_endD D he hit fun h' eb => ⟨rfl, I.turned (t' := s.toks) (fun b o hb q => eb b o hb q) f0 f1 f3 f4 f5⟩
  self := by
    rintro A i s Q E ⟨⟨_, he⟩, _⟩ h
    exact wpAny_pyIter_enum he h
def iEnumS (ta : TA) : TI := fun σ H R => ta σ H fun vs H1 => ∃ x, vs = [.str x] ∧ R (Ites x) H1
theorem pi_enumS {X : Cx} {e : Expr} {ta : TA} {p pos tpos : Pos} {elts : List Expr} {kk : Nat} (hg : Gl X "enumerate") (hm : X.mg "enumerate" = none) (ha : PA X [e] ta) (hs : starEach [e] X.env = [(false, eval e X.env)] := by rfl) :
    PI X (.Tuple elts kk tpos) (.Call (.Name "enumerate" p) [e] [] pos) (iEnumS ta) := by
  constructor
  intro pins s σ H R I h
  refine Call_ (ld_blt I hg hm boot_enumerate (PyProof.Rows.callWith_type1 (thn (ha.run pos pins s σ H _ I h) ?_) hs rfl))
  rintro us s1 ⟨vs, H1, I1, r1, x, rfl, q⟩
  obtain ⟨u, rfl, t, rfl⟩ := vals1 r1
  refine call_enumerate_str ?_
  intro h' he hit hsz hk
  refine wpAny_pyIter_enum he ?_
  have I2 : Inv X pins σ H1 { s1 with heap := h' } := I1.kept (t' := s1.toks) hk
  refine ⟨s1.heap.objs.size + 1, [s1.heap.objs.size + 1, s1.heap.objs.size], _, _, H1, rfl, I2, turn_enumS x t (s1.heap.objs.size + 1) s1.heap.objs.size, ⟨⟨.none, he⟩, hit, Nat.succ_ne_self _⟩, ?_, q⟩
  intro b hb
  have big : s1.heap.objs.size ≤ b := by
    rcases List.mem_cons.mp hb with rfl | hb
    · exact Nat.le_add_right _ _
    · rw [List.mem_singleton.mp hb]
      exact Nat.le_refl _
  exact I1.fpOk big (I1.hok.fresh big)
/-! ### list(text) -/
def signsV (x : Str) : List V := x.cps.toList.map fun c => .str ⟨#[c]⟩
theorem call_list_txt {X : Cx} (calm : X.calm = true) : CallR X (.type "list") (fun xs H Q => ∃ x : Str, xs = [.str x] ∧ x.cps.size ≤ sizeLine ∧ ∀ p, H p = none → Q (.ref p) (upd H p (.lst (signsV x)))) := by
  intro pins s σ H xs us Q I r h
  obtain ⟨x, rfl, hz, q⟩ := h
  obtain ⟨u, rfl, t, rfl⟩ := vals1 r
  refine call_list_str (I.ok.hd calm) x t ?_ hz
  intro h' tk acc c' hk hg hi
  have rv : Vals (signsV x) acc.toList := by
    refine vals_of_idx _ _ ?_ ?_
    · rw [Array.length_toList, hi.1]
      simp [signsV]
    · intro j v hj
      obtain ⟨c, u, hc, rfl⟩ := hi.2 j v (by simpa using hj)
      refine ⟨.str ⟨#[c]⟩, ?_, ⟨u, rfl⟩⟩
      unfold signsV
      rw [List.getElem?_map, Array.getElem?_toList, hc]
      rfl
  refine ⟨.ref s.heap.objs.size, _, I.laid (t' := tk) (o := .lst (signsV x)) hk (Nat.le_refl _) ⟨by simpa [signsV] using hz, acc.toList, c', rv, by simpa using hg⟩, rfl, q _ (I.hok.fresh (Nat.le_refl _))⟩
end Tu
namespace Tu
open PySem PySem.Spec PyProof.Rows L2 Evl RZ
abbrev sBy : Stmt := topS 34
abbrev sMade : Stmt := topS 35
theorem scBy : FnScope ["word", "text", "found", "at", "sign", "is_ahead", "is_behind", "some"] ["word", "text"] (defScope sBy) := ⟨rfl, rfl, rfl, by decide +kernel, rfl, by decide +kernel, by decide +kernel⟩
theorem scMade : FnScope ["way", "text", "word"] ["way", "text"] (defScope sMade) := ⟨rfl, rfl, rfl, by decide +kernel, rfl, by decide +kernel, by decide +kernel⟩
section
variable {K : PySem.W.Frag} {w : World} {H H' : Hp} {σ : L2.St} {t : TT} {te tl ta tb : TE} {D : Ends} {tz tu : TS}
def rAddS : R2 := fun x y H Q => ∃ i j, x = .str i ∧ y = .str j ∧ i.length + j.length ≤ sizeLine ∧ Q (.str (i ++ j)) H
theorem ev_adds {x y : List Sg} (ha : Ev ta σ H (.str (txt x))) (hb : Ev tb σ H (.str (txt y))) (hl : x.length + y.length ≤ 100000) : Ev (tOp rAddS ta tb) σ H (.str (txt (x ++ y))) :=
  ev_op ha hb fun H1 _ Q q => ⟨_, _, rfl, rfl, by rw [txt_len, txt_len]; exact sz_of hl, by rw [txt_app]; exact q H1 (Ex.refl H1)⟩
theorem ev_slS {z : Str} {tl th : TO} {lo hi : Option Int} (h : Ev te σ H (.str z)) (h1 : EvO tl σ H lo) (h2 : EvO th σ H hi) (hz : z.length ≤ 100000) : Ev (tSl rSlS te tl th) σ H (.str (cutS z lo hi)) := fun H1 e Q q =>
  h H1 e _ fun H2 e2 => h1 H2 (e.trans e2) _ fun H3 e3 => h2 H3 ((e.trans e2).trans e3) _ fun H4 e4 => ⟨z, rfl, sz_of hz, q H4 ((e2.trans e3).trans e4)⟩
theorem rv_sub {H : Hp} {i j : Int} : RV (rI0 fun i j => V.int (i - j)) (.int i) (.int j) H (.int (i - j)) := rv_I0
/-- for i, c in enumerate(s) -/
theorem s_forE {x : Str} {ta : TA} {j k : Nat} (h : EvA ta σ H [.str x]) (Pv : Nat → L2.St → Hp → Prop) (h0 : ∀ H1, Ex H H1 → Pv 0 σ H1)
    (hs : ∀ (i c : Nat) σ' H', x.cps[i]? = some c → Pv i σ' H' → ∀ H2, Ex H' H2 → tu { D with nx := Pv (i + 1), ct := Pv (i + 1), bk := D.nx } ((σ'.set j (some (.int (i : Int)))).set k (some (.str ⟨#[c]⟩))) H2)
    (hd : ∀ σ' H', Pv x.cps.size σ' H' → D.nx σ' H') : tFor (iEnumS ta) (gTup K 2 (gCons (gName j) (gCons (gName k) gNil))) tu D σ H := h H (Ex.refl H) _ fun H1 e1 => by
  refine ⟨x, rfl, fun i m σ' H' => m = x.cps.size - i ∧ i ≤ x.cps.size ∧ Pv i σ' H', ⟨x.cps.size, rfl, Nat.zero_le _, h0 H1 e1⟩, ?_⟩
  rintro i m σ' H' ⟨rfl, hi, p⟩
  by_cases lt : i < x.cps.size
  · refine .inr ⟨lt, Pv (i + 1), fun σ2 H2 p2 => ⟨x.cps.size - (i + 1), by omega, rfl, lt, p2⟩, ?_⟩
    rintro v H2 ⟨T, c, rfl, hT, rfl, hc⟩
    exact ⟨T, _, rfl, st_of upd_same, rfl, _, _, rfl, _, _, rfl, rfl, hs i c σ' H' hc p _ (Ex.new hT)⟩
  · have e : i = x.cps.size := by omega
    subst e
    exact .inl ⟨rfl, hd σ' H' p⟩
theorem q_forE {x : Str} {ta : TA} {j k : Nat} (h : EvA ta σ H [.str x]) (Pv : Nat → L2.St → Hp → Prop) (h0 : ∀ H1, Ex H H1 → Pv 0 σ H1)
    (hs : ∀ (i c : Nat) σ' H', x.cps[i]? = some c → Pv i σ' H' → ∀ H2, Ex H' H2 → tu { D with nx := Pv (i + 1), ct := Pv (i + 1), bk := tz D } ((σ'.set j (some (.int (i : Int)))).set k (some (.str ⟨#[c]⟩))) H2)
    (hd : ∀ σ' H', Pv x.cps.size σ' H' → tz D σ' H') : tSeq (tFor (iEnumS ta) (gTup K 2 (gCons (gName j) (gCons (gName k) gNil))) tu) tz D σ H := s_forE (D := { D with nx := tz D }) h Pv h0 hs hd
end
/-! ### the law's own conversion -/
def prevR (l : List Sg) : Nat → Bool
  | 0 => false
  | j + 1 => decide (l[j]? = some .r)
theorem go_at (c : Cv) {l : List Sg} {i : Nat} {g : Sg} (h : l[i]? = some g) : go c (prevR l i) (l.drop i) = outS c (prevR l i) (isN (l.drop (i + 1))) g ++ go c (prevR l (i + 1)) (l.drop (i + 1)) := by
  obtain ⟨hi, e⟩ := List.getElem?_eq_some_iff.mp h
  rw [List.drop_eq_getElem_cons hi, e]
  show outS c _ _ g ++ go c (decide (g = .r)) _ = _
  have e2 : prevR l (i + 1) = decide (g = .r) := by
    show decide (l[i]? = some .r) = _
    rw [h]
    cases g <;> decide
  rw [e2]
theorem o_1 {c : Cv} {g : Sg} {bh ah : Bool} (h : (decide (g = .n) && (decide (c = .all) || (decide (c = .care) && !bh))) = true) : outS c bh ah g = [.r, .n] := by
  revert h
  cases c <;> cases g <;> cases bh <;> cases ah <;> decide
theorem o_2 {c : Cv} {g : Sg} {bh ah : Bool} (h : (decide (g = .n) && decide (c = .lone)) = true) : outS c bh ah g = [.r] := by
  revert h
  cases c <;> cases g <;> cases bh <;> cases ah <;> decide
theorem o_3 {c : Cv} {g : Sg} {bh ah : Bool} (h : (decide (g = .r) && holds c) = true) : outS c bh ah g = if ah then heldN c else heldE c := by
  revert h
  cases c <;> cases g <;> cases bh <;> cases ah <;> decide
theorem o_4 {c : Cv} {g : Sg} {bh ah : Bool} (h1 : (decide (g = .n) && (decide (c = .all) || (decide (c = .care) && !bh))) = false) (h2 : (decide (g = .n) && decide (c = .lone)) = false) (h3 : (decide (g = .r) && holds c) = false) : outS c bh ah g = [g] := by
  revert h1 h2 h3
  cases c <;> cases g <;> cases bh <;> cases ah <;> decide
theorem dec_cv (c : Cv) (d : Cv) : decide (V.str c.s = V.str d.s) = decide (c = d) := by cases c <;> cases d <;> decide +kernel
theorem ev_cv {σ : L2.St} {H : Hp} {c : Cv} {i : Nat} (d : Cv) (hs : σ[i]? = some (some (.str c.s))) : Ev (tOp rEq (tVar i) (tC (.str d.s))) σ H (.bl (decide (c = d))) := by
  have z := ev_op (σ := σ) (H := H) (ev_var hs) (ev_c (v := .str d.s)) (rv_eq rfl)
  rw [dec_cv] at z
  exact z
def sel (c : Cv) (l1 l2 l3 : Addr) : Addr := match c with | .both => l1 | .lones => l2 | _ => l3
/-- the law's table of what becomes of an r -/
def someOf (c : Cv) : List V := match c with | .both => [.str "n", .str ""] | .lones => [.str "n", .str "r"] | _ => [.str "r", .str ""]
theorem in_three (c : Cv) : inV (.str c.s) [.str "both", .str "lones", .str "pairs"] = holds c := by cases c <;> decide +kernel
theorem dec_ahead (m : List Sg) : decide (V.str (txt (m.take 1)) = V.str "n") = isN m := by
  cases m with
  | nil => decide +kernel
  | cons s m => cases s <;> simp [isN] <;> decide +kernel
theorem cut_ahead {l : List Sg} (i : Nat) : cutS (txt l) (some ((i : Int) + 1)) (some ((i : Int) + 2)) = txt ((l.drop (i + 1)).take 1) := by
  unfold cutS
  rw [show ((i : Int) + 1) = ((i + 1 : Nat) : Int) by omega, show ((i : Int) + 2) = ((i + 2 : Nat) : Int) by omega, HT.sIx_nat, HT.sIx_nat, txt_len]
  show (⟨(((l.map Sg.c).drop (min (i + 1) l.length)).take (min (i + 2) l.length - min (i + 1) l.length)).toArray⟩ : Str) = ⟨(((l.drop (i + 1)).take 1).map Sg.c).toArray⟩
  rw [List.map_take, List.map_drop]
  congr 2
  by_cases h : i + 1 < l.length
  · rw [show min (i + 1) l.length = i + 1 by omega, show min (i + 2) l.length = i + 2 by omega, show i + 2 - (i + 1) = 1 by omega]
  · rw [show min (i + 1) l.length = l.length by omega, show min (i + 2) l.length = l.length by omega, Nat.sub_self, List.take_zero]
    rw [List.drop_eq_nil_of_le (by rw [List.length_map]; omega)]
    rfl
section
variable {P : Program} {w : World} {K : PySem.W.Frag} {mg : Str → Option Value} {base : Heap} {H H' : Hp}
def spBy (K : PySem.W.Frag) : Sp := fun vs H Q _ => ∃ (c : Cv) (l : List Sg), vs = [.str c.s, .str (txt l)] ∧ l.length ≤ 10000 ∧ RetV (.str (txt (by1 c l))) H Q
theorem ok_by {f : Addr} {fd : FuncData} {k : Nat} (F : Fun K "_law_by" "_law_by" sBy f fd) (me : mg "enumerate" = none) : FnOk P w K mg base CX0 (k + 1) f fd ["word", "text"] (spBy K) := by
  refine F.ok scBy (fun vs H Q E h => ?_) (fun cdv A outer s H vs Q E hr h => ?_)
  · obtain ⟨c, l, rfl, _⟩ := h
    rfl
  · obtain ⟨c, l, rfl, hz, q⟩ := h
    have nd := scBy.nd
    have hu := hu_of hr
    refine ⟨_, pss_cons (ps_set (i := 2) nd rfl (.inl rfl) pe_str)
      (pss_cons (ps_for PassesOwn.never rfl (pi_enumS (by rfl) me (pa_cons (pv 1) pa_nil)) (pg_tup rfl (pgs_cons (pg_name (i := 3) nd rfl (.inl rfl)) (pgs_cons (pg_name (i := 4) nd rfl (.inl rfl)) pgs_nil)))
        (pss_cons (ps_set (i := 5) nd rfl (.inl rfl) (pe_cmpR op_eq (pe_slice sl_str (pv 1) (po_some (pe_op op_add (pv 3) pe_int)) (po_some (pe_op op_add (pv 3) pe_int))) pe_str (nomark _)))
        (pss_cons (ps_set (i := 6) nd rfl (.inl rfl) (pe_and (pe_cmpR op_gt (pv 3) pe_int (nomark _)) (pe_one (pe_cmpR op_eq (pe_ix ix_str (pv 1) (pe_op op_sub (pv 3) pe_int) (fun _ _ => rfl)) pe_str (nomark _)))))
        (pss_one (ps_if (PW.pt (pw_and (pt_cmpR op_eq (pv 4) pe_str (nomark _)) (pw_and1 (PW.pt (pw_or (pt_cmpR op_eq (pv 0) pe_str (nomark _)) (pw_or1 (PW.pt (pw_and (pt_cmpR op_eq (pv 0) pe_str (nomark _)) (pw_and1 (pt_not (pt_val (pv 6))))))))))))
          (pss_one (ps_set (i := 2) nd rfl (.inl rfl) (pe_op op_add_str (pv 2) pe_str)))
          (pss_one (ps_if (PW.pt (pw_and (pt_cmpR op_eq (pv 4) pe_str (nomark _)) (pw_and1 (pt_cmpR op_eq (pv 0) pe_str (nomark _)))))
            (pss_one (ps_set (i := 2) nd rfl (.inl rfl) (pe_op op_add_str (pv 2) pe_str)))
            (pss_one (ps_if (PW.pt (pw_and (pt_cmpR op_eq (pv 4) pe_str (nomark _)) (pw_and1 (pt_cmpR op_in_seq (pv 0) (pe_tup (pa_cons pe_str (pa_cons pe_str (pa_cons pe_str pa_nil)))) rfl))))
              (pss_cons (ps_set (i := 7) nd rfl (.inl rfl) (pe_dget hu (pe_disp (pps_cons pe_str (pe_lst (pa_cons pe_str (pa_cons pe_str pa_nil))) (pps_cons pe_str (pe_lst (pa_cons pe_str (pa_cons pe_str pa_nil))) (pps_cons pe_str (pe_lst (pa_cons pe_str (pa_cons pe_str pa_nil))) pps_nil)))
                (by rfl) (by rfl) (fun z => by cases z) (by decide)) (pv 0) (fun _ _ => rfl)))
              (pss_one (ps_set (i := 2) nd rfl (.inl rfl) (pe_op op_add_str (pv 2) (pe_ix ix_list (pv 7) (pe_ifExp (pt_val (pv 5)) pe_int pe_int) (fun _ _ => rfl))))))
              (pss_one (ps_set (i := 2) nd rfl (.inl rfl) (pe_op op_add_str (pv 2) (pv 4)))))))))))))
      (pss_one (ps_ret (pv 2)))), ?_⟩
    refine q_asg (v := .str (txt [])) ev_c fun H1 e1 => ?_
    refine q_forE (ea_cons (ev_var rfl) ea_nil) (fun i σ H' => ∃ t x3 x4 x5 x6 x7, σ = [some (.str c.s), some (.str (txt l)), some (.str (txt t)), x3, x4, x5, x6, x7] ∧ Ex H H' ∧ by1 c l = t ++ go c (prevR l i) (l.drop i))
      (fun H2 e2 => ⟨[], _, _, _, _, _, rfl, e1.trans e2, rfl⟩) ?_ ?_
    · rintro i cc σ H2 hc ⟨t, x3, x4, x5, x6, x7, rfl, e2, hst⟩ H3 e3
      obtain ⟨g, hg, rfl⟩ := txt_get hc
      have hi : i < l.length := (List.getElem?_eq_some_iff.mp hg).1
      rw [go_at c hg, ← List.append_assoc] at hst
      have htl : (t ++ outS c (prevR l i) (isN (l.drop (i + 1))) g).length ≤ 2 * l.length := by
        have := go_len c false l
        have e : (go c false l).length = (t ++ outS c (prevR l i) (isN (l.drop (i + 1))) g).length + (go c (prevR l (i + 1)) (l.drop (i + 1))).length := by
          rw [show go c false l = by1 c l from rfl, hst, List.length_append]
        omega
      rw [List.length_append] at htl
      -- is_ahead
      have za := ev_op (σ := [some (.str c.s), some (.str (txt l)), some (.str (txt t)), some (.int (i : Int)), some (.str (sg g)), x5, x6, x7]) (H := H3)
        (ev_slS (ev_var (i := 1) rfl) (eo_some (ev_op (ev_var (i := 3) rfl) (ev_c (v := .int 1)) rv_add)) (eo_some (ev_op (ev_var (i := 3) rfl) (ev_c (v := .int 2)) rv_add)) (by rw [txt_len]; omega)) (ev_c (v := .str "n")) (rv_eq rfl)
      rw [cut_ahead, dec_ahead] at za
      refine q_asg za fun H4 e4 => ?_
      generalize hah : isN (l.drop (i + 1)) = ah at hst htl
      -- is_behind
      refine q_asg (v := .bl (prevR l i)) ?_ fun H5 e5 => ?_
      · refine ev_is (ev_andV (a := decide ((i : Int) > 0)) (b := decide (l[i - 1]? = some .r)) (ev_op (ev_var rfl) ev_c rv_I0) (fun hb => ?_)) ?_
        · have hb := of_decide_eq_true hb
          have hlt : i - 1 < l.length := by omega
          have gx : atI (txt l).cps.toList ((i : Int) - 1) = some (l[i - 1]).c := by
            rw [show ((i : Int) - 1) = ((i - 1 : Nat) : Int) by omega]
            refine atI_nat ?_
            show (l.map Sg.c)[i - 1]? = _
            rw [List.getElem?_map, List.getElem?_eq_getElem hlt]
            rfl
          have z := ev_op (σ := [some (.str c.s), some (.str (txt l)), some (.str (txt t)), some (.int (i : Int)), some (.str (sg g)), some (.bl (isN (l.drop (i + 1)))), x6, x7]) (H := H4)
            (ev_op (ev_var (i := 1) rfl) (ev_op (ev_var (i := 3) rfl) (ev_c (v := .int 1)) rv_sub) (rv_ixS (by rw [txt_len]; omega) gx)) (ev_c (v := .str "r")) (rv_eq rfl)
          rw [show decide (V.str (⟨#[(l[i - 1]).c]⟩ : Str) = V.str "r") = decide (l[i - 1]? = some .r) by
            rw [List.getElem?_eq_getElem hlt]
            have := dec_r (l[i - 1])
            rw [show (sg (l[i - 1])) = (⟨#[(l[i - 1]).c]⟩ : Str) from rfl] at this
            rw [this]
            simp] at z
          exact z
        · cases i with
          | zero => rfl
          | succ j =>
            rw [decide_eq_true (by omega)]
            rfl
      generalize prevR l i = bh at hst htl
      have e25 := e2.trans (e3.trans (e4.trans e5))
      refine s_if (et_and (et_test (evn rfl)) (fun _ => et_or (et_test (ev_cv .all rfl)) (fun _ => et_and (et_test (ev_cv .care rfl)) (fun _ => et_not (et_test (ev_var rfl)))))) (fun h1 H6 e6 => ?_) (fun h1 H6 e6 => ?_)
      · refine s_asg (v := .str (txt (t ++ outS c bh ah g))) ?_ fun H7 e7 => ⟨_, _, _, _, _, _, rfl, e25.trans (e6.trans e7), hst⟩
        rw [o_1 h1]
        exact ev_adds (ev_var rfl) ev_c (by show t.length + 2 ≤ 100000; omega)
      · refine s_if (et_and (et_test (evn rfl)) (fun _ => et_test (ev_cv .lone rfl))) (fun h2 H7 e7 => ?_) (fun h2 H7 e7 => ?_)
        · refine s_asg (v := .str (txt (t ++ outS c bh ah g))) ?_ fun H8 e8 => ⟨_, _, _, _, _, _, rfl, e25.trans (e6.trans (e7.trans e8)), hst⟩
          rw [o_2 h2]
          exact ev_adds (ev_var rfl) ev_c (by show t.length + 1 ≤ 100000; omega)
        · have e27 := e25.trans (e6.trans e7)
          have z3 := ev_inU (K := K) (σ := [some (.str c.s), some (.str (txt l)), some (.str (txt t)), some (.int (i : Int)), some (.str (sg g)), some (.bl ah), some (.bl bh), x7]) (H := H7) (ev_var (i := 0) (v := .str c.s) rfl)
            (eu_tup (vs := [.str "both", .str "lones", .str "pairs"]) (ea_cons ev_c (ea_cons ev_c (ea_cons ev_c ea_nil))) (by simp)) rfl rfl
          rw [in_three] at z3
          refine s_if (et_and (et_test (evr rfl)) (fun _ => et_test z3)) (fun h3 H8 e8 => ?_) (fun h3 H8 e8 => ?_)
          · have hh : holds c = true := by
              rw [Bool.and_eq_true] at h3
              exact h3.2
            have sz2 : (2 : Nat) ≤ sizeLine := sz_of (by decide)
            intro p hp
            refine ⟨sz2, fun l1 g1 => ⟨sz2, fun l2 g2 => ⟨sz2, fun l3 g3 => ?_⟩⟩⟩
            have x1 := Ex.new (o := .lst [.str "n", .str ""]) g1
            have x2 := Ex.new (o := .lst [.str "n", .str "r"]) g2
            have x3 := Ex.new (o := .lst [.str "r", .str ""]) g3
            have n1 : l1 ≠ p := (ne_of_none upd_same g1).symm
            have n2 : l2 ≠ p := (ne_of_none (x1 p _ upd_same) g2).symm
            have n3 : l3 ≠ p := (ne_of_none ((x1.trans x2) p _ upd_same) g3).symm
            refine ⟨((x1.trans x2).trans x3) p _ upd_same, [(.inr "both", .ref l1), (.inr "lones", .ref l2), (.inr "pairs", .ref l3)], rfl, by simp, ?_⟩
            refine ⟨.str c.s, rfl, p, .ref (sel c l1 l2 l3), rfl, ?_, ?_⟩
            · have z := DGet.k (k := Sum.inr c.s) (upd_same (H := upd (upd (upd (upd H8 p (.dK [])) l1 (.lst [.str "n", .str ""])) l2 (.lst [.str "n", .str "r"])) l3 (.lst [.str "r", .str ""])) (a := p) (o := .dK (mergeK [] [(.inr "both", .ref l1), (.inr "lones", .ref l2), (.inr "pairs", .ref l3)])))
              rw [show valV (mergeK [] [(.inr "both", V.ref l1), (.inr "lones", .ref l2), (.inr "pairs", .ref l3)]) (Sum.inr c.s) = some (.ref (sel c l1 l2 l3)) by
                cases c <;> first | rfl | cases hh] at z
              exact z
            · have eN : Ex H8 (upd (upd (upd (upd (upd H8 p (.dK [])) l1 (.lst [.str "n", .str ""])) l2 (.lst [.str "n", .str "r"])) l3 (.lst [.str "r", .str ""])) p (.dK (mergeK [] [(.inr "both", .ref l1), (.inr "lones", .ref l2), (.inr "pairs", .ref l3)]))) :=
                ((((Ex.new hp).trans x1).trans x2).trans x3).mut hp
              have hL : (upd (upd (upd (upd (upd H8 p (.dK [])) l1 (.lst [.str "n", .str ""])) l2 (.lst [.str "n", .str "r"])) l3 (.lst [.str "r", .str ""])) p (.dK (mergeK [] [(.inr "both", .ref l1), (.inr "lones", .ref l2), (.inr "pairs", .ref l3)]))) (sel c l1 l2 l3) = some (.lst (someOf c)) := by
                cases c with
                | both =>
                  refine (upd_ne n1).trans ?_
                  exact x3 _ _ (x2 _ _ upd_same)
                | lones =>
                  refine (upd_ne n2).trans ?_
                  exact x3 _ _ upd_same
                | pairs =>
                  refine (upd_ne n3).trans ?_
                  exact upd_same
                | _ => cases hh
              dsimp only [gName]
              refine s_asg (v := .str (txt (t ++ outS c bh ah g))) ?_ fun H9 e9 => ⟨_, _, _, _, _, _, rfl, e27.trans (e8.trans (eN.trans e9)), hst⟩
              rw [o_3 h3]
              refine ev_adds (ev_var rfl) (ev_op (ev_var rfl) (ev_if (v := .int (if ah then 1 else 0)) (et_B (ev_var rfl)) (fun hb => ?_) (fun hb => ?_)) (rv_ixL (sq_of hL) ?_)) ?_
              · rw [hb]
                exact ev_c
              · rw [hb]
                exact ev_c
              · cases c <;> cases ah <;> first | rfl | cases hh
              · have : (if ah = true then heldN c else heldE c).length ≤ 1 := by cases c <;> cases ah <;> decide
                omega
          · refine s_asg (v := .str (txt (t ++ outS c bh ah g))) ?_ fun H9 e9 => ⟨_, _, _, _, _, _, rfl, e27.trans (e8.trans e9), hst⟩
            rw [o_4 h1 h2 h3]
            exact ev_adds (ev_var rfl) (ev_var rfl) (by show t.length + 1 ≤ 100000; omega)
    · rintro σ H2 ⟨t, x3, x4, x5, x6, x7, rfl, e2, hst⟩
      have hd1 : l.drop (txt l).cps.size = [] := by
        rw [show (txt l).cps.size = (txt l).length from rfl, txt_len]
        exact List.drop_length
      rw [hd1] at hst
      have hst2 : by1 c l = t := by rw [hst]; simp [go]
      rw [hst2] at q
      exact s_ret (ev_var rfl) fun H3 e3 => q H3 (e2.trans e3)
end
end Tu
namespace Tu
open PySem PySem.Spec PyProof.Rows L2 Evl RZ
abbrev sWalk : Stmt := topS 38
theorem scWalk : FnScope ["way", "text", "standing", "found", "sign", "given"] ["way", "text"] (defScope sWalk) := ⟨rfl, rfl, rfl, by decide +kernel, rfl, by decide +kernel, by decide +kernel⟩
theorem many_plain {c : Cv} (h : plain c = true) : ∀ {b : Bool} (l : List Sg), b = false → (many c b l).1 = false
  | b, [], e => e
  | b, s :: l, e => many_plain h l (by rw [one_plain h])
theorem stOk_step : ∀ (ws : List Cv) (st : List Bool) (t : List Sg), stOk ws st → stOk ws (stepW ws st t).1
  | [], [], _, _ => trivial
  | c :: ws, b :: st, t, h => by
    refine ⟨fun e => ?_, stOk_step ws st _ h.2⟩
    cases hp : plain c with
    | false => rfl
    | true =>
      have hb : b = false := by
        cases b with
        | false => rfl
        | true => rw [h.1 rfl] at hp; cases hp
      have e : (many c b t).1 = true := e
      rw [many_plain hp t hb] at e
      cases e
  | [], _ :: _, _, h => h.elim
  | _ :: _, [], _, h => h.elim
theorem stOk_first : ∀ ws : List Cv, stOk ws (List.replicate ws.length false)
  | [] => trivial
  | c :: ws => show ((false = true → plain c = false) ∧ stOk ws (List.replicate ws.length false)) from ⟨(fun e => nomatch e), stOk_first ws⟩
theorem walk_snoc (ws : List Cv) (g : Sg) : ∀ (l : List Sg) (st : List Bool), walkW ws st (l ++ [g]) = ((stepW ws (walkW ws st l).1 [g]).1, (walkW ws st l).2 ++ (stepW ws (walkW ws st l).1 [g]).2)
  | [], st => by simp [walkW]
  | s :: l, st => by
    show ((walkW ws _ (l ++ [g])).1, _ ++ (walkW ws _ (l ++ [g])).2) = _
    rw [walk_snoc ws g l]
    simp [walkW]
theorem step_out_len : ∀ (ws : List Cv) (st : List Bool) (t : List Sg), (stepW ws st t).2.length ≤ t.length * 2 ^ ws.length
  | [], _, t => by simp [stepW]
  | _ :: _, [], t => by
    show t.length ≤ _
    exact Nat.le_mul_of_pos_right _ (Nat.two_pow_pos _)
  | c :: ws, b :: st, t => by
    show (stepW ws st (many c b t).2).2.length ≤ t.length * 2 ^ (ws.length + 1)
    have h1 := step_out_len ws st (many c b t).2
    have h2 := many_len c b t
    have h3 : (many c b t).2.length * 2 ^ ws.length ≤ (2 * t.length) * 2 ^ ws.length := Nat.mul_le_mul_right _ h2
    have h4 : (2 * t.length) * 2 ^ ws.length = t.length * 2 ^ (ws.length + 1) := by rw [Nat.pow_succ, Nat.mul_comm 2, Nat.mul_assoc, Nat.mul_comm 2]
    omega
theorem walk_len (ws : List Cv) : ∀ (l : List Sg) (st : List Bool), (walkW ws st l).2.length ≤ l.length * 2 ^ ws.length
  | [], _ => Nat.zero_le _
  | s :: l, st => by
    show ((stepW ws st [s]).2 ++ (walkW ws _ l).2).length ≤ (l.length + 1) * 2 ^ ws.length
    have h1 := step_out_len ws st [s]
    have h2 := walk_len ws l (stepW ws st [s]).1
    rw [List.length_append, Nat.add_mul, Nat.add_comm]
    exact Nat.add_le_add h2 h1
theorem turn_len : ∀ (ws : List Cv) (l : List Sg), (turnL ws l).length ≤ l.length * 2 ^ ws.length
  | [], l => by simp [turnL]
  | c :: ws, l => by
    show (turnL ws (by1 c l)).length ≤ l.length * 2 ^ (ws.length + 1)
    have h1 := turn_len ws (by1 c l)
    have h2 : (by1 c l).length ≤ 2 * l.length := go_len c false l
    have h3 : (by1 c l).length * 2 ^ ws.length ≤ (2 * l.length) * 2 ^ ws.length := Nat.mul_le_mul_right _ h2
    have h4 : (2 * l.length) * 2 ^ ws.length = l.length * 2 ^ (ws.length + 1) := by rw [Nat.pow_succ, Nat.mul_comm 2, Nat.mul_assoc, Nat.mul_comm 2]
    omega
section
variable {P : Program} {w : World} {K : PySem.W.Frag} {mg : Str → Option Value} {base : Heap} {H H' : Hp}
def spMade (K : PySem.W.Frag) : Sp := fun vs H Q _ => ∃ (a : Addr) (ws : List Cv) (l : List Sg), vs = [.ref a, .str (txt l)] ∧ SqT K H a (wayV ws) ∧ l.length * 2 ^ ws.length ≤ 10000 ∧ RetV (.str (txt (turnL ws l))) H Q
theorem ok_made {f fB : Addr} {fd fdB : FuncData} {k : Nat} (F : Fun K "_law_made" "_law_made" sMade f fd) (GB : FnOk P w K mg base CX0 k fB fdB ["word", "text"] (spBy K)) (kB : PySem.W.keepIn K (.ref fB) = true) (bB : Binds K fdB ["word", "text"] []) (gB : mg "_law_by" = some (.ref fB)) :
    FnOk P w K mg base CX0 (k + 1) f fd ["way", "text"] (spMade K) := by
  refine F.ok scMade (fun vs H Q E h => ?_) (fun cdv A outer s H vs Q E hr h => ?_)
  · obtain ⟨a, ws, l, rfl, _⟩ := h
    rfl
  · obtain ⟨a, ws, l, rfl, hS, hl, q⟩ := h
    have nd := scMade.nd
    refine ⟨_, pss_cons (ps_for PassesOwn.never rfl (pi_tup (pv 0)) (pg_name (i := 2) nd rfl (.inl rfl)) (pss_one (ps_set (i := 1) nd rfl (.inl rfl) (pe_call GB hr (by rfl) gB kB bB .nil pass0 (pa_cons (pv 2) (pa_cons (pv 1) pa_nil))))))
      (pss_one (ps_ret (pv 1))), ?_⟩
    refine q_forT (ev_var rfl) hS (fun i σ H' => ∃ x, σ = [some (.ref a), some (.str (txt (turnL (ws.take i) l))), x] ∧ Ex H H' ∧ i ≤ ws.length)
      (fun H3 e3 => ⟨_, rfl, e3, Nat.zero_le _⟩) (fun i σ H' _ ⟨x, _, e3, _⟩ => ex_t e3 hS) ?_ ?_
    · rintro i x σ H3 hx ⟨x3, rfl, e3, hi⟩
      obtain ⟨c, hc, rfl⟩ := wayV_get hx
      have hi2 : i < ws.length := (List.getElem?_eq_some_iff.mp hc).1
      have ht := turnL_take hc l
      have hlen := turn_len (ws.take i) l
      have hp : 2 ^ (ws.take i).length ≤ 2 ^ ws.length := Nat.pow_le_pow_right (by decide) (by rw [List.length_take]; omega)
      have hm := Nat.mul_le_mul_left l.length hp
      refine s_asg (v := .str (txt (by1 c (turnL (ws.take i) l)))) (ev_call (vs := [.str c.s, .str (txt (turnL (ws.take i) l))]) (ea_cons (ev_var rfl) (ea_cons (ev_var rfl) ea_nil)) fun H4 e4 Q q E => ⟨c, _, rfl, by omega, q⟩) fun H4 e4 => ?_
      exact ⟨some (.str c.s), by rw [ht]; rfl, e3.trans e4, hi2⟩
    · rintro σ H3 ⟨x3, rfl, e3, hi⟩
      have hfull : ws.take (wayV ws).length = ws := by rw [wayV_len, List.take_length]
      rw [hfull]
      exact s_ret (ev_var rfl) fun H4 e4 => q H4 (e3.trans e4)
def spWalk (K : PySem.W.Frag) : Sp := fun vs H Q _ => ∃ (a : Addr) (ws : List Cv) (l : List Sg), vs = [.ref a, .str (txt l)] ∧ SqT K H a (wayV ws) ∧ ws.length ≤ 6 ∧ l.length ≤ 100 ∧ RetV (.str (txt (turnL ws l))) H Q
theorem ok_walk {f fF fR fE : Addr} {fd fdF fdR fdE : FuncData} (F : Fun K "_law_walk" "_law_walk" sWalk f fd)
    (GF : FnOk P w K mg base CX0 2 fF fdF ["way"] (spFirst K)) (kF : PySem.W.keepIn K (.ref fF) = true) (bF : Binds K fdF ["way"] []) (gF : mg "first_standing" = some (.ref fF))
    (GR : FnOk P w K mg base CX0 4 fR fdR ["way", "standing", "sign"] (spRead K)) (kR : PySem.W.keepIn K (.ref fR) = true) (bR : Binds K fdR ["way", "standing", "sign"] []) (gR : mg "read" = some (.ref fR))
    (GE : FnOk P w K mg base CX0 3 fE fdE ["way", "standing"] (spEnd K)) (kE : PySem.W.keepIn K (.ref fE) = true) (bE : Binds K fdE ["way", "standing"] []) (gE : mg "at_end" = some (.ref fE)) :
    FnOk P w K mg base CX0 5 f fd ["way", "text"] (spWalk K) := by
  refine F.ok scWalk (fun vs H Q E h => ?_) (fun cdv A outer s H vs Q E hr h => ?_)
  · obtain ⟨a, ws, l, rfl, _⟩ := h
    rfl
  · obtain ⟨a, ws, l, rfl, hS, hw, hl, q⟩ := h
    have nd := scWalk.nd
    refine ⟨_, pss_cons (ps_par (i := 2) (j := 3) (by rfl) nd rfl rfl (by decide) rfl rfl (pa_cons (pe_call GF (hr.mono (by decide)) (by rfl) gF kF bF .nil pass0 (pa_cons (pv 0) pa_nil)) (pa_cons pe_str pa_nil)) (by rfl))
      (pss_cons (ps_for PassesOwn.never rfl (pi_str (pv 1)) (pg_name (i := 4) nd rfl (.inl rfl))
        (pss_cons (ps_asg (pe_call GR hr (by rfl) gR kR bR .nil pass0 (pa_cons (pv 0) (pa_cons (pv 2) (pa_cons (pv 4) pa_nil)))) (pg_tup rfl (pgs_cons (pg_name (i := 2) nd rfl (.inl rfl)) (pgs_cons (pg_name (i := 5) nd rfl (.inl rfl)) pgs_nil))))
        (pss_one (ps_set (i := 3) nd rfl (.inl rfl) (pe_op op_add_str (pv 3) (pv 5))))))
      (pss_one (ps_ret (pe_op op_add_str (pv 3) (pe_call GE (hr.mono (by decide)) (by rfl) gE kE bE .nil pass0 (pa_cons (pv 0) (pa_cons (pv 2) pa_nil))))))), ?_⟩
    have hp6 : 2 ^ ws.length ≤ 2 ^ 6 := Nat.pow_le_pow_right (by decide) hw
    refine call_raw (vs := [.ref a]) (ea_cons (ev_var rfl) ea_nil) fun H1 e1 => ⟨a, ws, rfl, ex_t e1 hS, hw, fun b H2 e2 hB => ⟨_, _, rfl, ?_⟩⟩
    have e12 := e1.trans e2
    refine q_forS (ev_var rfl) (fun i σ H' => ∃ b x y, σ = [some (.ref a), some (.str (txt l)), some (.ref b), some (.str (txt (walkW ws (List.replicate ws.length false) (l.take i)).2)), x, y] ∧ Ex H H' ∧
        SqT K H' b (stV (walkW ws (List.replicate ws.length false) (l.take i)).1) ∧ stOk ws (walkW ws (List.replicate ws.length false) (l.take i)).1)
      (fun H3 e3 => ⟨b, _, _, rfl, e12.trans e3, ex_t e3 hB, stOk_first ws⟩) ?_ ?_
    · rintro i cc σ H3 hc ⟨b3, x, y, rfl, e3, hb, ok⟩
      obtain ⟨g, hg, rfl⟩ := txt_get hc
      have hi : i < l.length := (List.getElem?_eq_some_iff.mp hg).1
      have hsn : walkW ws (List.replicate ws.length false) (l.take (i + 1)) = ((stepW ws (walkW ws (List.replicate ws.length false) (l.take i)).1 [g]).1, (walkW ws (List.replicate ws.length false) (l.take i)).2 ++ (stepW ws (walkW ws (List.replicate ws.length false) (l.take i)).1 [g]).2) := by
        rw [List.take_add_one, hg]
        exact walk_snoc ws g (l.take i) _
      have hwl := walk_len ws (l.take i) (List.replicate ws.length false)
      have htk : (l.take i).length ≤ 100 := by rw [List.length_take]; omega
      generalize walkW ws (List.replicate ws.length false) (l.take i) = st at hb ok hsn hwl
      have hso := step_out_len ws st.1 [g]
      have hmm := Nat.mul_le_mul htk hp6
      refine call_raw (vs := [.ref a, .ref b3, .str (sg g)]) (ea_cons (ev_var rfl) (ea_cons (ev_var rfl) (ea_cons (ev_var rfl) ea_nil))) fun H4 e4 => ⟨a, b3, ws, st.1, g, rfl, ex_t (e3.trans e4) hS, ex_t e4 hb, ok, hw, ?_⟩
      intro p r H5 e5 h1 h2
      refine ⟨p, [.ref r, .str (txt (stepW ws st.1 [g]).2)], rfl, st_of h2, rfl, _, _, rfl, _, _, rfl, rfl, ?_⟩
      refine s_asg (v := .str (txt (st.2 ++ (stepW ws st.1 [g]).2))) (ev_adds (ev_var rfl) (ev_var rfl) ?_) fun H6 e6 => ?_
      · rw [show ([g] : List Sg).length = 1 from rfl] at hso
        omega
      · rw [hsn]
        exact ⟨r, _, _, rfl, e3.trans (e4.trans (e5.trans e6)), st_of (e6 _ _ h1), stOk_step ws st.1 [g] ok⟩
    · rintro σ H3 ⟨b3, x, y, rfl, e3, hb, ok⟩
      have ht : l.take (txt l).cps.size = l := List.take_of_length_le (by rw [show (txt l).cps.size = (txt l).length from rfl, txt_len]; omega)
      rw [ht] at hb ok ⊢
      have hend := walk_end ws l (List.replicate ws.length false) (List.length_replicate ..)
      rw [end_turn] at hend
      have htl := turn_len ws l
      have hmm := Nat.mul_le_mul hl hp6
      rw [← hend] at q htl
      rw [List.length_append] at htl
      refine s_ret (ev_adds (ev_var rfl) (ev_call (vs := [.ref a, .ref b3]) (ea_cons (ev_var rfl) (ea_cons (ev_var rfl) ea_nil)) fun H4 e4 Q q E => ⟨a, b3, ws, _, rfl, ex_t (e3.trans e4) hS, ex_t e4 hb, ok, hw, q⟩) (by omega)) fun H4 e4 => q H4 (e3.trans e4)
end
end Tu
namespace Tu
open PySem PySem.Spec PyProof.Rows L2 Evl RZ
open PySem.StrLaws (replL replL_nil)
/-! ### kinds -/
def strip : List Sg → List Sg
  | .r :: .n :: l => strip l
  | s :: l => s :: strip l
  | [] => []
def prN : List Sg → Nat
  | .r :: .n :: l => prN l + 1
  | _ :: l => prN l
  | [] => 0
theorem strip_repl : ∀ (k : Nat) (l : List Sg), l.length ≤ k → replL [114, 110] [] (l.map Sg.c) = (strip l).map Sg.c
  | 0, l, h => by
    have e : l = [] := List.length_eq_zero_iff.mp (by omega)
    subst e
    exact replL_nil
  | k + 1, l, h => by
    cases l with
    | nil => exact replL_nil
    | cons s l =>
      have ih := strip_repl k l (by simpa using h)
      cases s with
      | a => simp [strip, Sg.c, r2_miss, ih]
      | n => simp [strip, Sg.c, r2_miss, ih]
      | r =>
        cases l with
        | nil => simp [strip, Sg.c, r2_last]
        | cons t l =>
          have ih2 := strip_repl (k - 1) l (by simp at h; omega)
          cases t with
          | n => simp [strip, Sg.c, r2_hit, ih2]
          | a =>
            simp only [List.map_cons, Sg.c] at ih ⊢
            rw [r2_miss2 (by decide), ih]
            rfl
          | r =>
            simp only [List.map_cons, Sg.c] at ih ⊢
            rw [r2_miss2 (by decide), ih]
            rfl
theorem strip_len : ∀ l : List Sg, (strip l).length + 2 * prN l = l.length
  | [] => rfl
  | .a :: l => by have := strip_len l; simp [strip, prN]; omega
  | .n :: l => by have := strip_len l; simp [strip, prN]; omega
  | [.r] => rfl
  | .r :: .n :: l => by have := strip_len l; simp [strip, prN]; omega
  | .r :: .a :: l => by have := strip_len (.a :: l); simp [strip, prN] at this ⊢; omega
  | .r :: .r :: l => by have := strip_len (.r :: l); simp [strip, prN] at this ⊢; omega
theorem strip_r : ∀ l : List Sg, (strip l).count .r + prN l = l.count .r
  | [] => rfl
  | .a :: l => by have := strip_r l; simp [strip, prN]; omega
  | .n :: l => by have := strip_r l; simp [strip, prN]; omega
  | [.r] => rfl
  | .r :: .n :: l => by have := strip_r l; simp [strip, prN]; omega
  | .r :: .a :: l => by have := strip_r (.a :: l); simp [strip, prN] at this ⊢; omega
  | .r :: .r :: l => by have := strip_r (.r :: l); simp [strip, prN] at this ⊢; omega
theorem strip_n : ∀ l : List Sg, (strip l).count .n + prN l = l.count .n
  | [] => rfl
  | .a :: l => by have := strip_n l; simp [strip, prN]; omega
  | .n :: l => by have := strip_n l; simp [strip, prN]; omega
  | [.r] => rfl
  | .r :: .n :: l => by have := strip_n l; simp [strip, prN]; omega
  | .r :: .a :: l => by have := strip_n (.a :: l); simp [strip, prN] at this ⊢; omega
  | .r :: .r :: l => by have := strip_n (.r :: l); simp [strip, prN] at this ⊢; omega
def kindL (k : Kd) (l : List Sg) : Bool := match k with
  | .any => true
  | .bare => decide (Sg.r ∉ l)
  | .lone => decide (Sg.n ∉ l)
  | .paired => (strip l).all fun s => decide (s = .a)
theorem all_a (l : List Sg) : (l.all fun s => decide (s = .a)) = decide (l.count .r = 0 ∧ l.count .n = 0) := by
  induction l with
  | nil => rfl
  | cons s l ih =>
    rw [List.all_cons, ih]
    cases s <;> simp
theorem paired_count (l : List Sg) : kindL .paired l = (decide (l.count .r = l.count .n) && decide (l.count .n = prN l)) := by
  show (strip l).all _ = _
  have h1 := strip_r l
  have h2 := strip_n l
  rw [all_a, Bool.eq_iff_iff]
  simp only [decide_eq_true_eq, Bool.and_eq_true]
  omega
/-! ### how often -/
section
open Builtin Builtin.Str
theorem count_repl {x y : List Nat} (h : 1 ≤ y.length) : ((replL y [] x).length : Int) + Txt.count (ofl x) (ofl y) * y.length = x.length := by
  have e := replace_ofl (x := x) (y := y) (z := []) h
  have hg : (glued (ofl y) (partsBetween (ofl x) (occurrences (ofl x) (ofl y) 0 (ofl x).length ((ofl x).length + 1)) (ofl y).length)).length = (ofl x).length := by rw [StrLaws.glued_between_self]
  rw [size_glued, length_partsBetween, Nat.add_sub_cancel] at hg
  have e2 := congrArg Str.length e
  rw [ofl_len] at e2
  unfold Txt.replace at e2
  show _ + ((occurrences (ofl x) (ofl y) 0 (ofl x).length ((ofl x).length + 1)).length : Int) * _ = _
  have hx : (ofl x).length = x.length := ofl_len x
  have hl : (ofl y).length = y.length := ofl_len y
  rw [hl] at hg
  generalize occurrences (ofl x) (ofl y) 0 (ofl x).length ((ofl x).length + 1) = occ at hg e2 ⊢
  cases occ with
  | nil =>
    have z : (ofl x).length = (replL y [] x).length := e2
    show _ + (0 : Int) * _ = _
    omega
  | cons i r =>
    have hyz : (y.length == 0) = false := beq_eq_false_iff_ne.mpr (by omega)
    rw [hl, hyz, Bool.false_and, Bool.or_false, if_neg (show ¬ ((i :: r).isEmpty = true) from Bool.false_ne_true), size_glued, length_partsBetween] at e2
    have z : (((partsBetween (ofl x) (i :: r) y.length).map (·.length)).sum + ((i :: r).length + 1 - 1) * 0) = (replL y [] x).length := e2
    rw [Nat.mul_zero, Nat.add_zero] at z
    rw [z, hx] at hg
    have hg2 : (((replL y [] x).length + (i :: r).length * y.length : Nat) : Int) = (x.length : Int) := congrArg _ hg
    rw [Int.natCast_add, Int.natCast_mul] at hg2
    exact hg2
/-- split and join is to replace by nothing -/
theorem split_join {x y : List Nat} (h : 1 ≤ y.length) (hk : strKind (ofl x) = strKind (ofl y)) : Txt.join "" (Txt.split (ofl x) (ofl y)) = ofl (replL y [] x) := by
  rw [← replace_ofl (x := x) (y := y) (z := []) h]
  have c := count_repl (x := x) (y := y) h
  unfold Txt.split Txt.join Txt.replace
  have hn : (ofl y).length = y.length := ofl_len y
  have hx : (ofl x).length = x.length := ofl_len x
  have hyz : ((ofl y).length == 0) = false := beq_eq_false_iff_ne.mpr (by omega)
  have one : ∀ z : Str, glued "" [z] = z := fun z => rfl
  unfold Txt.count at c
  rw [hk, decide_eq_false (Nat.lt_irrefl _), Bool.or_false, hyz, Bool.false_and, Bool.or_false]
  generalize occurrences (ofl x) (ofl y) 0 (ofl x).length ((ofl x).length + 1) = occ at c ⊢
  cases occ with
  | nil =>
    rw [if_pos (show (([] : List Nat).isEmpty = true) from rfl), if_pos (show (([] : List Nat).isEmpty = true) from rfl)]
    split <;> rfl
  | cons i r =>
    have short : ¬ ((ofl x).length < (ofl y).length) := fun z => by
      have c2 : ((replL y [] x).length : Int) + ((r.length + 1 : Nat) : Int) * y.length = x.length := c
      have g : ((r.length + 1 : Nat) : Int) * y.length = (r.length : Int) * y.length + y.length := by
        rw [Int.natCast_add, Int.add_mul]
        show _ + (1 : Int) * _ = _
        rw [Int.one_mul]
      have g2 : (0 : Int) ≤ (r.length : Int) * y.length := Int.mul_nonneg (by omega) (by omega)
      omega
    rw [decide_eq_false short, if_neg Bool.false_ne_true, if_neg (show ¬ ((i :: r).isEmpty = true) from Bool.false_ne_true), if_neg (show ¬ ((i :: r).isEmpty = true) from Bool.false_ne_true)]
    rfl
end
theorem filt_r (l : List Sg) : (replL [114] [] (l.map Sg.c)).length + l.count .r = l.length := by
  induction l with
  | nil => simp [replL_nil]
  | cons s l ih =>
    cases s
    · rw [List.map_cons, show Sg.c .a = 97 from rfl, r1_miss (by decide)]
      simp at ih ⊢
      omega
    · rw [List.map_cons, show Sg.c .n = 110 from rfl, r1_miss (by decide)]
      simp at ih ⊢
      omega
    · rw [List.map_cons, show Sg.c .r = 114 from rfl, r1_hit]
      simp at ih ⊢
      omega
theorem filt_n (l : List Sg) : (replL [110] [] (l.map Sg.c)).length + l.count .n = l.length := by
  induction l with
  | nil => simp [replL_nil]
  | cons s l ih =>
    cases s
    · rw [List.map_cons, show Sg.c .a = 97 from rfl, r1_miss (by decide)]
      simp at ih ⊢
      omega
    · rw [List.map_cons, show Sg.c .n = 110 from rfl, r1_hit]
      simp at ih ⊢
      omega
    · rw [List.map_cons, show Sg.c .r = 114 from rfl, r1_miss (by decide)]
      simp at ih ⊢
      omega
theorem count_r (l : List Sg) : Txt.count (txt l) "r" = l.count .r := by
  have c := count_repl (x := l.map Sg.c) (y := [114]) (by decide)
  have f := filt_r l
  rw [List.length_map] at c
  have e : Txt.count (txt l) "r" = Txt.count (ofl (l.map Sg.c)) (ofl [114]) := rfl
  rw [e]
  simp only [List.length_cons, List.length_nil] at c
  omega
theorem count_n (l : List Sg) : Txt.count (txt l) "n" = l.count .n := by
  have c := count_repl (x := l.map Sg.c) (y := [110]) (by decide)
  have f := filt_n l
  rw [List.length_map] at c
  have e : Txt.count (txt l) "n" = Txt.count (ofl (l.map Sg.c)) (ofl [110]) := rfl
  rw [e]
  simp only [List.length_cons, List.length_nil] at c
  omega
theorem count_rn (l : List Sg) : Txt.count (txt l) "rn" = prN l := by
  have c := count_repl (x := l.map Sg.c) (y := [114, 110]) (by decide)
  rw [strip_repl l.length l (Nat.le_refl _), List.length_map, List.length_map] at c
  have f := strip_len l
  have e : Txt.count (txt l) "rn" = Txt.count (ofl (l.map Sg.c)) (ofl [114, 110]) := rfl
  rw [e]
  simp only [List.length_cons, List.length_nil] at c
  omega
theorem kind1 (l : List Sg) : Builtin.Str.strKind (txt l) = 1 := by
  unfold Builtin.Str.strKind
  rw [if_pos]
  show ((l.map Sg.c).toArray).all (· < 256) = true
  rw [List.all_toArray, List.all_map, List.all_eq_true]
  intro s _
  cases s <;> decide
theorem split_join_txt (l : List Sg) : Txt.join "" (Txt.split (txt l) "rn") = txt (strip l) := by
  have h := split_join (x := l.map Sg.c) (y := [114, 110]) (by decide) ((kind1 l).trans (kind1 [.r, .n]).symm)
  rw [strip_repl l.length l (Nat.le_refl _)] at h
  exact h
end Tu
namespace Tu
open PySem PySem.Spec PyProof.Rows L2 Evl RZ
abbrev sLawIs : Stmt := topS 36
theorem scLawIs : FnScope ["text", "kind", "pieces", "sign"] ["text", "kind"] (defScope sLawIs) := ⟨rfl, rfl, rfl, by decide +kernel, rfl, by decide +kernel, by decide +kernel⟩
theorem dec_kd (c : Kd) (d : Kd) : decide (V.str c.s = V.str d.s) = decide (c = d) := by cases c <;> cases d <;> decide +kernel
theorem mem_txt (g : Sg) (l : List Sg) : decide (g.c ∈ (txt l).cps.toList) = decide (g ∈ l) := by
  have e : (txt l).cps.toList = l.map Sg.c := rfl
  rw [e]
  by_cases h : g ∈ l
  · rw [decide_eq_true h, decide_eq_true (List.mem_map_of_mem h)]
  · rw [decide_eq_false h]
    refine decide_eq_false fun z => ?_
    obtain ⟨g', h1, h2⟩ := List.mem_map.mp z
    have : g' = g := by
      revert h2
      cases g' <;> cases g <;> decide
    exact h (this ▸ h1)
theorem signsV_txt (l : List Sg) : signsV (txt l) = l.map fun g => V.str (sg g) := by
  show (l.map Sg.c).map _ = _
  rw [List.map_map]
  rfl
theorem in_sgs (g : Sg) (l : List Sg) : inV (.str (sg g)) (l.map fun g => V.str (sg g)) = decide (g ∈ l) := by
  unfold inV
  rw [List.any_map, Bool.eq_iff_iff, List.any_eq_true, decide_eq_true_eq]
  constructor
  · rintro ⟨g', h1, h2⟩
    have : g' = g := by
      revert h2
      cases g' <;> cases g <;> decide +kernel
    exact this ▸ h1
  · intro h
    exact ⟨g, h, by cases g <;> decide +kernel⟩
theorem flat_sgs (l : List Sg) : (l.map fun g => V.str (sg g)).all flatV = true := by
  rw [List.all_map, List.all_eq_true]
  intro _ _
  rfl
theorem in_nr (g : Sg) : inV (.str (sg g)) [.str "n", .str "r"] = !decide (g = .a) := by cases g <;> decide +kernel
section
variable {K : PySem.W.Frag} {w : World} {H H' : Hp} {σ : L2.St} {t : TT} {te tl ta tb to : TE} {D : Ends} {tz tu : TS}
theorem ev_kd {c : Kd} {i : Nat} (d : Kd) (hs : σ[i]? = some (some (.str c.s))) : Ev (tOp rEq (tVar i) (tC (.str d.s))) σ H (.bl (decide (c = d))) := by
  have z := ev_op (σ := σ) (H := H) (ev_var hs) (ev_c (v := .str d.s)) (rv_eq rfl)
  rw [dec_kd] at z
  exact z
def rCount : V → List V → Hp → VK → Prop := fun x xs H Q => ∃ a b, x = .str a ∧ xs = [.str b] ∧ Q (.int (Txt.count a b)) H
theorem ev_count {a b : Str} (h : Ev to σ H (.str a)) (h2 : Ev te σ H (.str b)) : Ev (tM1 rCount to te) σ H (.int (Txt.count a b)) := fun H1 e Q q =>
  h H1 e _ fun H2 e2 => ⟨⟨a, rfl⟩, h2 H2 (e.trans e2) _ fun H3 e3 => ⟨a, b, rfl, rfl, q H3 (e2.trans e3)⟩⟩
def rSplit : V → List V → Hp → VK → Prop := fun x xs H Q => ∃ a b, x = .str a ∧ xs = [.str b] ∧ (b.length == 0) = false ∧ a.length + 2 ≤ sizeLine ∧ rNewStrs (Txt.split a b) H Q
theorem el_split {a b : Str} (h : Ev to σ H (.str a)) (h2 : Ev te σ H (.str b)) (hb : (b.length == 0) = false) (ha : a.length ≤ 10000) : EvL (tM1 rSplit to te) σ H ((Txt.split a b).map V.str) := fun H1 e Q q =>
  h H1 e _ fun H2 e2 => ⟨⟨a, rfl⟩, h2 H2 (e.trans e2) _ fun H3 e3 => ⟨a, b, rfl, rfl, hb, sz_of (by omega), fun p hp => q p _ (fresh_back (e2.trans e3) hp) ((e2.trans e3).trans (Ex.new hp)) upd_same⟩⟩
theorem el_listS {a : Str} (h : Ev te σ H (.str a)) (ha : a.cps.size ≤ 100000) : EvL (tCB (fun xs H Q => ∃ x : Str, xs = [V.str x] ∧ x.cps.size ≤ sizeLine ∧ ∀ p, H p = none → Q (.ref p) (upd H p (.lst (signsV x)))) (tCons te tNil)) σ H (signsV a) := fun H1 e Q q =>
  h H1 e _ fun H2 e2 => ⟨a, rfl, sz_of ha, fun p hp => q p _ (fresh_back e2 hp) (e2.trans (Ex.new hp)) upd_same⟩
/-- sep.join of texts that are parts of another -/
theorem ev_joinS {p : Addr} {ys : List Str} (h : Ev te σ H (.ref p)) (hp : SqL K H p (ys.map V.str)) (hb : (ys.map (·.length)).sum ≤ 10000000) : Ev (tM1 (rJoin K) (tC (.str "")) te) σ H (.str (Txt.join "" ys)) := fun H1 e Q q =>
  ⟨⟨_, rfl⟩, h H1 e _ fun H2 e2 => ⟨_, p, ys, rfl, rfl, .inl (ex_l (e.trans e2) hp), by
    show _ + _ * 0 ≤ _
    omega, q H2 e2⟩⟩
theorem ev_any {bs : List Bool} (h : EvL tl σ H (bs.map V.bl)) : Ev (tCB (rAny K) (tCons tl tNil)) σ H (.bl (bs.any id)) := fun H1 e Q q =>
  h H1 e _ fun p H2 hp e2 hl => ⟨p, bs, rfl, sq_of hl, q H2 e2⟩
theorem ev_chain {r r' : R2} {x y z : V} {b : Bool} {tc : TE} {v : V} (ha : Ev ta σ H x) (hb : Ev tb σ H y) (hr : RV r x y H (.bl b)) (hc : b = true → Ev tc σ H z) (hr' : b = true → RV r' y z H v) (hf : b = false → v = .bl false) : Ev (tChain r r' ta tb tc) σ H v := fun H1 e Q q =>
  ha H1 e _ fun H2 e2 => hb H2 (e.trans e2) _ fun H3 e3 => hr H3 ((e.trans e2).trans e3) _ fun H4 e4 => ⟨b, rfl, by
    have e14 := (e2.trans e3).trans e4
    cases b with
    | true => exact iteT (hc rfl H4 (e.trans e14) _ fun H5 e5 => hr' rfl H5 (e.trans (e14.trans e5)) _ fun H6 e6 => q H6 (e14.trans (e5.trans e6)))
    | false =>
      rw [hf rfl] at q
      exact iteF (q H4 e14)⟩
end
theorem split_sum (a b : Str) : ((Txt.split a b).map (·.length)).sum ≤ a.length := by
  unfold Txt.split
  split
  · simp
  · split
    · simp
    · have hg : (Builtin.Str.glued b (Builtin.Str.partsBetween a (Builtin.Str.occurrences a b 0 a.length (a.length + 1)) b.length)).length = a.length := by rw [StrLaws.glued_between_self]
      rw [size_glued] at hg
      omega
section
variable {P : Program} {w : World} {K : PySem.W.Frag} {mg : Str → Option Value} {base : Heap} {H H' : Hp}
def spIs (K : PySem.W.Frag) : Sp := fun vs H Q _ => ∃ (l : List Sg) (k : Kd), vs = [.str (txt l), .str k.s] ∧ l.length ≤ 1000 ∧ RetV (.bl (kindL k l)) H Q
theorem ok_isOf {f fT fK : Addr} {fd fdT fdK : FuncData} {k : Nat} (F : Fun K "is_of" "is_of" sIsOf f fd) (GT : FnOk P w K mg base CX0 k fT fdT ["text"] (spChkText K)) (kT : PySem.W.keepIn K (.ref fT) = true) (bT : Binds K fdT ["text"] []) (gT : mg "check_text" = some (.ref fT))
    (GK : FnOk P w K mg base CX0 k fK fdK ["kind"] (spChkKind K)) (kK : PySem.W.keepIn K (.ref fK) = true) (bK : Binds K fdK ["kind"] []) (gK : mg "check_kind" = some (.ref fK)) :
    FnOk P w K mg base CX0 (k + 1) f fd ["text", "kind"] (spIs K) := by
  refine F.ok scIsOf (fun vs H Q E h => ?_) (fun cdv A outer s H vs Q E hr h => ?_)
  · obtain ⟨l, k, rfl, _⟩ := h
    rfl
  · obtain ⟨l, kd, rfl, hl, q⟩ := h
    refine ⟨_, pss_cons (ps_expr (pe_call GT hr (by rfl) gT kT bT .nil pass0 (pa_cons (pv 0) pa_nil)))
      (pss_cons (ps_expr (pe_call GK hr (by rfl) gK kK bK .nil pass0 (pa_cons (pv 1) pa_nil)))
      (pss_cons (ps_if (pt_cmpR op_eq (pv 1) pe_str (nomark _)) (pss_one (ps_ret (pe_cmpR op_notIn_sign pe_str (pv 0) rfl))) pss_nil)
      (pss_cons (ps_if (pt_cmpR op_eq (pv 1) pe_str (nomark _)) (pss_one (ps_ret (pe_cmpR op_notIn_sign pe_str (pv 0) rfl))) pss_nil)
      (pss_cons (ps_if (pt_cmpR op_eq (pv 1) pe_str (nomark _)) (pss_one (ps_ret (pe_chain op_eq op_eq (pe_m1 PySem.F.slot_str_count PySem.F.type_str_count mt_count (pv 0) pe_str) (pe_m1 PySem.F.slot_str_count PySem.F.type_str_count mt_count (pv 0) pe_str) (pe_m1 PySem.F.slot_str_count PySem.F.type_str_count mt_count (pv 0) pe_str)))) pss_nil)
      (pss_one (ps_ret pe_bl)))))), ?_⟩
    refine q_drop (ev_call (vs := [.str (txt l)]) (ea_cons (ev_var rfl) ea_nil) (fun H1 e1 Q q E => ⟨l, rfl, by omega, q⟩)) fun H1 e1 => ?_
    refine q_drop (ev_call (vs := [.str kd.s]) (ea_cons (ev_var rfl) ea_nil) (fun H2 e2 Q q E => ⟨kd, rfl, q⟩)) fun H2 e2 => ?_
    have e12 := e1.trans e2
    have nsig : ∀ (g : Sg) {σ : L2.St} {H3 : Hp}, σ[0]? = some (some (.str (txt l))) → Ev (tOp (fun x y H Q => ∃ (c : Nat) (z : Str), x = V.str ⟨#[c]⟩ ∧ y = .str z ∧ Q (.bl (!decide (c ∈ z.cps.toList))) H) (tC (.str (sg g))) (tVar 0)) σ H3 (.bl (!decide (g ∈ l))) := fun g σ H3 hs =>
      ev_op ev_c (ev_var hs) fun H4 _ Q q => ⟨g.c, txt l, rfl, rfl, by
        rw [mem_txt]
        exact q H4 (Ex.refl H4)⟩
    refine q_when (et_test (ev_kd .bare rfl)) (fun hb H3 e3 => ?_) (fun hb H3 e3 => ?_)
    · have hk := of_decide_eq_true hb
      subst hk
      refine s_ret (nsig .r rfl) fun H4 e4 => ?_
      have z := q H4 (e12.trans (e3.trans e4))
      rw [show kindL .bare l = (!decide (Sg.r ∈ l)) by simp [kindL]] at z
      exact z
    · refine q_when (et_test (ev_kd .lone rfl)) (fun hb2 H4 e4 => ?_) (fun hb2 H4 e4 => ?_)
      · have hk := of_decide_eq_true hb2
        subst hk
        refine s_ret (nsig .n rfl) fun H5 e5 => ?_
        have z := q H5 (e12.trans (e3.trans (e4.trans e5)))
        rw [show kindL .lone l = (!decide (Sg.n ∈ l)) by simp [kindL]] at z
        exact z
      · refine q_when (et_test (ev_kd .paired rfl)) (fun hb3 H5 e5 => ?_) (fun hb3 H5 e5 => ?_)
        · have hk := of_decide_eq_true hb3
          subst hk
          have cv : ∀ {a b : Nat}, decide (V.int (a : Int) = V.int (b : Int)) = decide (a = b) := fun {a b} => by
            by_cases h : a = b
            · subst h
              simp
            · rw [decide_eq_false h, decide_eq_false (fun z => h (by injection z with z; omega))]
          have cr := ev_count (σ := [some (.str (txt l)), some (.str Kd.paired.s)]) (H := H5) (ev_var (i := 0) rfl) (ev_c (v := .str "r"))
          have cn := ev_count (σ := [some (.str (txt l)), some (.str Kd.paired.s)]) (H := H5) (ev_var (i := 0) rfl) (ev_c (v := .str "n"))
          have cp := ev_count (σ := [some (.str (txt l)), some (.str Kd.paired.s)]) (H := H5) (ev_var (i := 0) rfl) (ev_c (v := .str "rn"))
          rw [count_r] at cr
          rw [count_n] at cn
          rw [count_rn] at cp
          refine s_ret (v := .bl (kindL .paired l)) (ev_chain (b := decide (l.count .r = l.count .n)) cr cn (by rw [← cv]; exact rv_eq rfl) (fun _ => cp) (fun hb => ?_) (fun hb => ?_)) fun H6 e6 => q H6 (e12.trans (e3.trans (e4.trans (e5.trans e6))))
          · rw [paired_count, hb, Bool.true_and, ← cv]
            exact rv_eq rfl
          · rw [paired_count, hb, Bool.false_and]
        · have hk : kd = .any := by
            cases kd
            · rfl
            · exact absurd rfl (of_decide_eq_false hb)
            · exact absurd rfl (of_decide_eq_false hb2)
            · exact absurd rfl (of_decide_eq_false hb3)
          subst hk
          refine s_ret (v := .bl true) ev_c fun H6 e6 => ?_
          exact q H6 (e12.trans (e3.trans (e4.trans (e5.trans e6))))
theorem ok_lawIs {f : Addr} {fd : FuncData} {k : Nat} (F : Fun K "_law_is_of" "_law_is_of" sLawIs f fd) (ml : mg "list" = none) (ma : mg "any" = none) : FnOk P w K mg base CX0 (k + 1) f fd ["text", "kind"] (spIs K) := by
  refine F.ok scLawIs (fun vs H Q E h => ?_) (fun cdv A outer s H vs Q E hr h => ?_)
  · obtain ⟨l, k, rfl, _⟩ := h
    rfl
  · obtain ⟨l, kd, rfl, hl, q⟩ := h
    have nd := scLawIs.nd
    refine ⟨_, pss_cons (ps_if (pt_cmpR op_in_seq (pv 1) (pe_tup (pa_cons pe_str (pa_cons pe_str pa_nil))) rfl) (pss_one (ps_ret (pe_cmpR op_notIn_seq (pe_ifExp (pt_cmpR op_eq (pv 1) pe_str (nomark _)) pe_str pe_str) (pe_callTy (call_list_txt rfl) (by rfl) ml (by decide +kernel) (pa_cons (pv 0) pa_nil)) rfl))) pss_nil)
      (pss_cons (ps_if (pt_cmpR op_eq (pv 1) pe_str (nomark _)) (pss_one (ps_ret pe_bl)) pss_nil)
      (pss_cons (ps_set (i := 2) nd rfl (.inl rfl) (pe_split (pv 0) pe_str))
      (pss_one (ps_ret (pe_not (pe_callB (cr_any rfl) (by rfl) ma (by decide +kernel) (pa_cons
        (pe_lc (own := [("sign", 3)]) (g := gName 3) (by rfl) nd (pi_list (pe_callTy (call_list_txt rfl) (by rfl) ml (by decide +kernel) (pa_cons (pe_join pe_str (pv 2)) pa_nil))) (blkOk_by (N := ["text", "kind", "pieces", "sign"]) (sc := defScope sLawIs) (by decide +kernel)) (fun _ _ _ _ _ => pg_name (i := 3) nd rfl (Or.inl rfl)) (fun _ _ _ _ _ => pts_nil)
          (fun _ _ _ _ _ => pe_cmpR (r := rIn K false) op_in_seq (pv 3) (pe_tup (pa_cons pe_str (pa_cons pe_str pa_nil))) rfl)) pa_nil))))))), ?_⟩
    have z1 := ev_inU (K := K) (σ := L2.start ["text", "kind", "pieces", "sign"] [.str (txt l), .str kd.s]) (H := H) (ev_var (i := 1) (v := .str kd.s) rfl) (eu_tup (vs := [.str "bare", .str "lone"]) (ea_cons ev_c (ea_cons ev_c ea_nil)) (by simp)) rfl rfl
    rw [show inV (.str kd.s) [.str "bare", .str "lone"] = (decide (kd = .bare) || decide (kd = .lone)) by cases kd <;> decide +kernel] at z1
    refine q_when (et_test z1) (fun hb H1 e1 => ?_) (fun hb H1 e1 => ?_)
    · have two : ∃ g : Sg, g = (if kd = .bare then Sg.r else Sg.n) ∧ kindL kd l = !decide (g ∈ l) := by
        cases kd
        · cases hb
        · exact ⟨.r, rfl, by simp [kindL]⟩
        · exact ⟨.n, rfl, by simp [kindL]⟩
        · cases hb
      obtain ⟨g, hg, hk⟩ := two
      rw [hk] at q
      have hls := el_listS (σ := L2.start ["text", "kind", "pieces", "sign"] [.str (txt l), .str kd.s]) (H := H1) (ev_var (i := 0) rfl) (a := txt l) (by rw [show (txt l).cps.size = (txt l).length from rfl, txt_len]; omega)
      rw [signsV_txt] at hls
      refine s_ret (ev_opL (x := .str (sg g)) (ev_if (et_test (ev_kd .bare rfl)) (fun hb2 => ?_) (fun hb2 => ?_)) hls fun p H2 hp e2 => ?_) fun H2 e2 => q H2 (e1.trans e2)
      · rw [hg, if_pos (of_decide_eq_true hb2)]
        exact ev_c
      · rw [hg, if_neg (of_decide_eq_false hb2)]
        exact ev_c
      · have z := rv_niL (K := K) (H := H2) (sq_of hp) (x := .str (sg g)) rfl (flat_sgs l)
        rw [in_sgs] at z
        exact z
    · refine q_when (et_test (ev_kd .any rfl)) (fun hb2 H2 e2 => ?_) (fun hb2 H2 e2 => ?_)
      · have hk := of_decide_eq_true hb2
        subst hk
        refine s_ret (v := .bl true) ev_c fun H3 e3 => ?_
        exact q H3 (e1.trans (e2.trans e3))
      · have hk : kd = .paired := by
          cases kd
          · exact absurd rfl (of_decide_eq_false hb2)
          · cases hb
          · cases hb
          · rfl
        subst hk
        refine q_asgL (el_split (b := "rn") (ev_var rfl) ev_c (by decide +kernel) (by rw [txt_len]; omega)) fun p H3 hp e3 h3 => ?_
        have hsl : (strip l).length ≤ 1000 := by have := strip_len l; omega
        have hj := ev_joinS (K := K) (σ := [some (.str (txt l)), some (.str Kd.paired.s), some (.ref p), none]) (ev_var (i := 2) rfl) (sq_of h3) (by have := split_sum (txt l) "rn"; rw [txt_len] at this; omega)
        rw [split_join_txt] at hj
        have hls := el_listS hj (by rw [show (txt (strip l)).cps.size = (txt (strip l)).length from rfl, txt_len]; omega)
        rw [signsV_txt] at hls
        have hany : EvL (tLc (iList K (tCB (fun xs H Q => ∃ x : Str, xs = [V.str x] ∧ x.cps.size ≤ sizeLine ∧ ∀ p, H p = none → Q (.ref p) (upd H p (.lst (signsV x)))) (tCons (tM1 (rJoin K) (tC (.str "")) (tVar 2)) tNil))) (gName 3) tYes
            (tOp (rIn K false) (tVar 3) (tTup (tCons (tC (.str "n")) (tCons (tC (.str "r")) tNil)))) [3]) [some (.str (txt l)), some (.str Kd.paired.s), some (.ref p), none] H3 (((strip l).map fun g => !decide (g = .a)).map V.bl) := by
          have z := el_lcNL (K := K) (j := 3) (vs := [3]) (t := tYes) (te := tOp (rIn K false) (tVar 3) (tTup (tCons (tC (.str "n")) (tCons (tC (.str "r")) tNil)))) (fun _ => true) (fun i => .bl (((strip l)[i]?.map fun g => !decide (g = .a)).getD false)) hls (by rw [List.length_map]; omega) (fun _ => rfl) (fun _ _ _ _ _ => et_yes) (fun i x H4 e4 hx _ => by
            rw [List.getElem?_map] at hx
            cases hg : (strip l)[i]? with
            | none => rw [hg] at hx; cases hx
            | some g =>
              rw [hg] at hx
              have ex := Option.some.inj hx
              subst ex
              have z := ev_inU (K := K) (σ := [some (.str (txt l)), some (.str Kd.paired.s), some (.ref p), some (.str (sg g))]) (H := H4) (ev_var (i := 3) (v := .str (sg g)) rfl) (eu_tup (vs := [.str "n", .str "r"]) (ea_cons ev_c (ea_cons ev_c ea_nil)) (by simp)) rfl rfl
              rw [in_nr] at z
              exact z)
          rw [given_all _ _ _ (fun i => .bl (((strip l)[i]?.map fun g => !decide (g = .a)).getD false)) (fun _ => rfl) (fun _ _ => rfl), List.length_map] at z
          rw [show (List.range (strip l).length).map (fun i => V.bl (((strip l)[i]?.map fun g => !decide (g = .a)).getD false)) = ((strip l).map fun g => !decide (g = .a)).map V.bl by
            refine List.ext_getElem (by simp) fun i h1 h2 => ?_
            simp at h2
            simp [List.getElem?_eq_getElem h2]] at z
          exact z
        refine s_ret (v := .bl (kindL .paired l)) (ev_is (ev_notV (ev_any hany)) ?_) fun H4 e4 => q H4 (e1.trans (e2.trans (e3.trans e4)))
        show V.bl (!_) = V.bl ((strip l).all fun s => decide (s = .a))
        congr 1
        rw [List.any_map, List.not_any_eq_all_not]
        congr 1
        funext g
        simp
end
end Tu
namespace Tu
open PySem PySem.Spec PyProof.Rows L2 Evl RZ CwR
open PySem.StrLaws (replL replL_nil)
abbrev sLaw : Stmt := topS 39
abbrev nLaw : List Str := ["script", "draw", "turn", "way", "text", "pair", "some", "word", "place", "kind"]
theorem scLaw : FnScope nLaw ["script"] (defScope sLaw) := ⟨rfl, rfl, rfl, by decide +kernel, rfl, by decide +kernel, by decide +kernel⟩
/-! ### a token is out behind a written text -/
structure PE1 (X : Cx) (e : Expr) (t : TE) : Prop where
  run : ∀ (pins : List (Addr × Obj)) (s : Shared) (σ : L2.St) (H : Hp) (Q : VK), Inv X pins σ H s → t σ H Q → wpAny (model X.prog X.w) X.A (eval e X.env) (fun u s' => 1 ≤ s'.toks ∧ EP X pins σ Q u s') X.xe s
theorem pe1_addK {X : Cx} {a : Expr} {c : Str} {j : Nat} {cp pos : Pos} {r : R2} {ta : TE} (ho : OpR X (binaryOp .Add) r) (ha : PE X a ta) : PE1 X (.BinOp a .Add (.Constant (.str c) j cp) pos) (tOp r ta (tC (.str c))) := by
  constructor
  intro pins s σ H Q I h
  refine wpAny_BinOp (thn (ha.run pins s σ H _ I h) ?_)
  rintro v s1 ⟨x, H1, I1, r1, q1⟩
  refine Calls.Constant_str ?_
  have z := ho pins { s1 with toks := s1.toks + 1 } σ H1 x (.str c) v (.str c s1.toks) Q (I1.tok _) r1 ⟨_, rfl⟩ q1
  refine wpAny_mono (PySem.wpAny_toks z) ?_ (fun _ _ z => z.2)
  rintro u s2 ⟨hk, e⟩
  exact ⟨Nat.le_trans (Nat.succ_le_succ (Nat.zero_le _)) hk, e⟩
theorem pa1_cons {X : Cx} {e : Expr} {es : List Expr} {te : TE} {ta : TA} (ha : PE1 X e te) (hr : PAT X es ta) (hs : starEach (e :: es) X.env = (false, eval e X.env) :: starEach es X.env := by rfl) : PA X (e :: es) (tCons te ta) := by
  constructor
  intro pos pins s σ H Q I h
  rw [hs]
  refine Calls.spliced_cons (wpAny_mono (ha.run pins s σ H _ I h) ?_ (fun _ _ z => z))
  rintro v s1 ⟨hk, x, H1, I1, r1, q1⟩
  refine wpAny_mono (hr pos pins s1 σ H1 _ hk I1 q1) ?_ (fun _ _ z => z)
  rintro us s2 ⟨xs, H2, I2, r2, q2⟩
  exact ⟨x :: xs, H2, I2, .cons r1 r2, q2⟩
theorem repl_r (l : List Sg) : Txt.replace (txt l) "r" "" = txt (l.filter fun s => !decide (s = .r)) := by
  have h := replace_ofl (x := l.map Sg.c) (y := [114]) (z := []) (by decide)
  have e : replL [114] [] (l.map Sg.c) = (l.filter fun s => !decide (s = .r)).map Sg.c := by
    clear h
    induction l with
    | nil => exact replL_nil
    | cons s l ih =>
      cases s
      · rw [List.map_cons, show Sg.c .a = 97 from rfl, r1_miss (by decide), ih]
        rfl
      · rw [List.map_cons, show Sg.c .n = 110 from rfl, r1_miss (by decide), ih]
        rfl
      · rw [List.map_cons, show Sg.c .r = 114 from rfl, r1_hit, ih]
        rfl
  rw [e] at h
  exact h
theorem dp_same {K : PySem.W.Frag} {H : Hp} : ∀ bs : List Bool, DpAll K H (bs.map V.bl) (bs.map PyData.bool)
  | [] => .nil
  | b :: bs => .cons (.bl b) (dp_same bs)
theorem bools_flat : ∀ ns : List Bool, (ns.map PyData.bool).all flatD = true
  | [] => rfl
  | _ :: ns => bools_flat ns
theorem dp_strs {K : PySem.W.Frag} {H : Hp} : ∀ bs : List Str, DpAll K H (bs.map V.str) (bs.map PyData.str)
  | [] => .nil
  | b :: bs => .cons (.str b) (dp_strs bs)
theorem eqv_flat {ds : List PyData} (h : ds.all flatD = true) : PyData.eqv (.list ds) (.list ds) = true := SeqAt.eqv_refl _ (by simp only [PyData.canLay0]; exact flat_lay ds h)
theorem eqv_flatT {ds : List PyData} (h : ds.all flatD = true) : PyData.eqv (.tuple ds) (.tuple ds) = true := SeqAt.eqv_refl _ (by simp only [PyData.canLay0]; exact flat_lay ds h)
section
variable {K : PySem.W.Frag} {w : World} {H H' : Hp} {σ : L2.St} {t : TT} {te tl ta tb to : TE} {D : Ends} {tz tu : TS}
theorem rv_neB {p q : Addr} {bs : List Bool} (h1 : SqL K H p (bs.map V.bl)) (h2 : SqL K H q (bs.map V.bl)) : RV (rNeD K) (.ref p) (.ref q) H (.bl false) := fun H1 e Q k =>
  ⟨_, _, .lst (ex_l e h1) (dp_same bs), .lst (ex_l e h2) (dp_same bs), shaped_fl (bools_flat bs), shaped_fl (bools_flat bs), by rw [eqv_flat (bools_flat bs)]; exact k H1 (Ex.refl H1)⟩
theorem rv_neS {p q : Addr} {bs : List Str} (h1 : SqT K H p (bs.map V.str)) (h2 : SqT K H q (bs.map V.str)) (hf : (bs.map PyData.str).all flatD = true) : RV (rNeD K) (.ref p) (.ref q) H (.bl false) := fun H1 e Q k =>
  ⟨_, _, .tup (ex_t e h1) (dp_strs bs), .tup (ex_t e h2) (dp_strs bs), shaped_ft hf, shaped_ft hf, by rw [eqv_flatT hf]; exact k H1 (Ex.refl H1)⟩
theorem rv_eqS {p q : Addr} {bs : List Str} (h1 : SqT K H p (bs.map V.str)) (h2 : SqT K H q (bs.map V.str)) (hf : (bs.map PyData.str).all flatD = true) : RV (rEqD K) (.ref p) (.ref q) H (.bl true) := fun H1 e Q k =>
  ⟨_, _, .tup (ex_t e h1) (dp_strs bs), .tup (ex_t e h2) (dp_strs bs), shaped_ft hf, shaped_ft hf, by rw [eqv_flatT hf]; exact k H1 (Ex.refl H1)⟩
theorem ev_replC {a y z : Str} (h : Ev to σ H (.str a)) (hb : a.length + (a.length + 1) * z.length ≤ 16777216) : Ev (tReplC to y z) σ H (.str (Txt.replace a y z)) := fun H1 e Q q => h H1 e _ fun H2 e2 => ⟨a, rfl, hb, q H2 e2⟩
/-- for x in a new tuple -/
theorem q_forNT {xs : List V} {tl : TE} {j : Nat} (h : EvU tl σ H xs) (Pv : Hp → Nat → L2.St → Hp → Prop) (h0 : ∀ H1, Ex H H1 → Pv H1 0 σ H1) (hk : ∀ H1 i σ' H', Pv H1 i σ' H' → Ex H1 H')
    (hs : ∀ H1, Ex H H1 → ∀ i x σ' H', xs[i]? = some x → Pv H1 i σ' H' → tu { D with nx := Pv H1 (i + 1), ct := Pv H1 (i + 1), bk := tz D } (σ'.set j (some x)) H')
    (hd : ∀ H1, Ex H H1 → ∀ σ' H', Pv H1 xs.length σ' H' → tz D σ' H') : tSeq (tFor (iTup K tl) (gName j) tu) tz D σ H := h H (Ex.refl H) _ fun p H1 hp e1 h1 => ⟨p, rfl, ⟨xs, st_of h1⟩,
  for_tup (D := { D with nx := tz D }) (Pv H1) (h0 H1 e1) (fun i σ' H' _ p' => st_of (hk _ _ _ _ p' _ _ h1)) (fun i x σ' H' hx p' => hs H1 e1 i x σ' H' hx p') (hd H1 e1)⟩
/-- the same test of all four kinds -/
theorem el_kinds {x0 x1 x2 x3 x4 x5 x7 x8 x9 : Option V} {aK : Addr} {g : List Sg} (tK : ∀ H, SqT K H aK (kindV kinds)) (hg : g.length ≤ 1000) :
    EvL (tLc (iTup K (tC (.ref aK))) (gName 9) tYes (tCall (spIs K) [] E0 (tCons (tVar 6) (tCons (tVar 9) tNil))) [9]) [x0, x1, x2, x3, x4, x5, some (.str (txt g)), x7, x8, x9] H ((kinds.map fun k => kindL k g).map V.bl) := by
  have z := el_lcT (K := K) (σ := [x0, x1, x2, x3, x4, x5, some (.str (txt g)), x7, x8, x9]) (H := H) (a := aK) (xs := kindV kinds) (j := 9) (vs := [9]) (t := tYes) (te := tCall (spIs K) [] E0 (tCons (tVar 6) (tCons (tVar 9) tNil))) (fun _ => true)
    (fun i => .bl ((kinds[i]?.map fun k => kindL k g).getD false)) (ev_c (v := .ref aK)) (tK H) (by decide) (fun _ => rfl) (fun _ _ _ _ _ => et_yes) (fun i x H4 e4 hx _ => by
      unfold kindV at hx
      rw [List.getElem?_map] at hx
      cases hk : kinds[i]? with
      | none => rw [hk] at hx; cases hx
      | some kd =>
        rw [hk] at hx
        have ex := Option.some.inj hx
        subst ex
        exact ev_call (vs := [.str (txt g), .str kd.s]) (ea_cons (ev_var rfl) (ea_cons (ev_var rfl) ea_nil)) fun H5 e5 Q q E => ⟨g, kd, rfl, hg, q⟩)
  rw [given_all _ _ _ (fun i => .bl ((kinds[i]?.map fun k => kindL k g).getD false)) (fun _ => rfl) (fun _ _ => rfl)] at z
  exact z
end
theorem conv_parts : ∀ acc : List V, (∀ v ∈ acc, ∃ g : List Sg, v = .str (txt g) ∧ g.length ≤ 2) → ∃ ls : List (List Sg), acc = txtV ls ∧ ls.flatten.length ≤ 2 * ls.length
  | [], _ => ⟨[], rfl, Nat.le_refl _⟩
  | v :: acc, h => by
    obtain ⟨g, e, hg⟩ := h v (List.mem_cons_self ..)
    obtain ⟨ls, e2, hl⟩ := conv_parts acc fun x hx => h x (List.mem_cons_of_mem _ hx)
    exact ⟨g :: ls, by rw [e, e2]; rfl, by rw [List.flatten_cons, List.length_append, List.length_cons]; omega⟩
structure LawG (P : Program) (w : World) (K : PySem.W.Frag) (mg : Str → Option Value) (base : Heap) (x : Str) (k : Nat) (ps : List Str) (sp : Sp) : Prop where
  ex : ∃ f fd, FnOk P w K mg base CX0 k f fd ps sp ∧ PySem.W.keepIn K (.ref f) = true ∧ Binds K fd ps [] ∧ mg x = some (.ref f)
section
variable {P : Program} {w : World} {K : PySem.W.Frag} {mg : Str → Option Value} {base : Heap} {H H' : Hp}
def spLaw (K : PySem.W.Frag) : Sp := fun vs H Q _ => ∃ (a : Addr) (ns : List Int), vs = [.ref a] ∧ SqL K H a (ns.map V.int) ∧ ns.length ≤ 63 ∧ ∀ H', Q (.bl true) H'
theorem ok_law {f aK aC : Addr} {fd : FuncData} (F : Fun K "law" "law" sLaw f fd) (gWay : LawG P w K mg base "_law_way" 4 ["draw", "most"] (spWay K)) (gText : LawG P w K mg base "_law_text" 4 ["draw", "most"] (spText K))
    (gTurn : LawG P w K mg base "turned" 2 ["way", "text"] (spTurned K)) (gMade : LawG P w K mg base "_law_made" 2 ["way", "text"] (spMade K)) (gWalk : LawG P w K mg base "_law_walk" 5 ["way", "text"] (spWalk K))
    (gTake : LawG P w K mg base "_law_take" 3 ["draw", "many"] (spTake K)) (gPick : LawG P w K mg base "_law_pick" 3 ["draw", "things"] (spPick K)) (gIs : LawG P w K mg base "is_of" 2 ["text", "kind"] (spIs K)) (gLis : LawG P w K mg base "_law_is_of" 1 ["text", "kind"] (spIs K))
    (gBy : LawG P w K mg base "_law_by" 1 ["word", "text"] (spBy K)) (mr : mg "range" = none) (mK : mg "KINDS" = some (.ref aK)) (tK : ∀ H, SqT K H aK (kindV kinds)) (mC : mg "CONVERSIONS" = some (.ref aC)) (tC : ∀ H, SqT K H aC (wayV allCv)) :
    FnOk P w K mg base CX0 6 f fd ["script"] (spLaw K) := by
  obtain ⟨fWay, dWay, GWay, kWay, bWay, mWay⟩ := gWay.ex
  obtain ⟨fText, dText, GText, kText, bText, mText⟩ := gText.ex
  obtain ⟨fTurn, dTurn, GTurn, kTurn, bTurn, mTurn⟩ := gTurn.ex
  obtain ⟨fMade, dMade, GMade, kMade, bMade, mMade⟩ := gMade.ex
  obtain ⟨fWalk, dWalk, GWalk, kWalk, bWalk, mWalk⟩ := gWalk.ex
  obtain ⟨fTake, dTake, GTake, kTake, bTake, mTake⟩ := gTake.ex
  obtain ⟨fPick, dPick, GPick, kPick, bPick, mPick⟩ := gPick.ex
  obtain ⟨fIs, dIs, GIs, kIs, bIs, mIs⟩ := gIs.ex
  obtain ⟨fLis, dLis, GLis, kLis, bLis, mLis⟩ := gLis.ex
  obtain ⟨fBy, dBy, GBy, kBy, bBy, mBy⟩ := gBy.ex
  refine F.ok scLaw (fun vs H Q E h => ?_) (fun cdv A outer s H vs Q E hr h => ?_)
  · obtain ⟨a, ns, rfl, _⟩ := h
    rfl
  · obtain ⟨a, ns, rfl, hS, hlen, q⟩ := h
    have nd := scLaw.nd
    refine ⟨_, pss_cons (ps_set (i := 1) nd rfl (.inr rfl) (pe_lst (pa_cons (pv 0) (pa_cons pe_int pa_nil))))
      (pss_cons (ps_for PassesOwn.never rfl (pi_range1 (by rfl) mr (pa_cons pe_int pa_nil)) (pg_name (i := 2) nd rfl (.inl rfl))
        (pss_cons (ps_par (i := 3) (j := 4) (by rfl) nd rfl rfl (by decide) rfl rfl
            (pa_cons (pe_call GWay (hr.mono (by decide)) (by rfl) mWay kWay bWay .nil pass0 (pa_cons (pv 1) (pa_cons pe_int pa_nil))) (pa_cons (pe_call GText (hr.mono (by decide)) (by rfl) mText kText bText .nil pass0 (pa_cons (pv 1) (pa_cons pe_int pa_nil))) pa_nil)) (by rfl))
        (pss_cons (ps_if (PW.pt (pw_or (pt_cmpR op_ne (pe_call GTurn (hr.mono (by decide)) (by rfl) mTurn kTurn bTurn .nil pass0 (pa_cons (pv 3) (pa_cons (pv 4) pa_nil))) (pe_call GMade (hr.mono (by decide)) (by rfl) mMade kMade bMade .nil pass0 (pa_cons (pv 3) (pa_cons (pv 4) pa_nil))) (nomark _))
            (pw_or1 (pt_cmpR op_ne (pe_call GWalk hr (by rfl) mWalk kWalk bWalk .nil pass0 (pa_cons (pv 3) (pa_cons (pv 4) pa_nil))) (pe_call GMade (hr.mono (by decide)) (by rfl) mMade kMade bMade .nil pass0 (pa_cons (pv 3) (pa_cons (pv 4) pa_nil))) (nomark _))))) (pss_one ps_never) pss_nil)
        (pss_cons (ps_set (i := 5) nd rfl (.inl rfl) (pe_join pe_str
            (pe_lc (own := [("place", 8)]) (g := gName 8) (by rfl) nd (pi_range1 (by rfl) mr (pa_cons (pe_call GTake (hr.mono (by decide)) (by rfl) mTake kTake bTake .nil pass0 (pa_cons (pv 1) (pa_cons pe_int pa_nil))) pa_nil))
              (blkOk_by (N := nLaw) (sc := defScope sLaw) (by decide +kernel)) (fun _ _ _ _ _ => pg_name (i := 8) nd rfl (Or.inl rfl)) (fun _ _ _ _ _ => pts_nil)
              (fun _ _ _ _ _ => pe_call GPick (hr.mono (by decide)) (by rfl) mPick kPick bPick .nil pass0 (pa_cons (pv 1) (pa_cons (pe_lst (pa_cons pe_str (pa_cons pe_str (pa_cons pe_str pa_nil)))) pa_nil))))))
        (pss_cons (ps_for PassesOwn.never rfl (pi_tup (pe_tup (pa_cons (pv 4) (pa_cons (pv 5) (pa1_cons (pe1_addK op_add_str (pv 5)) (pat_cons (PET.of (pe_op op_add_str pe_str (pv 5))) (pat_cons (pet_replC (pv 4)) pat_nil))))))) (pg_name (i := 6) nd rfl (.inr rfl))
          (pss_one (ps_if (pt_cmpR (op_neD hr.units)
              (pe_lc (own := [("kind", 9)]) (g := gName 9) (by rfl) nd (pi_tup (pe_glob (v := .ref aK) (by rfl) mK rfl)) (blkOk_by (N := nLaw) (sc := defScope sLaw) (by decide +kernel)) (fun _ _ _ _ _ => pg_name (i := 9) nd rfl (Or.inl rfl)) (fun _ _ _ _ _ => pts_nil)
                (fun _ _ _ _ _ => pe_call GIs (hr.mono (by decide)) (by rfl) mIs kIs bIs .nil pass0 (pa_cons (pv 6) (pa_cons (pv 9) pa_nil))))
              (pe_lc (own := [("kind", 9)]) (g := gName 9) (by rfl) nd (pi_tup (pe_glob (v := .ref aK) (by rfl) mK rfl)) (blkOk_by (N := nLaw) (sc := defScope sLaw) (by decide +kernel)) (fun _ _ _ _ _ => pg_name (i := 9) nd rfl (Or.inl rfl)) (fun _ _ _ _ _ => pts_nil)
                (fun _ _ _ _ _ => pe_call GLis (hr.mono (by decide)) (by rfl) mLis kLis bLis .nil pass0 (pa_cons (pv 6) (pa_cons (pv 9) pa_nil)))) (nomark _)) (pss_one ps_never) pss_nil)))
        (pss_one (ps_for PassesOwn.never rfl (pi_tup (pe_glob (v := .ref aC) (by rfl) mC rfl)) (pg_name (i := 7) nd rfl (.inl rfl))
          (pss_one (ps_if (pt_cmpR op_ne (pe_call GTurn (hr.mono (by decide)) (by rfl) mTurn kTurn bTurn .nil pass0 (pa_cons (pe_tup (pa_cons (pv 7) pa_nil)) (pa_cons (pv 4) pa_nil))) (pe_call GBy (hr.mono (by decide)) (by rfl) mBy kBy bBy .nil pass0 (pa_cons (pv 7) (pa_cons (pv 4) pa_nil))) (nomark _)) (pss_one ps_never) pss_nil)))))))))
      (pss_cons (ps_if (pt_cmpR (op_neD hr.units) (pe_glob (v := .ref aK) (by rfl) mK rfl) (pe_tup (pa_cons pe_str (pa_cons pe_str (pa_cons pe_str (pa_cons pe_str pa_nil))))) (nomark _)) (pss_one ps_never) pss_nil)
      (pss_one (ps_ret (pe_cmpR (op_eqD hr.units) (pe_glob (v := .ref aC) (by rfl) mC rfl) (pe_tup (pa_cons pe_str (pa_cons pe_str (pa_cons pe_str (pa_cons pe_str (pa_cons pe_str (pa_cons pe_str pa_nil))))))) (nomark _)))))), ?_⟩
    refine q_asgL (xs := [.ref a, .int 0]) (el_lst (ea_cons (ev_var rfl) (ea_cons ev_c ea_nil)) (by simp)) fun d H1 hd e1 h1 => ?_
    have D1 : Draw K H1 d a ns 0 := ⟨h1, ex_l e1 hS, hlen⟩
    refine q_forR1 (n := 8) (ea_cons ev_c ea_nil) (by decide) (fun i σ H' => ∃ c x2 x3 x4 x5 x6 x7 x8 x9, σ = [some (.ref a), some (.ref d), x2, x3, x4, x5, x6, x7, x8, x9] ∧ Draw K H' d a ns c ∧ c ≤ 100 * i)
      (fun H2 e2 => ⟨0, _, _, _, _, _, _, _, _, rfl, D1.mono e2, Nat.zero_le _⟩) ?_ ?_
    · rintro i σ H2 hi ⟨c, x2, x3, x4, x5, x6, x7, x8, x9, rfl, D2, hc⟩
      -- way, text
      refine call_raw (vs := [.ref d, .int 6]) (ea_cons (ev_var rfl) (ea_cons ev_c ea_nil)) fun H3 e3 => ⟨d, a, ns, c, 6, rfl, D2.mono e3, by omega, by decide, by decide, ?_⟩
      rintro _ H4 c4 D4 e4 l1 l2 ⟨p, ws, rfl, hp, hw⟩
      refine call_raw (vs := [.ref d, .int 14]) (ea_cons (ev_var rfl) (ea_cons ev_c ea_nil)) fun H5 e5 => ⟨d, a, ns, c4, 14, rfl, D4.mono e5, by omega, by decide, by decide, ?_⟩
      rintro _ H6 c6 D6 e6 l3 l4 ⟨l, rfl, hl⟩
      refine ⟨_, _, rfl, ?_⟩
      dsimp only
      have hP : SqT K H6 p (wayV ws) := st_of (e6 _ _ (D4.neT hp) (e5 _ _ hp))
      have hw6 : ws.length ≤ 6 := by omega
      have hl14 : l.length ≤ 14 := by omega
      have hp6 : 2 ^ ws.length ≤ 2 ^ 6 := Nat.pow_le_pow_right (by decide) hw6
      have hlm : l.length * 2 ^ ws.length ≤ 14 * 2 ^ 6 := Nat.mul_le_mul hl14 hp6
      refine q_when (b := false) (et_or (a := false) (b := false) (et_test ?_) (fun _ => et_test ?_)) (fun z => nomatch z) fun _ H7 e7 => ?_
      · refine ev_is (ev_op (x := .str (txt (turnL ws l))) (ev_call (vs := [.ref p, .str (txt l)]) (ea_cons (ev_var rfl) (ea_cons (ev_var rfl) ea_nil)) fun H e Q q E => ⟨p, ws, l, rfl, ex_t e hP, hw6, by omega, q⟩)
          (ev_call (z := .str (txt (turnL ws l))) (vs := [.ref p, .str (txt l)]) (ea_cons (ev_var rfl) (ea_cons (ev_var rfl) ea_nil)) fun H e Q q E => ⟨p, ws, l, rfl, ex_t e hP, by omega, q⟩) (rv_ne rfl)) ?_
        rw [decide_eq_true rfl]
        rfl
      · refine ev_is (ev_op (x := .str (txt (turnL ws l))) (ev_call (vs := [.ref p, .str (txt l)]) (ea_cons (ev_var rfl) (ea_cons (ev_var rfl) ea_nil)) fun H e Q q E => ⟨p, ws, l, rfl, ex_t e hP, hw6, by omega, q⟩)
          (ev_call (z := .str (txt (turnL ws l))) (vs := [.ref p, .str (txt l)]) (ea_cons (ev_var rfl) (ea_cons (ev_var rfl) ea_nil)) fun H e Q q E => ⟨p, ws, l, rfl, ex_t e hP, by omega, q⟩) (rv_ne rfl)) ?_
        rw [decide_eq_true rfl]
        rfl
      -- pair
      refine ⟨⟨_, rfl⟩, ?_⟩
      refine call_raw (vs := [.ref d, .int 5]) (ea_cons (ev_var rfl) (ea_cons ev_c ea_nil)) fun H8 e8 => ⟨d, a, ns, c6, 5, rfl, (D6.mono e7).mono e8, by omega, by decide, ?_⟩
      rintro _ H9 c9 D9 e9 l5 l6 ⟨n, n0, n1, rfl⟩
      refine ⟨n, rfl, by omega, by omega, fun Dl hD => ?_⟩
      refine lc_drawn (j := 8) (vs := [8]) (fun v => ∃ g : List Sg, v = .str (txt g) ∧ g.length ≤ 2) D9 hD (show n.toNat ≤ 1000 by omega) (fun x => rfl) (fun i' H' c' hi' D' l3' e' Q' q' => ?_) (fun H10 acc c10 D10 e10 l7 l8 hacc ha hR => ?_)
      · refine ⟨_, rfl, sz_of (n := 3) (by decide), fun t ht => ?_⟩
        have nt : t ≠ d := (ne_of_none D'.here ht).symm
        refine ⟨d, a, t, ns, c', _, rfl, D'.mono (Ex.new ht), by omega, nt, sq_of upd_same, by decide, ?_⟩
        intro v H11 c11 D11 e11 m1 m2 hv
        refine q' v H11 c11 D11 ((ExB.of (Ex.new ht)).trans e11) m1 m2 ?_
        simp only [List.mem_cons, List.not_mem_nil, or_false] at hv
        rcases hv with h | h | h <;> subst h
        · exact ⟨[.a], rfl, by decide⟩
        · exact ⟨[.r, .n], rfl, by decide⟩
        · exact ⟨[.r, .n], rfl, by decide⟩
      · obtain ⟨ls, rfl, hflat⟩ := conv_parts acc hR
        have hn : ls.length = n.toNat := by
          rw [← ha]
          simp [txtV]
        refine ⟨_, Dl, ls.map txt, rfl, rfl, .inl (sq_of hacc), ?_, ?_⟩
        · rw [sum_flat]
          show _ + _ * 0 ≤ _
          omega
        rw [join_txt]
        have hm10 : ls.flatten.length ≤ 10 := by omega
        generalize ls.flatten = m at hm10
        dsimp only [gName]
        -- the five texts
        have hfl : (l.filter fun s => !decide (s = .r)).length ≤ 14 := Nat.le_trans (List.length_filter_le _ _) hl14
        refine q_forNT (xs := [l, m, m ++ [.r], [.n] ++ m, l.filter fun s => !decide (s = .r)].map fun g => V.str (txt g))
          (eu_tup (ea_cons (ev_var rfl) (ea_cons (ev_var rfl) (ea_cons (ev_adds (ev_var rfl) ev_c (by simp; omega)) (ea_cons (ev_adds ev_c (ev_var rfl) (by simp; omega)) (ea_cons (ev_is (ev_replC (ev_var rfl) (by rw [txt_len]; show _ + _ * 0 ≤ _; omega)) (by rw [repl_r])) ea_nil))))) (by simp))
          (fun H1 j σ H' => ∃ y6 y7 y8 y9, σ = [some (.ref a), some (.ref d), some (.int (i : Int)), some (.ref p), some (.str (txt l)), some (.str (txt m)), y6, y7, y8, y9] ∧ Ex H1 H') (fun H11 e11 => ⟨_, _, _, _, rfl, Ex.refl H11⟩) (fun H1 j σ H' ⟨_, _, _, _, _, z⟩ => z) ?_ ?_
        · rintro H11 e11 j x σ H12 hx ⟨y6, y7, y8, y9, rfl, e12⟩
          rw [List.getElem?_map] at hx
          cases hg : [l, m, m ++ [.r], [.n] ++ m, l.filter fun s => !decide (s = .r)][j]? with
          | none => rw [hg] at hx; cases hx
          | some g =>
            rw [hg] at hx
            have ex := Option.some.inj hx
            subst ex
            have hgl : g.length ≤ 1000 := by
              have hmem := List.mem_of_getElem? hg
              simp only [List.mem_cons, List.not_mem_nil, or_false] at hmem
              rcases hmem with h | h | h | h | h <;> subst h <;> simp <;> omega
            exact s_when (b := false) (et_test (ev_opLL (el_kinds tK hgl) (el_kinds tK hgl) fun p q H1 h1 h2 e => rv_neB (sq_of h1) (sq_of h2))) (fun z => nomatch z) fun _ H13 e13 => ⟨_, _, _, _, rfl, e12.trans e13⟩
        · rintro H11 e11 σ H12 ⟨y6, y7, y8, y9, rfl, e12⟩
          refine s_forT (ev_c (v := .ref aC)) (tC H12) (fun j σ H' => ∃ y7 y8 y9, σ = [some (.ref a), some (.ref d), some (.int (i : Int)), some (.ref p), some (.str (txt l)), some (.str (txt m)), y6, y7, y8, y9] ∧ Ex H12 H') (fun H13 e13 => ⟨_, _, _, rfl, e13⟩) (fun _ _ _ _ _ => tC _) ?_ ?_
          · rintro j x σ H13 hx ⟨y7, y8, y9, rfl, e13⟩
            obtain ⟨cv, _, rfl⟩ := wayV_get hx
            refine s_when (b := false) (et_test fun H14 e14 Q14 q14 => ?_) (fun z => nomatch z) fun _ H14 e14 => ⟨_, _, _, rfl, e13.trans e14⟩
            refine ⟨_, rfl, sz_of (n := 1) (by decide), fun t ht => ⟨_, rfl, t, [cv], l, rfl, st_of upd_same, by simp, by omega, fun H15 e15 => ⟨_, rfl, _, rfl, cv, l, rfl, by omega, fun H16 e16 => ⟨rfl, ?_⟩⟩⟩⟩
            rw [show turnL [cv] l = by1 cv l from rfl, decide_eq_true rfl]
            exact q14 H16 ((Ex.new ht).trans (e15.trans e16))
          · rintro σ H13 ⟨y7, y8, y9, rfl, e13⟩
            exact ⟨c10, _, _, _, _, _, _, _, _, rfl, D10.mono (e11.trans (e12.trans e13)), by omega⟩
    · rintro σ H2 ⟨c, x2, x3, x4, x5, x6, x7, x8, x9, rfl, D2, hc⟩
      have zK := ev_opV (σ := [some (.ref a), some (.ref d), x2, x3, x4, x5, x6, x7, x8, x9]) (H := H2) (ev_c (v := .ref aK)) (eu_tup (vs := [.str "any", .str "bare", .str "lone", .str "paired"]) (ea_cons ev_c (ea_cons ev_c (ea_cons ev_c (ea_cons ev_c ea_nil)))) (by simp))
        (fun q H3 hq e3 => rv_neS (K := K) (bs := ["any", "bare", "lone", "paired"]) (tK H3) (st_of hq) (by decide +kernel))
      refine q_when (b := false) (et_test zK) (fun z => nomatch z) fun _ H3 e3 => ?_
      have zC := ev_opV (σ := [some (.ref a), some (.ref d), x2, x3, x4, x5, x6, x7, x8, x9]) (H := H3) (ev_c (v := .ref aC)) (eu_tup (vs := [.str "all", .str "both", .str "care", .str "lone", .str "lones", .str "pairs"]) (ea_cons ev_c (ea_cons ev_c (ea_cons ev_c (ea_cons ev_c (ea_cons ev_c (ea_cons ev_c ea_nil)))))) (by simp))
        (fun q H3 hq e3 => rv_eqS (K := K) (bs := ["all", "both", "care", "lone", "lones", "pairs"]) (tC H3) (st_of hq) (by decide +kernel))
      exact s_ret zC fun H4 e4 => q H4
end
end Tu
namespace Tu
open PySem PySem.Spec PyProof.Rows L2 Evl RZ
/-! ### what the top has written -/
structure FnK (K : PySem.W.Frag) (x : Str) (st : Stmt) : Prop where
  ex : ∃ (f : Addr) (oc : Value) (od : Option Addr) (kV doc pm : Value) (an : Option Addr) (cdv ct : Value) (osl : Array (Option Value)), PySem.W.nsIn K mainGlobals x = some (some (.ref f)) ∧
    K.lookup f = some ⟨oc, od, .func (PySem.W.fnOf x x (defArgs st) (defBody st) (defScope st) .none kV doc pm an cdv ct), osl⟩ ∧ PySem.W.codeIn K cdv x = true ∧ PySem.W.keepIn K (.ref f) = true
theorem FnK.go {K : PySem.W.Frag} {x : Str} {st : Stmt} {h : Heap} {mg : Str → Option Value} (F : FnK K x st) (X : K.In h) (G : h.Ns mainGlobals mg) : ∃ f fd, Fun K x x st f fd ∧ mg x = some (.ref f) := by
  obtain ⟨f, oc, od, kV, doc, pm, an, cdv, ct, osl, a, l, c, k⟩ := F.ex
  exact ⟨f, _, fun_mk l c k, PySem.W.mg_of X G a⟩
theorem fnK {K : PySem.W.Frag} {x : Str} {st : Stmt} {f : Addr} {oc : Value} {od : Option Addr} {kV doc pm : Value} {an : Option Addr} {cdv ct : Value} {osl : Array (Option Value)} (a : PySem.W.nsIn K mainGlobals x = some (some (.ref f)))
    (l : K.lookup f = some ⟨oc, od, .func (PySem.W.fnOf x x (defArgs st) (defBody st) (defScope st) .none kV doc pm an cdv ct), osl⟩) (c : PySem.W.codeIn K cdv x = true) (k : PySem.W.keepIn K (.ref f) = true) : FnK K x st := ⟨f, oc, od, kV, doc, pm, an, cdv, ct, osl, a, l, c, k⟩
theorem sqt_of {K : PySem.W.Frag} {a : Addr} {dd : Option Addr} {its : Array Value} {n : Nat} {sl : Array (Option Value)} {xs : List V} (l : K.lookup a = some ⟨.type "tuple", dd, .seq its n, sl⟩) (hz : its.size ≤ 100) (r : Vals xs its.toList) (H : Hp) : SqT K H a xs :=
  .inr ⟨_, its, n, l, rfl, rfl, sz_of (by omega), r⟩
theorem law_g {P : Program} {w : World} {K : PySem.W.Frag} {mg : Str → Option Value} {base : Heap} {x : Str} {st : Stmt} {f : Addr} {fd : FuncData} {k : Nat} {ps : List Str} {sp : Sp} (F : Fun K x x st f fd) (m : mg x = some (.ref f)) (G : FnOk P w K mg base CX0 k f fd ps sp) (b : Binds K fd ps []) : LawG P w K mg base x k ps sp :=
  ⟨f, fd, G, F.kp, b, m⟩
/-- a dict of the module -/
structure DictK (K : PySem.W.Frag) (w : World) (a : Addr) : Prop where
  ex : ∃ es n, K.lookup a = some ⟨.type "dict", none, .dict es n, #[]⟩ ∧ PySem.W.KeysLit w.params es.toList ∧ (a == sysModules) = false
theorem dictK {K : PySem.W.Frag} {w : World} {a : Addr} {es : Array DictEntry} {n : Nat} (l : K.lookup a = some ⟨.type "dict", none, .dict es n, #[]⟩) (k : PySem.W.KeysLit w.params es.toList) (o : (a == sysModules) = false) : DictK K w a := ⟨es, n, l, k, o⟩
theorem DictK.kin {K : PySem.W.Frag} {w : World} {a : Addr} {x : Str} {r : Option Value} {b : Bool} (D : DictK K w a) (e : PySem.W.nsIn K a x = some r) (h : r.isSome = b) : KIn K w a x b := by
  obtain ⟨es, n, l, k, o⟩ := D.ex
  exact ⟨es, n, r, l, k, o, e, h⟩
theorem DictK.get {K : PySem.W.Frag} {w : World} {a : Addr} {x : Str} {u : Value} {v : V} (D : DictK K w a) (e : PySem.W.nsIn K a x = some (some u)) (r : RelV v u) : KDct K w a x v := by
  obtain ⟨es, n, l, k, o⟩ := D.ex
  exact ⟨es, n, u, l, k, e, r⟩
/-- a written pair of texts -/
structure PairK (K : PySem.W.Frag) (p : Addr) (y z : Str) : Prop where
  ex : ∃ (dd : Option Addr) (t u : Tok) (n : Nat) (sl : Array (Option Value)), K.lookup p = some ⟨.type "tuple", dd, .seq #[.str y t, .str z u] n, sl⟩ ∧ t ≠ 0 ∧ u ≠ 0 ∧ t ≠ u
theorem pairK {K : PySem.W.Frag} {p : Addr} {y z : Str} {dd : Option Addr} {t u : Tok} {n : Nat} {sl : Array (Option Value)} (l : K.lookup p = some ⟨.type "tuple", dd, .seq #[.str y t, .str z u] n, sl⟩) (a : t ≠ 0) (b : u ≠ 0) (c : t ≠ u) : PairK K p y z := ⟨dd, t, u, n, sl, l, a, b, c⟩
theorem PairK.kp {K : PySem.W.Frag} {p : Addr} {y z : Str} (h : PairK K p y z) (hyz : (y == z) = false) : KPair K p y z := by
  obtain ⟨dd, t, u, n, sl, l, a, b, c⟩ := h.ex
  exact ⟨dd, t, u, n, sl, l, a, b, c, hyz⟩
theorem PairK.sq {K : PySem.W.Frag} {p : Addr} {y z : Str} (h : PairK K p y z) (H : Hp) : SqT K H p [.str y, .str z] := by
  obtain ⟨dd, t, u, n, sl, l, _⟩ := h.ex
  exact sqt_of (xs := [.str y, .str z]) l (show (2 : Nat) ≤ 100 by decide) (.cons ⟨t, rfl⟩ (.cons ⟨u, rfl⟩ .nil)) H
/-- a written tuple of objects -/
def RefsK (K : PySem.W.Frag) (a : Addr) (ps : List Addr) : Prop := ∃ (dd : Option Addr) (n : Nat) (sl : Array (Option Value)), K.lookup a = some ⟨.type "tuple", dd, .seq (ps.map Value.ref).toArray n, sl⟩ ∧ ps.length ≤ 100
theorem refsK1 {K : PySem.W.Frag} {a p1 : Addr} {dd : Option Addr} {n : Nat} {sl : Array (Option Value)} (l : K.lookup a = some ⟨.type "tuple", dd, .seq #[.ref p1] n, sl⟩) : RefsK K a [p1] := ⟨dd, n, sl, l, by simp⟩
theorem refsK2 {K : PySem.W.Frag} {a p1 p2 : Addr} {dd : Option Addr} {n : Nat} {sl : Array (Option Value)} (l : K.lookup a = some ⟨.type "tuple", dd, .seq #[.ref p1, .ref p2] n, sl⟩) : RefsK K a [p1, p2] := ⟨dd, n, sl, l, by simp⟩
theorem refsK3 {K : PySem.W.Frag} {a p1 p2 p3 : Addr} {dd : Option Addr} {n : Nat} {sl : Array (Option Value)} (l : K.lookup a = some ⟨.type "tuple", dd, .seq #[.ref p1, .ref p2, .ref p3] n, sl⟩) : RefsK K a [p1, p2, p3] := ⟨dd, n, sl, l, by simp⟩
theorem RefsK.sq {K : PySem.W.Frag} {a : Addr} {ps : List Addr} (h : RefsK K a ps) (H : Hp) : SqT K H a (ps.map V.ref) := by
  obtain ⟨dd, n, sl, l, z⟩ := h
  refine sqt_of l (by rw [List.size_toArray, List.length_map]; exact z) ?_ H
  clear l z
  induction ps with
  | nil => exact .nil
  | cons p ps ih => exact .cons rfl ih
/-- a written tuple of texts -/
def StrsK (K : PySem.W.Frag) (a : Addr) (us : List (Str × Tok)) : Prop := ∃ (dd : Option Addr) (n : Nat) (sl : Array (Option Value)), K.lookup a = some ⟨.type "tuple", dd, .seq (us.map fun u => Value.str u.1 u.2).toArray n, sl⟩ ∧ us.length ≤ 100
theorem strsK3 {K : PySem.W.Frag} {a : Addr} {x0 x1 x2 : Str} {t0 t1 t2 : Tok} {dd : Option Addr} {n : Nat} {sl : Array (Option Value)} (l : K.lookup a = some ⟨.type "tuple", dd, .seq #[.str x0 t0, .str x1 t1, .str x2 t2] n, sl⟩) : StrsK K a [(x0, t0), (x1, t1), (x2, t2)] := ⟨dd, n, sl, l, by simp⟩
theorem strsK4 {K : PySem.W.Frag} {a : Addr} {x0 x1 x2 x3 : Str} {t0 t1 t2 t3 : Tok} {dd : Option Addr} {n : Nat} {sl : Array (Option Value)} (l : K.lookup a = some ⟨.type "tuple", dd, .seq #[.str x0 t0, .str x1 t1, .str x2 t2, .str x3 t3] n, sl⟩) : StrsK K a [(x0, t0), (x1, t1), (x2, t2), (x3, t3)] := ⟨dd, n, sl, l, by simp⟩
theorem strsK6 {K : PySem.W.Frag} {a : Addr} {x0 x1 x2 x3 x4 x5 : Str} {t0 t1 t2 t3 t4 t5 : Tok} {dd : Option Addr} {n : Nat} {sl : Array (Option Value)} (l : K.lookup a = some ⟨.type "tuple", dd, .seq #[.str x0 t0, .str x1 t1, .str x2 t2, .str x3 t3, .str x4 t4, .str x5 t5] n, sl⟩) : StrsK K a [(x0, t0), (x1, t1), (x2, t2), (x3, t3), (x4, t4), (x5, t5)] := ⟨dd, n, sl, l, by simp⟩
theorem StrsK.sq {K : PySem.W.Frag} {a : Addr} {us : List (Str × Tok)} (h : StrsK K a us) (H : Hp) : SqT K H a (us.map fun u => V.str u.1) := by
  obtain ⟨dd, n, sl, l, z⟩ := h
  refine sqt_of l (by rw [List.size_toArray, List.length_map]; exact z) ?_ H
  clear l z
  induction us with
  | nil => exact .nil
  | cons u us ih => exact .cons ⟨_, rfl⟩ ih
theorem all_mk {l : PySem.W.OpenLaw} {w : World} {K : PySem.W.Frag} {h : Heap} {mg : Str → Option Value} {fa aS aK aC aP aH aR h1 h2 h3 rall rall0 rboth rboth0 rboth1 rcare rcare0 rcare1 rlone rlone0 rlones rlones0 rlones1 rlones2 rpairs rpairs0 : Addr} {s1 s2 s3 k1 k2 k3 k4 c1 c2 c3 c4 c5 c6 t6 p1 p2 : Tok} (X : K.In h) (G : h.Ns mainGlobals mg) (hfa : mg "law" = some (.ref fa))
    (f0 : FnK K "check_text" sChkText)
    (f1 : FnK K "check_kind" sChkKind)
    (f2 : FnK K "is_of" sIsOf)
    (f3 : FnK K "check_way" sChkWay)
    (f4 : FnK K "check_standing" sChkSt)
    (f5 : FnK K "turned" sTurned)
    (f6 : FnK K "_read_one" sOne)
    (f7 : FnK K "_read_all" sAll)
    (f8 : FnK K "step" sStep)
    (f9 : FnK K "first_standing" sFirst)
    (f10 : FnK K "read" sRead)
    (f11 : FnK K "at_end" sEnd)
    (f12 : FnK K "_law_number" sNum)
    (f13 : FnK K "_law_take" sTake)
    (f14 : FnK K "_law_pick" sPick)
    (f15 : FnK K "_law_way" sWay)
    (f16 : FnK K "_law_text" sText)
    (f17 : FnK K "_law_by" sBy)
    (f18 : FnK K "_law_made" sMade)
    (f19 : FnK K "_law_is_of" sLawIs)
    (f20 : FnK K "_law_walk" sWalk)
    (f21 : FnK K "law" sLaw)
    (gS : PySem.W.nsIn K mainGlobals "SIGNS" = some (some (.ref aS)))
    (lS : StrsK K aS [("a", s1), ("n", s2), ("r", s3)])
    (gK : PySem.W.nsIn K mainGlobals "KINDS" = some (some (.ref aK)))
    (lK : StrsK K aK [("any", k1), ("bare", k2), ("lone", k3), ("paired", k4)])
    (gC : PySem.W.nsIn K mainGlobals "CONVERSIONS" = some (some (.ref aC)))
    (lC : StrsK K aC [("all", c1), ("both", c2), ("care", c3), ("lone", c4), ("lones", c5), ("pairs", c6)])
    (g6 : PySem.W.nsIn K mainGlobals "LONGEST" = some (some (.int 6 t6)))
    (gP : PySem.W.nsIn K mainGlobals "_PLAIN" = some (some (.ref aP)))
    (dP : DictK K w aP)
    (p_all : PySem.W.nsIn K aP "all" = some (some (.str "rn" p1)))
    (p_both : PySem.W.nsIn K aP "both" = some (none))
    (p_care : PySem.W.nsIn K aP "care" = some (none))
    (p_lone : PySem.W.nsIn K aP "lone" = some (some (.str "r" p2)))
    (p_lones : PySem.W.nsIn K aP "lones" = some (none))
    (p_pairs : PySem.W.nsIn K aP "pairs" = some (none))
    (gH : PySem.W.nsIn K mainGlobals "_HELD" = some (some (.ref aH)))
    (dH : DictK K w aH)
    (h_all : PySem.W.nsIn K aH "all" = some (none))
    (h_both : PySem.W.nsIn K aH "both" = some (some (.ref h1)))
    (h_care : PySem.W.nsIn K aH "care" = some (none))
    (h_lone : PySem.W.nsIn K aH "lone" = some (none))
    (h_lones : PySem.W.nsIn K aH "lones" = some (some (.ref h2)))
    (h_pairs : PySem.W.nsIn K aH "pairs" = some (some (.ref h3)))
    (q_h1 : PairK K h1 "" "n")
    (q_h2 : PairK K h2 "r" "n")
    (q_h3 : PairK K h3 "" "r")
    (gR : PySem.W.nsIn K mainGlobals "_REPLACED" = some (some (.ref aR)))
    (dR : DictK K w aR)
    (r_all : PySem.W.nsIn K aR "all" = some (some (.ref rall)))
    (t_all : RefsK K rall [rall0])
    (q_rall0 : PairK K rall0 "n" "rn")
    (r_both : PySem.W.nsIn K aR "both" = some (some (.ref rboth)))
    (t_both : RefsK K rboth [rboth0, rboth1])
    (q_rboth0 : PairK K rboth0 "rn" "n")
    (q_rboth1 : PairK K rboth1 "r" "n")
    (r_care : PySem.W.nsIn K aR "care" = some (some (.ref rcare)))
    (t_care : RefsK K rcare [rcare0, rcare1])
    (q_rcare0 : PairK K rcare0 "rn" "n")
    (q_rcare1 : PairK K rcare1 "n" "rn")
    (r_lone : PySem.W.nsIn K aR "lone" = some (some (.ref rlone)))
    (t_lone : RefsK K rlone [rlone0])
    (q_rlone0 : PairK K rlone0 "n" "r")
    (r_lones : PySem.W.nsIn K aR "lones" = some (some (.ref rlones)))
    (t_lones : RefsK K rlones [rlones0, rlones1, rlones2])
    (q_rlones0 : PairK K rlones0 "rn" "x")
    (q_rlones1 : PairK K rlones1 "r" "n")
    (q_rlones2 : PairK K rlones2 "x" "rn")
    (r_pairs : PySem.W.nsIn K aR "pairs" = some (some (.ref rpairs)))
    (t_pairs : RefsK K rpairs [rpairs0])
    (q_rpairs0 : PairK K rpairs0 "rn" "n")
    (z_isinstance : PySem.W.nsIn K mainGlobals "isinstance" = some none)
    (z_str : PySem.W.nsIn K mainGlobals "str" = some none)
    (z_all : PySem.W.nsIn K mainGlobals "all" = some none)
    (z_tuple : PySem.W.nsIn K mainGlobals "tuple" = some none)
    (z_len : PySem.W.nsIn K mainGlobals "len" = some none)
    (z_bool : PySem.W.nsIn K mainGlobals "bool" = some none)
    (z_zip : PySem.W.nsIn K mainGlobals "zip" = some none)
    (z_int : PySem.W.nsIn K mainGlobals "int" = some none)
    (z_sum : PySem.W.nsIn K mainGlobals "sum" = some none)
    (z_range : PySem.W.nsIn K mainGlobals "range" = some none)
    (z_enumerate : PySem.W.nsIn K mainGlobals "enumerate" = some none)
    (z_list : PySem.W.nsIn K mainGlobals "list" = some none)
    (z_any : PySem.W.nsIn K mainGlobals "any" = some none) :
    ∃ fd : FuncData, (∀ (s : Shared) (v : Value), BindsTo s fd ⟨[v], []⟩ [("script", v)]) ∧ ∀ base : Heap, K.In base → base.Ns mainGlobals mg → FnOk l.prog w K mg base CX0 6 fa fd ["script"] (spLaw K) := by
  obtain ⟨a0, d0, F0, m0⟩ := f0.go X G
  obtain ⟨a1, d1, F1, m1⟩ := f1.go X G
  obtain ⟨a2, d2, F2, m2⟩ := f2.go X G
  obtain ⟨a3, d3, F3, m3⟩ := f3.go X G
  obtain ⟨a4, d4, F4, m4⟩ := f4.go X G
  obtain ⟨a5, d5, F5, m5⟩ := f5.go X G
  obtain ⟨a6, d6, F6, m6⟩ := f6.go X G
  obtain ⟨a7, d7, F7, m7⟩ := f7.go X G
  obtain ⟨a8, d8, F8, m8⟩ := f8.go X G
  obtain ⟨a9, d9, F9, m9⟩ := f9.go X G
  obtain ⟨a10, d10, F10, m10⟩ := f10.go X G
  obtain ⟨a11, d11, F11, m11⟩ := f11.go X G
  obtain ⟨a12, d12, F12, m12⟩ := f12.go X G
  obtain ⟨a13, d13, F13, m13⟩ := f13.go X G
  obtain ⟨a14, d14, F14, m14⟩ := f14.go X G
  obtain ⟨a15, d15, F15, m15⟩ := f15.go X G
  obtain ⟨a16, d16, F16, m16⟩ := f16.go X G
  obtain ⟨a17, d17, F17, m17⟩ := f17.go X G
  obtain ⟨a18, d18, F18, m18⟩ := f18.go X G
  obtain ⟨a19, d19, F19, m19⟩ := f19.go X G
  obtain ⟨a20, d20, F20, m20⟩ := f20.go X G
  obtain ⟨fl, ocl, odl, kVl, docl, pml, anl, cdl, ctl, osl, al, ll, cl, kl⟩ := f21.ex
  have el := hfa.symm.trans (PySem.W.mg_of X G al)
  cases el
  have FL := fun_mk (st := sLaw) ll cl kl
  have n_isinstance := PySem.W.mg_none_of X G z_isinstance
  have n_str := PySem.W.mg_none_of X G z_str
  have n_all := PySem.W.mg_none_of X G z_all
  have n_tuple := PySem.W.mg_none_of X G z_tuple
  have n_len := PySem.W.mg_none_of X G z_len
  have n_bool := PySem.W.mg_none_of X G z_bool
  have n_zip := PySem.W.mg_none_of X G z_zip
  have n_int := PySem.W.mg_none_of X G z_int
  have n_sum := PySem.W.mg_none_of X G z_sum
  have n_range := PySem.W.mg_none_of X G z_range
  have n_enumerate := PySem.W.mg_none_of X G z_enumerate
  have n_list := PySem.W.mg_none_of X G z_list
  have n_any := PySem.W.mg_none_of X G z_any
  have MS := PySem.W.mg_of X G gS
  have MK := PySem.W.mg_of X G gK
  have MC := PySem.W.mg_of X G gC
  have M6 := PySem.W.mg_of X G g6
  have MP := PySem.W.mg_of X G gP
  have MH := PySem.W.mg_of X G gH
  have MR := PySem.W.mg_of X G gR
  have tS : ∀ H, SqT K H aS [.str "a", .str "n", .str "r"] := lS.sq
  have tK : ∀ H, SqT K H aK (kindV kinds) := lK.sq
  have tC : ∀ H, SqT K H aC (wayV allCv) := lC.sq
  have tP : ∀ c : Cv, KIn K w aP c.s (plain c) := fun c => by
    cases c
    · exact dP.kin p_all rfl
    · exact dP.kin p_both rfl
    · exact dP.kin p_care rfl
    · exact dP.kin p_lone rfl
    · exact dP.kin p_lones rfl
    · exact dP.kin p_pairs rfl
  have iP : ∀ c : Cv, plain c = true → KDct K w aP c.s (.str (txt (plainN c))) := fun c hc => by
    cases c
    · exact dP.get p_all ⟨_, rfl⟩
    · cases hc
    · cases hc
    · exact dP.get p_lone ⟨_, rfl⟩
    · cases hc
    · cases hc
  have tH : ∀ c : Cv, KIn K w aH c.s (holds c) := fun c => by
    cases c
    · exact dH.kin h_all rfl
    · exact dH.kin h_both rfl
    · exact dH.kin h_care rfl
    · exact dH.kin h_lone rfl
    · exact dH.kin h_lones rfl
    · exact dH.kin h_pairs rfl
  have iH : ∀ c : Cv, holds c = true → ∃ t, KDct K w aH c.s (.ref t) ∧ ∀ H, SqT K H t [.str (txt (heldN c)), .str (txt (heldE c))] := fun c hc => by
    cases c
    · cases hc
    · exact ⟨_, dH.get h_both rfl, q_h1.sq⟩
    · cases hc
    · cases hc
    · exact ⟨_, dH.get h_lones rfl, q_h2.sq⟩
    · exact ⟨_, dH.get h_pairs rfl, q_h3.sq⟩
  have tR : RTab K w aR := fun c => by
    cases c
    · refine ⟨_, _, dR.get r_all rfl, t_all.sq, rfl, fun i p q hp hq => ?_⟩
      match i, hp, hq with
      | 0, hp, hq => cases hp; cases hq; exact q_rall0.kp (by decide +kernel)
      | _ + 1, hp, hq => simp [pairsOf] at hq
    · refine ⟨_, _, dR.get r_both rfl, t_both.sq, rfl, fun i p q hp hq => ?_⟩
      match i, hp, hq with
      | 0, hp, hq => cases hp; cases hq; exact q_rboth0.kp (by decide +kernel)
      | 1, hp, hq => cases hp; cases hq; exact q_rboth1.kp (by decide +kernel)
      | _ + 2, hp, hq => simp [pairsOf] at hq
    · refine ⟨_, _, dR.get r_care rfl, t_care.sq, rfl, fun i p q hp hq => ?_⟩
      match i, hp, hq with
      | 0, hp, hq => cases hp; cases hq; exact q_rcare0.kp (by decide +kernel)
      | 1, hp, hq => cases hp; cases hq; exact q_rcare1.kp (by decide +kernel)
      | _ + 2, hp, hq => simp [pairsOf] at hq
    · refine ⟨_, _, dR.get r_lone rfl, t_lone.sq, rfl, fun i p q hp hq => ?_⟩
      match i, hp, hq with
      | 0, hp, hq => cases hp; cases hq; exact q_rlone0.kp (by decide +kernel)
      | _ + 1, hp, hq => simp [pairsOf] at hq
    · refine ⟨_, _, dR.get r_lones rfl, t_lones.sq, rfl, fun i p q hp hq => ?_⟩
      match i, hp, hq with
      | 0, hp, hq => cases hp; cases hq; exact q_rlones0.kp (by decide +kernel)
      | 1, hp, hq => cases hp; cases hq; exact q_rlones1.kp (by decide +kernel)
      | 2, hp, hq => cases hp; cases hq; exact q_rlones2.kp (by decide +kernel)
      | _ + 3, hp, hq => simp [pairsOf] at hq
    · refine ⟨_, _, dR.get r_pairs rfl, t_pairs.sq, rfl, fun i p q hp hq => ?_⟩
      match i, hp, hq with
      | 0, hp, hq => cases hp; cases hq; exact q_rpairs0.kp (by decide +kernel)
      | _ + 1, hp, hq => simp [pairsOf] at hq
  have b0 := F0.binds (ps := ["text"]) fun _ _ _ _ _ _ us hl => match us, hl with | [_], _ => rfl
  have b1 := F1.binds (ps := ["kind"]) fun _ _ _ _ _ _ us hl => match us, hl with | [_], _ => rfl
  have b2 := F2.binds (ps := ["text", "kind"]) fun _ _ _ _ _ _ us hl => match us, hl with | [_, _], _ => rfl
  have b3 := F3.binds (ps := ["way"]) fun _ _ _ _ _ _ us hl => match us, hl with | [_], _ => rfl
  have b4 := F4.binds (ps := ["way", "standing"]) fun _ _ _ _ _ _ us hl => match us, hl with | [_, _], _ => rfl
  have b5 := F5.binds (ps := ["way", "text"]) fun _ _ _ _ _ _ us hl => match us, hl with | [_, _], _ => rfl
  have b6 := F6.binds (ps := ["word", "flag", "sign"]) fun _ _ _ _ _ _ us hl => match us, hl with | [_, _, _], _ => rfl
  have b7 := F7.binds (ps := ["word", "flag", "text"]) fun _ _ _ _ _ _ us hl => match us, hl with | [_, _, _], _ => rfl
  have b8 := F8.binds (ps := ["way", "standing", "sign"]) fun _ _ _ _ _ _ us hl => match us, hl with | [_, _, _], _ => rfl
  have b9 := F9.binds (ps := ["way"]) fun _ _ _ _ _ _ us hl => match us, hl with | [_], _ => rfl
  have b10 := F10.binds (ps := ["way", "standing", "sign"]) fun _ _ _ _ _ _ us hl => match us, hl with | [_, _, _], _ => rfl
  have b11 := F11.binds (ps := ["way", "standing"]) fun _ _ _ _ _ _ us hl => match us, hl with | [_, _], _ => rfl
  have b12 := F12.binds (ps := ["script", "index"]) fun _ _ _ _ _ _ us hl => match us, hl with | [_, _], _ => rfl
  have b13 := F13.binds (ps := ["draw", "many"]) fun _ _ _ _ _ _ us hl => match us, hl with | [_, _], _ => rfl
  have b14 := F14.binds (ps := ["draw", "things"]) fun _ _ _ _ _ _ us hl => match us, hl with | [_, _], _ => rfl
  have b15 := F15.binds (ps := ["draw", "most"]) fun _ _ _ _ _ _ us hl => match us, hl with | [_, _], _ => rfl
  have b16 := F16.binds (ps := ["draw", "most"]) fun _ _ _ _ _ _ us hl => match us, hl with | [_, _], _ => rfl
  have b17 := F17.binds (ps := ["word", "text"]) fun _ _ _ _ _ _ us hl => match us, hl with | [_, _], _ => rfl
  have b18 := F18.binds (ps := ["way", "text"]) fun _ _ _ _ _ _ us hl => match us, hl with | [_, _], _ => rfl
  have b19 := F19.binds (ps := ["text", "kind"]) fun _ _ _ _ _ _ us hl => match us, hl with | [_, _], _ => rfl
  have b20 := F20.binds (ps := ["way", "text"]) fun _ _ _ _ _ _ us hl => match us, hl with | [_, _], _ => rfl
  refine ⟨PySem.W.fnOf "law" "law" (defArgs sLaw) (defBody sLaw) (defScope sLaw) .none kVl docl pml anl cdl ctl, fun s v => .of_eq rfl, fun base _ _ => ?_⟩
  have G0 := fun k => ok_chkText (P := l.prog) (w := w) (base := base) (k := k) F0 n_isinstance n_str n_all MS tS
  have G1 := fun k => ok_chkKind (P := l.prog) (w := w) (base := base) (k := k) F1 n_isinstance n_str MK tK
  have G3 := fun k => ok_chkWay (P := l.prog) (w := w) (base := base) (k := k) F3 n_isinstance n_str n_all n_tuple n_len M6 MC tC
  have G4 := fun k => ok_chkSt (P := l.prog) (w := w) (base := base) (k := k) F4 n_isinstance n_tuple n_len n_zip n_bool MP tP
  have G2 := ok_isOf F2 (G0 0) F0.kp b0 m0 (G1 0) F1.kp b1 m1
  have G5 := ok_turned F5 (G3 0) F3.kp b3 m3 (G0 0) F0.kp b0 m0 MR tR
  have G6 := ok_one (P := l.prog) (w := w) (base := base) (k := 0) F6 MP tP iP MH iH
  have G7 := ok_all F7 G6 F6.kp b6 m6
  have G8 := ok_step F8 G7 F7.kp b7 m7 n_zip n_tuple
  have G9 := ok_first F9 (G3 0) F3.kp b3 m3 n_len
  have G10 := ok_read F10 (G3 0) F3.kp b3 m3 (G4 0) F4.kp b4 m4 G8 F8.kp b8 m8 n_isinstance n_str MS tS
  have G11 := ok_end F11 (G3 0) F3.kp b3 m3 (G4 0) F4.kp b4 m4 G7 F7.kp b7 m7 n_zip MH tH iH
  have GN := fun k => ok_num (P := l.prog) (w := w) (base := base) (k := k) F12 n_int n_len n_sum
  have GT := fun k => ok_take F13 (GN k) F12.kp b12 m12 n_int
  have GP := ok_pick F14 (GT 0) F13.kp b13 m13 n_len
  have GW := ok_way F15 (GT 1) F13.kp b13 m13 GP F14.kp b14 m14 n_tuple n_range
  have GX := ok_text F16 (GT 1) F13.kp b13 m13 GP F14.kp b14 m14 n_range
  have GB := ok_by (P := l.prog) (w := w) (base := base) (k := 0) F17 n_enumerate
  have GM := ok_made F18 GB F17.kp b17 m17
  have GI := ok_lawIs (P := l.prog) (w := w) (base := base) (k := 0) F19 n_list n_any
  have GK := ok_walk F20 G9 F9.kp b9 m9 G10 F10.kp b10 m10 G11 F11.kp b11 m11
  exact ok_law FL (law_g F15 m15 GW b15) (law_g F16 m16 GX b16) (law_g F5 m5 G5 b5) (law_g F18 m18 GM b18) (law_g F20 m20 GK b20)
    (law_g F13 m13 (GT 1) b13) (law_g F14 m14 GP b14) (law_g F2 m2 G2 b2) (law_g F19 m19 GI b19) (law_g F17 m17 GB b17) n_range MK tK MC tC
end Tu
open PySem PySem.W PyProof.Rows
set_option maxRecDepth 100000 in
set_option maxHeartbeats 0 in
theorem PySem.Challenge.cw_turnedends_k01_whole_texts_holds : PySem.Challenge.rw_turnedends_k01_whole_texts.Holds := by
  w_on; o_law; k_head; (case hw => w_witness2)
  k_fill
  refine L2.walk_of (l := PySem.Challenge.rw_turnedends_k01_whole_texts) (n := 63) (k := 6) (x := "script") (CX := fun _ => L2.CX0) (sp := fun w => Tu.spLaw _) rfl (by decide) rfl ⟨rfl, by decide, by decide⟩ (fun w h Y => PySem.W.kIn_of Y) ?F (fun _ _ a ns hl _ hS => ⟨a, ns, rfl, hS, hl, fun _ => rfl⟩) (fun _ _ _ _ _ h => h)
  case F =>
    intro w mg fa h KX G hmg
    refine' Tu.all_mk KX G hmg ?f0 ?f1 ?f2 ?f3 ?f4 ?f5 ?f6 ?f7 ?f8 ?f9 ?f10 ?f11 ?f12 ?f13 ?f14 ?f15 ?f16 ?f17 ?f18 ?f19 ?f20 ?f21 ?gS ?lS ?gK ?lK ?gC ?lC ?g6 ?gP ?dP ?p_all ?p_both ?p_care ?p_lone ?p_lones ?p_pairs ?gH ?dH ?h_all ?h_both ?h_care ?h_lone ?h_lones ?h_pairs ?q_h1 ?q_h2 ?q_h3 ?gR ?dR ?r_all ?t_all ?q_rall0 ?r_both ?t_both ?q_rboth0 ?q_rboth1 ?r_care ?t_care ?q_rcare0 ?q_rcare1 ?r_lone ?t_lone ?q_rlone0 ?r_lones ?t_lones ?q_rlones0 ?q_rlones1 ?q_rlones2 ?r_pairs ?t_pairs ?q_rpairs0 ?z_isinstance ?z_str ?z_all ?z_tuple ?z_len ?z_bool ?z_zip ?z_int ?z_sum ?z_range ?z_enumerate ?z_list ?z_any
    (case f0 => (refine' Tu.fnK ?a ?l ?c ?k; (case a => k_is); (case l => k_is); (case c => k_is); (case k => k_is)))
    (case f1 => (refine' Tu.fnK ?a ?l ?c ?k; (case a => k_is); (case l => k_is); (case c => k_is); (case k => k_is)))
    (case f2 => (refine' Tu.fnK ?a ?l ?c ?k; (case a => k_is); (case l => k_is); (case c => k_is); (case k => k_is)))
    (case f3 => (refine' Tu.fnK ?a ?l ?c ?k; (case a => k_is); (case l => k_is); (case c => k_is); (case k => k_is)))
    (case f4 => (refine' Tu.fnK ?a ?l ?c ?k; (case a => k_is); (case l => k_is); (case c => k_is); (case k => k_is)))
    (case f5 => (refine' Tu.fnK ?a ?l ?c ?k; (case a => k_is); (case l => k_is); (case c => k_is); (case k => k_is)))
    (case f6 => (refine' Tu.fnK ?a ?l ?c ?k; (case a => k_is); (case l => k_is); (case c => k_is); (case k => k_is)))
    (case f7 => (refine' Tu.fnK ?a ?l ?c ?k; (case a => k_is); (case l => k_is); (case c => k_is); (case k => k_is)))
    (case f8 => (refine' Tu.fnK ?a ?l ?c ?k; (case a => k_is); (case l => k_is); (case c => k_is); (case k => k_is)))
    (case f9 => (refine' Tu.fnK ?a ?l ?c ?k; (case a => k_is); (case l => k_is); (case c => k_is); (case k => k_is)))
    (case f10 => (refine' Tu.fnK ?a ?l ?c ?k; (case a => k_is); (case l => k_is); (case c => k_is); (case k => k_is)))
    (case f11 => (refine' Tu.fnK ?a ?l ?c ?k; (case a => k_is); (case l => k_is); (case c => k_is); (case k => k_is)))
    (case f12 => (refine' Tu.fnK ?a ?l ?c ?k; (case a => k_is); (case l => k_is); (case c => k_is); (case k => k_is)))
    (case f13 => (refine' Tu.fnK ?a ?l ?c ?k; (case a => k_is); (case l => k_is); (case c => k_is); (case k => k_is)))
    (case f14 => (refine' Tu.fnK ?a ?l ?c ?k; (case a => k_is); (case l => k_is); (case c => k_is); (case k => k_is)))
    (case f15 => (refine' Tu.fnK ?a ?l ?c ?k; (case a => k_is); (case l => k_is); (case c => k_is); (case k => k_is)))
    (case f16 => (refine' Tu.fnK ?a ?l ?c ?k; (case a => k_is); (case l => k_is); (case c => k_is); (case k => k_is)))
    (case f17 => (refine' Tu.fnK ?a ?l ?c ?k; (case a => k_is); (case l => k_is); (case c => k_is); (case k => k_is)))
    (case f18 => (refine' Tu.fnK ?a ?l ?c ?k; (case a => k_is); (case l => k_is); (case c => k_is); (case k => k_is)))
    (case f19 => (refine' Tu.fnK ?a ?l ?c ?k; (case a => k_is); (case l => k_is); (case c => k_is); (case k => k_is)))
    (case f20 => (refine' Tu.fnK ?a ?l ?c ?k; (case a => k_is); (case l => k_is); (case c => k_is); (case k => k_is)))
    (case f21 => (refine' Tu.fnK ?a ?l ?c ?k; (case a => k_is); (case l => k_is); (case c => k_is); (case k => k_is)))
    (case gS => k_is)
    (case lS => (refine' Tu.strsK3 ?l; (case l => k_is)))
    (case gK => k_is)
    (case lK => (refine' Tu.strsK4 ?l; (case l => k_is)))
    (case gC => k_is)
    (case lC => (refine' Tu.strsK6 ?l; (case l => k_is)))
    (case g6 => k_is)
    (case gP => k_is)
    (case dP => (refine' Tu.dictK ?l ?k ?o; (case l => k_is); (case k => k_keys); (case o => decide)))
    (case p_all => k_is)
    (case p_both => k_is)
    (case p_care => k_is)
    (case p_lone => k_is)
    (case p_lones => k_is)
    (case p_pairs => k_is)
    (case gH => k_is)
    (case dH => (refine' Tu.dictK ?l ?k ?o; (case l => k_is); (case k => k_keys); (case o => decide)))
    (case h_all => k_is)
    (case h_both => k_is)
    (case h_care => k_is)
    (case h_lone => k_is)
    (case h_lones => k_is)
    (case h_pairs => k_is)
    (case q_h1 => (refine' Tu.pairK ?l ?x ?y ?z; (case l => k_is); (case x => decide); (case y => decide); (case z => decide)))
    (case q_h2 => (refine' Tu.pairK ?l ?x ?y ?z; (case l => k_is); (case x => decide); (case y => decide); (case z => decide)))
    (case q_h3 => (refine' Tu.pairK ?l ?x ?y ?z; (case l => k_is); (case x => decide); (case y => decide); (case z => decide)))
    (case gR => k_is)
    (case dR => (refine' Tu.dictK ?l ?k ?o; (case l => k_is); (case k => k_keys); (case o => decide)))
    (case r_all => k_is)
    (case t_all => (refine' Tu.refsK1 ?l; (case l => k_is)))
    (case q_rall0 => (refine' Tu.pairK ?l ?x ?y ?z; (case l => k_is); (case x => decide); (case y => decide); (case z => decide)))
    (case r_both => k_is)
    (case t_both => (refine' Tu.refsK2 ?l; (case l => k_is)))
    (case q_rboth0 => (refine' Tu.pairK ?l ?x ?y ?z; (case l => k_is); (case x => decide); (case y => decide); (case z => decide)))
    (case q_rboth1 => (refine' Tu.pairK ?l ?x ?y ?z; (case l => k_is); (case x => decide); (case y => decide); (case z => decide)))
    (case r_care => k_is)
    (case t_care => (refine' Tu.refsK2 ?l; (case l => k_is)))
    (case q_rcare0 => (refine' Tu.pairK ?l ?x ?y ?z; (case l => k_is); (case x => decide); (case y => decide); (case z => decide)))
    (case q_rcare1 => (refine' Tu.pairK ?l ?x ?y ?z; (case l => k_is); (case x => decide); (case y => decide); (case z => decide)))
    (case r_lone => k_is)
    (case t_lone => (refine' Tu.refsK1 ?l; (case l => k_is)))
    (case q_rlone0 => (refine' Tu.pairK ?l ?x ?y ?z; (case l => k_is); (case x => decide); (case y => decide); (case z => decide)))
    (case r_lones => k_is)
    (case t_lones => (refine' Tu.refsK3 ?l; (case l => k_is)))
    (case q_rlones0 => (refine' Tu.pairK ?l ?x ?y ?z; (case l => k_is); (case x => decide); (case y => decide); (case z => decide)))
    (case q_rlones1 => (refine' Tu.pairK ?l ?x ?y ?z; (case l => k_is); (case x => decide); (case y => decide); (case z => decide)))
    (case q_rlones2 => (refine' Tu.pairK ?l ?x ?y ?z; (case l => k_is); (case x => decide); (case y => decide); (case z => decide)))
    (case r_pairs => k_is)
    (case t_pairs => (refine' Tu.refsK1 ?l; (case l => k_is)))
    (case q_rpairs0 => (refine' Tu.pairK ?l ?x ?y ?z; (case l => k_is); (case x => decide); (case y => decide); (case z => decide)))
    (case z_isinstance => k_is)
    (case z_str => k_is)
    (case z_all => k_is)
    (case z_tuple => k_is)
    (case z_len => k_is)
    (case z_bool => k_is)
    (case z_zip => k_is)
    (case z_int => k_is)
    (case z_sum => k_is)
    (case z_range => k_is)
    (case z_enumerate => k_is)
    (case z_list => k_is)
    (case z_any => k_is)
