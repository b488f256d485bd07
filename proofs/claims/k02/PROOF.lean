import PyProof.Rows.All
import Wide.All
import OpenK.AllK
import Wide.FinOn
import HandS.ForMost
import HandS.Evl
import HandS.IsInst
import HandS.WrittenGet
import HandS.Replace
import HandS.ReplaceLit
import HandS.TupMul
import HandS.Zip
import HandS.ReplaceList
import HandS.Walk
import HandS.SetBool
import HandS.Conv
import KE.KDictDisplayH
import HandS.Deep
import PySem.Challenge.RW_turnedends_k02_whole_standings
set_option Elab.async false
set_option linter.all false
set_option maxRecDepth 100000
set_option maxHeartbeats 4000000
namespace Tu
open PySem PySem.Spec PyProof.Rows L2 Evl
/-! ### the text -/
def topS (i : Nat) : Stmt := PySem.Challenge.pw_turnedends_k02_whole_standings.main.body.getD i (.Pass ⟨0, 0, 0, 0⟩)
abbrev sNum : Stmt := topS 21
abbrev sTake : Stmt := topS 22
abbrev sPick : Stmt := topS 23
theorem scNum : FnScope ["script", "index", "cells", "cell", "low", "high", "total", "blend"] ["script", "index"] (defScope sNum) := ⟨rfl, rfl, rfl, by decide +kernel, rfl, by decide +kernel, by decide +kernel⟩
theorem scTake : FnScope ["draw", "many"] ["draw", "many"] (defScope sTake) := ⟨rfl, rfl, rfl, by decide +kernel, rfl, by decide +kernel, by decide +kernel⟩
theorem scPick : FnScope ["draw", "things"] ["draw", "things"] (defScope sPick) := ⟨rfl, rfl, rfl, by decide +kernel, rfl, by decide +kernel, by decide +kernel⟩
/-! ### data -/
def flatD : PyData → Bool
  | .none => true | .bool _ => true | .int _ => true | .str x => x.cps.all (· < 0x110000) | _ => false
theorem flat_lay : ∀ ds : List PyData, ds.all flatD = true → PyData.canLayAll0 ds = true
  | [], _ => by simp [PyData.canLayAll0]
  | d :: ds, h => by
    rw [List.all_cons, Bool.and_eq_true] at h
    have ih := flat_lay ds h.2
    cases d <;> first | (simp [PyData.canLayAll0, PyData.canLay0, ih]; done) | (simp only [PyData.canLayAll0, PyData.canLay0, ih, Bool.and_true]; exact h.1) | exact absurd h.1 Bool.false_ne_true
theorem flat_depth : ∀ ds : List PyData, ds.all flatD = true → PyData.depthAll ds ≤ 1
  | [], _ => by simp [PyData.depthAll]
  | d :: ds, h => by
    rw [List.all_cons, Bool.and_eq_true] at h
    have ih := flat_depth ds h.2
    cases d <;> first | (simp only [PyData.depthAll, PyData.depth]; omega) | exact absurd h.1 Bool.false_ne_true
theorem shaped_fl {ds : List PyData} (h : ds.all flatD = true) : SeqAt.shaped (.list ds) = true := by
  have h1 := flat_depth ds h
  have h2 : PyData.depth (.list ds) ≤ 64 := by
    simp only [PyData.depth]
    omega
  show (PyData.canLay0 (.list ds) && decide (PyData.depth (.list ds) ≤ 64)) = true
  rw [Bool.and_eq_true]
  exact ⟨by simp only [PyData.canLay0]; exact flat_lay ds h, decide_eq_true h2⟩
theorem shaped_ft {ds : List PyData} (h : ds.all flatD = true) : SeqAt.shaped (.tuple ds) = true := by
  have h1 := flat_depth ds h
  have h2 : PyData.depth (.tuple ds) ≤ 64 := by
    simp only [PyData.depth]
    omega
  show (PyData.canLay0 (.tuple ds) && decide (PyData.depth (.tuple ds) ≤ 64)) = true
  rw [Bool.and_eq_true]
  exact ⟨by simp only [PyData.canLay0]; exact flat_lay ds h, decide_eq_true h2⟩
theorem ints_flat : ∀ ns : List Int, (ns.map PyData.int).all flatD = true
  | [] => rfl
  | _ :: ns => ints_flat ns
theorem dp_ints {K : PySem.W.Frag} {H : Hp} : ∀ ns : List Int, DpAll K H (ns.map V.int) (ns.map PyData.int)
  | [] => .nil
  | n :: ns => .cons (.int n) (dp_ints ns)
theorem el_if {σ : L2.St} {H : Hp} {t : TT} {ta tb : TE} {b : Bool} {xs : List V} (h : EvT t σ H b) (h1 : b = true → EvL ta σ H xs) (h2 : b = false → EvL tb σ H xs) : EvL (tIf t ta tb) σ H xs := fun H1 e Q q => h H1 e _ fun H2 e2 => by
  cases b with
  | true => exact iteT (h1 rfl H2 (e.trans e2) Q fun p H3 hp e3 x => q p H3 (fresh_back e2 hp) (e2.trans e3) x)
  | false => exact iteF (h2 rfl H2 (e.trans e2) Q fun p H3 hp e3 x => q p H3 (fresh_back e2 hp) (e2.trans e3) x)
theorem rc_len {K : PySem.W.Frag} {H : Hp} {p : Addr} {ys : List V} (h : SqL K H p ys ∨ SqT K H p ys) : RC (fun xs H Q => ∃ p ys, xs = [V.ref p] ∧ (SqL K H p ys ∨ SqT K H p ys) ∧ Q (.int ys.length) H) [.ref p] H (.int ys.length) :=
  fun H1 e Q q => ⟨p, ys, rfl, h.elim (fun z => .inl (ex_l e z)) (fun z => .inr (ex_t e z)), q H1 (Ex.refl H1)⟩
theorem rv_ne_nil {K : PySem.W.Frag} {H : Hp} {a p : Addr} {ns : List Int} (h : SqL K H a (ns.map V.int)) (hp : SqL K H p []) : RV (rNeD K) (.ref a) (.ref p) H (.bl (!ns.isEmpty)) := fun H1 e Q q => by
  refine ⟨.list (ns.map .int), .list [], .lst (ex_l e h) (dp_ints ns), .lst (ex_l e hp) .nil, shaped_fl (ints_flat ns), by decide, ?_⟩
  cases ns with
  | nil => exact q H1 (Ex.refl H1)
  | cons n ns => exact q H1 (Ex.refl H1)
theorem rv_mod {H : Hp} {i j : Int} (h : 0 < j) : RV (rI (fun _ j => j ≠ 0) fun i j => V.int (i.fmod j)) (.int i) (.int j) H (.int (i % j)) := fun H1 _ Q q => ⟨i, j, rfl, rfl, by omega, by
  show Q (V.int (i.fmod j)) H1
  rw [Int.fmod_eq_emod_of_nonneg i (by omega)]
  exact q H1 (Ex.refl H1)⟩
theorem rv_div {H : Hp} {i j : Int} (h : 0 < j) (h2 : j < 1000000000) : RV (rI CDivN fun i j => V.int (i.fdiv j)) (.int i) (.int j) H (.int (i / j)) := fun H1 _ Q q => ⟨i, j, rfl, rfl, ⟨by omega, by omega⟩, by
  show Q (V.int (i.fdiv j)) H1
  rw [Int.fdiv_eq_ediv_of_nonneg i (by omega)]
  exact q H1 (Ex.refl H1)⟩
theorem rv_mulL {H : Hp} {i j : Int} (h : -(2 ^ 64) < i ∧ i < 2 ^ 64) : RV (rI CMul fun i j => V.int (i * j)) (.int i) (.int j) H (.int (i * j)) := rv_I (.inl h)
theorem rv_add {H : Hp} {i j : Int} : RV (rI0 fun i j => V.int (i + j)) (.int i) (.int j) H (.int (i + j)) := rv_I0
theorem q_par {σ : L2.St} {H : Hp} {D : Ends} {tz : TS} {i j : Nat} {ta : TA} {v w : V} (h : EvA ta σ H [v, w]) (k : ∀ H1, Ex H H1 → tz D ((σ.set i (some v)).set j (some w)) H1) : tSeq (tPar i j ta) tz D σ H := h H (Ex.refl H) _ fun H1 e => ⟨v, w, rfl, k H1 e⟩
/-- the script's first cells, or [5] -/
def cellsOf (ns : List Int) : List Int := if ns.isEmpty then [5] else ns
theorem cells_len (ns : List Int) (h : ns.length ≤ 63) : 0 < (cellsOf ns).length ∧ (cellsOf ns).length ≤ 63 := by
  unfold cellsOf
  cases ns with
  | nil => exact ⟨by decide, by decide⟩
  | cons n ns => exact ⟨Nat.succ_pos _, h⟩
def cellOf (ns : List Int) (ix : Int) : Int := (cellsOf ns).getD (ix % ((cellsOf ns).length : Int)).toNat 0 + 13 * (ix / ((cellsOf ns).length : Int))
def blendOf (ns : List Int) (ix : Int) : Int := ((cellOf ns ix % 1000003 + 977 * ix) * 48271 + 31 * (cellOf ns ix / 1000003 % 999983) + (cellsOf ns).sum % 65521) % 2147483647
def numOf (ns : List Int) (ix : Int) : Int := blendOf ns ix * (blendOf ns ix + 31 * ix + 7) % 2147483629 * 65537 + cellOf ns ix / 1000003 % 999983
theorem cut63 (xs : List V) (h : xs.length ≤ 63) : cutV xs none (some 63) = xs := by
  unfold cutV
  rw [HT.sIx_none, show HT.sIx xs.length xs.length (some 63) = min 63 xs.length from HT.sIx_nat xs.length xs.length 63]
  rw [List.drop_zero, Nat.sub_zero]
  exact List.take_of_length_le (by omega)
section
variable {P : Program} {w : World} {K : PySem.W.Frag} {mg : Str → Option Value} {base : Heap}
/-- a call of int on an int -/
theorem ev_int1 {te : TE} {σ : L2.St} {H : Hp} {i : Int} (h : Ev te σ H (.int i)) : Ev (tCB (fun xs H Q => (∃ i, xs = [V.int i] ∧ Q (.int i) H) ∨ ∃ k, xs = [V.bl k] ∧ Q (.int (if k then 1 else 0)) H) (tCons te tNil)) σ H (.int i) :=
  ev_cb (vs := [.int i]) (ea_cons h ea_nil) fun H1 _ Q q => .inl ⟨i, rfl, q H1 (Ex.refl H1)⟩
def spNum (K : PySem.W.Frag) : Sp := fun vs H Q _ => ∃ (a : Addr) (ns : List Int) (i : Int), vs = [.ref a, .int i] ∧ SqL K H a (ns.map V.int) ∧ ns.length ≤ 63 ∧ 0 ≤ i ∧ i ≤ 1000000 ∧ RetV (.int (numOf ns i)) H Q
theorem ok_num {f : Addr} {fd : FuncData} {k : Nat} (F : Fun K "_law_number" "_law_number" sNum f fd) (mi : mg "int" = none) (ml : mg "len" = none) (ms : mg "sum" = none) : FnOk P w K mg base CX0 (k + 1) f fd ["script", "index"] (spNum K) := by
  refine F.ok scNum (fun vs H Q E h => ?_) (fun cdv A outer s H vs Q E hr h => ?_)
  · obtain ⟨a, ns, i, rfl, _⟩ := h
    rfl
  · obtain ⟨a, ns, ix, rfl, hS, hlen, i0, i1, q⟩ := h
    have nd := scNum.nd
    refine ⟨_, pss_cons (ps_set (i := 2) nd rfl (.inl rfl) (pe_ifExp (pt_cmpR (op_neD hr.units) (pv 0) (pe_lst pa_nil) (nomark _)) (pe_slice sl_list (pv 0) po_none (po_some pe_int)) (pe_lst (pa_cons pe_int pa_nil))))
      (pss_cons (ps_set (i := 3) nd rfl (.inl rfl) (pe_op op_add
          (pe_ix ix_list (pv 2) (pe_op op_modN (pe_callTy call_int1 (by rfl) mi (by decide +kernel) (pa_cons (pv 1) pa_nil)) (pe_callB call_len_seq (by rfl) ml PySem.boot_len (pa_cons (pv 2) pa_nil))) (fun _ _ => rfl))
          (pe_op op_mul pe_int (pe_op op_fdivN (pv 1) (pe_callB call_len_seq (by rfl) ml PySem.boot_len (pa_cons (pv 2) pa_nil))))))
      (pss_cons (ps_par (i := 4) (j := 5) (by rfl) nd rfl rfl (by decide) rfl rfl (pa_cons (pe_op op_modN (pe_callTy call_int1 (by rfl) mi (by decide +kernel) (pa_cons (pv 3) pa_nil)) pe_int)
          (pa_cons (pe_op op_modN (pe_callTy call_int1 (by rfl) mi (by decide +kernel) (pa_cons (pe_op op_fdivN (pv 3) pe_int) pa_nil)) pe_int) pa_nil)) (by rfl))
      (pss_cons (ps_set (i := 6) nd rfl (.inl rfl) (pe_op op_modN (pe_callTy call_int1 (by rfl) mi (by decide +kernel) (pa_cons (pe_callB (cr_sum rfl) (by rfl) ms (by decide +kernel) (pa_cons (pv 2) pa_nil)) pa_nil)) pe_int))
      (pss_cons (ps_set (i := 7) nd rfl (.inl rfl) (pe_op op_modN (pe_callTy call_int1 (by rfl) mi (by decide +kernel) (pa_cons
          (pe_op op_add (pe_op op_add (pe_op op_mul (pe_op op_add (pv 4) (pe_op op_mul pe_int (pv 1))) pe_int) (pe_op op_mul pe_int (pv 5))) (pv 6)) pa_nil)) pe_int))
      (pss_one (ps_ret (pe_op op_add (pe_op op_mul (pe_op op_modN (pe_callTy call_int1 (by rfl) mi (by decide +kernel) (pa_cons
          (pe_op op_mul (pv 7) (pe_op op_add (pe_op op_add (pv 7) (pe_op op_mul pe_int (pv 1))) pe_int)) pa_nil)) pe_int) pe_int) (pv 5)))))))), ?_⟩
    have hc := cells_len ns hlen
    have nz : (0 : Int) < ((cellsOf ns).length : Int) := by omega
    -- cells
    refine q_asgL (xs := (cellsOf ns).map V.int) (el_if (b := !ns.isEmpty) (et_test (ev_opL (ev_var rfl) (el_lst ea_nil (by decide)) fun p H1 hp e => rv_ne_nil (ex_l e hS) (sq_of hp)))
      (fun hb => ?_) (fun hb => ?_)) fun p H1 hp e1 h1 => ?_
    · have e0 : cellsOf ns = ns := by
        unfold cellsOf
        cases ns with
        | nil => cases hb
        | cons n ns => rfl
      have ex : cutV (ns.map V.int) none (some 63) = (cellsOf ns).map V.int := by
        rw [e0, cut63 _ (by rw [List.length_map]; exact hlen)]
      rw [← ex]
      exact el_sl (ev_var rfl) eo_none (eo_some ev_c) hS
    · have e0 : (cellsOf ns).map V.int = [V.int 5] := by
        unfold cellsOf
        cases ns with
        | nil => rfl
        | cons n ns => cases hb
      rw [e0]
      exact el_lst (ea_cons ev_c ea_nil) (by decide)
    -- cell
    have hP : SqL K H1 p ((cellsOf ns).map V.int) := sq_of h1
    have hl : ((cellsOf ns).map V.int).length = (cellsOf ns).length := List.length_map ..
    have mlt : 0 ≤ ix % ((cellsOf ns).length : Int) ∧ ix % ((cellsOf ns).length : Int) < ((cellsOf ns).length : Int) := ⟨Int.emod_nonneg _ (by omega), Int.emod_lt_of_pos _ nz⟩
    obtain ⟨j, hj⟩ : ∃ j : Nat, ix % ((cellsOf ns).length : Int) = (j : Int) := ⟨(ix % ((cellsOf ns).length : Int)).toNat, by omega⟩
    have hj2 : j < (cellsOf ns).length := by omega
    have gx : atI ((cellsOf ns).map V.int) (ix % ((cellsOf ns).length : Int)) = some (.int ((cellsOf ns)[j])) := by
      rw [hj]
      refine atI_nat ?_
      rw [List.getElem?_map, List.getElem?_eq_getElem hj2]
      rfl
    have evlen : ∀ {σ : L2.St} {H' : Hp}, Ex H1 H' → σ[2]? = some (some (.ref p)) → Ev (tCB (fun xs H Q => ∃ p ys, xs = [V.ref p] ∧ (SqL K H p ys ∨ SqT K H p ys) ∧ Q (.int ys.length) H) (tCons (tVar 2) tNil)) σ H' (.int ((cellsOf ns).length : Int)) := fun e hs => by
      have z := ev_cb (ea_cons (ev_var hs) ea_nil) (rc_len (.inl (ex_l e hP)))
      rw [hl] at z
      exact z
    refine q_asg (v := .int ((cellsOf ns)[j] + 13 * (ix / ((cellsOf ns).length : Int)))) (ev_op (ev_op (ev_var rfl) (ev_op (ev_int1 (ev_var rfl)) (evlen (Ex.refl _) rfl) (rv_mod nz)) (rv_ixL hP gx))
      (ev_op ev_c (ev_op (ev_var rfl) (evlen (Ex.refl _) rfl) (rv_div nz (by omega))) (rv_mulL (by decide))) rv_add) fun H2 e2 => ?_
    have ec : (cellsOf ns)[j] + 13 * (ix / ((cellsOf ns).length : Int)) = cellOf ns ix := by
      unfold cellOf
      rw [hj, Int.toNat_natCast, List.getD_eq_getElem?_getD, List.getElem?_eq_getElem hj2]
      rfl
    rw [ec]
    -- low, high
    refine q_par (v := .int (cellOf ns ix % 1000003)) (w := .int (cellOf ns ix / 1000003 % 999983)) (ea_cons (ev_op (ev_int1 (ev_var rfl)) ev_c (rv_mod (by decide))) (ea_cons (ev_op (ev_int1 (ev_op (ev_var rfl) ev_c (rv_div (by decide) (by decide)))) ev_c (rv_mod (by decide))) ea_nil)) fun H3 e3 => ?_
    have l0 : 0 ≤ cellOf ns ix % 1000003 ∧ cellOf ns ix % 1000003 < 1000003 := ⟨Int.emod_nonneg _ (by decide), Int.emod_lt_of_pos _ (by decide)⟩
    -- total
    refine q_asg (v := .int ((cellsOf ns).sum % 65521)) (ev_op (ev_int1 (ev_cb (ea_cons (ev_var rfl) ea_nil) fun H4 e4 Q q => ⟨p, cellsOf ns, rfl, ex_l (e2.trans (e3.trans e4)) hP, q H4 (Ex.refl _)⟩)) ev_c (rv_mod (by decide))) fun H4 e4 => ?_
    -- blend
    refine q_asg (v := .int (blendOf ns ix)) (ev_op (ev_int1 (ev_op (ev_op (ev_op (ev_op (ev_var rfl) (ev_op ev_c (ev_var rfl) (rv_mulL (by decide))) rv_add) ev_c (rv_mulL ?_)) (ev_op ev_c (ev_var rfl) (rv_mulL (by decide))) rv_add) (ev_var rfl) rv_add)) ev_c (rv_mod (by decide))) fun H5 e5 => ?_
    · constructor <;> omega
    have b0 : 0 ≤ blendOf ns ix ∧ blendOf ns ix < 2147483647 := ⟨Int.emod_nonneg _ (by decide), Int.emod_lt_of_pos _ (by decide)⟩
    refine s_ret (ev_op (ev_op (ev_op (ev_int1 (ev_op (ev_var rfl) (ev_op (ev_op (ev_var rfl) (ev_op ev_c (ev_var rfl) (rv_mulL (by decide))) rv_add) ev_c rv_add) (rv_mulL ⟨?_, ?_⟩))) ev_c (rv_mod (by decide))) ev_c (rv_mulL ?_)) (ev_var rfl) rv_add) fun H6 e6 => ?_
    · omega
    · omega
    · have := Int.emod_lt_of_pos (blendOf ns ix * (blendOf ns ix + 31 * ix + 7)) (b := 2147483629) (by decide)
      have := Int.emod_nonneg (blendOf ns ix * (blendOf ns ix + 31 * ix + 7)) (b := 2147483629) (by decide)
      constructor <;> omega
    · exact q _ (e1.trans (e2.trans (e3.trans (e4.trans (e5.trans e6)))))
end
end Tu
namespace Tu
open PySem PySem.Spec PyProof.Rows L2 Evl
/-! ### what draws: one list changes -/
def ExB (d : Addr) (H H' : Hp) : Prop := ∀ b o, b ≠ d → H b = some o → H' b = some o
theorem ExB.refl (d : Addr) (H : Hp) : ExB d H H := fun _ _ _ h => h
theorem ExB.of {d : Addr} {H H' : Hp} (e : Ex H H') : ExB d H H' := fun b o _ h => e b o h
theorem ExB.trans {d : Addr} {H H1 H2 : Hp} (a : ExB d H H1) (b : ExB d H1 H2) : ExB d H H2 := fun c o n h => b c o n (a c o n h)
theorem ExB.upd {d : Addr} {H : Hp} {o : HO} : ExB d H (upd H d o) := fun b u n h => by rw [upd_ne n]; exact h
theorem ExB.new {d p : Addr} {H : Hp} {o : HO} (h : H p = none) : ExB d H (L2.upd H p o) := .of (Ex.new h)
theorem ExB.fresh {d p : Addr} {H H' : Hp} (e : ExB d H H') (h : H' p = none) (n : p ≠ d) : H p = none := by
  cases q : H p with
  | none => rfl
  | some o =>
    rw [e p o n q] at h
    cases h
/-- .. and one more list, fresh at first, changes -/
theorem ExB.mut {d p : Addr} {H H' : Hp} {o : HO} (e : ExB d H H') (h : H p = none) : ExB d H (L2.upd H' p o) := fun b u n hb => by
  rw [upd_ne (ne_of_none hb h)]
  exact e b u n hb
theorem ExB.sql {K : PySem.W.Frag} {d t : Addr} {H H' : Hp} {xs : List V} (e : ExB d H H') (n : t ≠ d) (h : SqL K H t xs) : SqL K H' t xs := by
  rcases h with (h | ⟨o, h⟩) | h
  · exact .inl (.inl (e _ _ n h))
  · exact .inl (.inr ⟨o, e _ _ n h⟩)
  · exact .inr h
theorem ExB.sqt {K : PySem.W.Frag} {d t : Addr} {H H' : Hp} {xs : List V} (e : ExB d H H') (n : t ≠ d) (h : SqT K H t xs) : SqT K H' t xs := by
  rcases h with (h | ⟨o, h⟩) | h
  · exact .inl (.inl (e _ _ n h))
  · exact .inl (.inr ⟨o, e _ _ n h⟩)
  · exact .inr h
structure Draw (K : PySem.W.Frag) (H : Hp) (d a : Addr) (ns : List Int) (c : Nat) : Prop where
  here : H d = some (.lst [.ref a, .int (c : Int)])
  sq : SqL K H a (ns.map V.int)
  len : ns.length ≤ 63
section
variable {P : Program} {w : World} {K : PySem.W.Frag} {mg : Str → Option Value} {base : Heap} {H H' : Hp} {d a : Addr} {ns : List Int} {c c' : Nat}
theorem Draw.keep (D : Draw K H d a ns c) (e : ExB d H H') : SqL K H' a (ns.map V.int) := by
  rcases D.sq with (h | ⟨o, h⟩) | h
  · have n : a ≠ d := ne_of h D.here fun z => by
      injection z with z
      cases ns with
      | nil => cases z
      | cons n ns => injection z with z _; cases z
    exact e.sql n D.sq
  · exact e.sql (ne_of h D.here (fun z => nomatch z)) D.sq
  · exact .inr h
theorem Draw.mono (D : Draw K H d a ns c) (e : Ex H H') : Draw K H' d a ns c := ⟨e _ _ D.here, ex_l e D.sq, D.len⟩
theorem Draw.step (D : Draw K H d a ns c) (e : ExB d H H') (h : H' d = some (.lst [.ref a, .int (c' : Int)])) : Draw K H' d a ns c' := ⟨h, D.keep e, D.len⟩
/-- a tuple is not the draws' list -/
theorem Draw.neT {t : Addr} {xs : List V} (D : Draw K H d a ns c) (h : H t = some (.tup xs)) : t ≠ d := ne_of h D.here (fun z => nomatch z)
/-- what a def that draws hands back -/
def DrawQ (K : PySem.W.Frag) (H : Hp) (d a : Addr) (ns : List Int) (c N : Nat) (R : V → Hp → Prop) (Q : VK) : Prop := ∀ v H' c', Draw K H' d a ns c' → ExB d H H' → c ≤ c' → c' ≤ c + N → R v H' → Q v H'
theorem DrawQ.go {N M : Nat} {R : V → Hp → Prop} {Q : VK} (q : DrawQ K H d a ns c N R Q) (e : ExB d H H') (h : c ≤ c') (h2 : c' + M ≤ c + N) : DrawQ K H' d a ns c' M R Q :=
  fun v H2 c2 D e2 l1 l2 r => q v H2 c2 D (e.trans e2) (by omega) (by omega) r
theorem call_raw {sp : Sp} {dvs vs : List V} {E : XK} {ta : TA} {σ : L2.St} {Q : VK} (h : EvA ta σ H vs) (k : ∀ H1, Ex H H1 → sp (vs ++ dvs) H1 Q E) : tCall sp dvs E ta σ H Q := h H (Ex.refl _) _ k
def spTake (K : PySem.W.Frag) : Sp := fun vs H Q _ => ∃ (d a : Addr) (ns : List Int) (c : Nat) (many : Int), vs = [.ref d, .int many] ∧ Draw K H d a ns c ∧ c < 900000 ∧ 0 < many ∧
  DrawQ K H d a ns c 1 (fun v _ => ∃ n : Int, 0 ≤ n ∧ n < many ∧ v = .int n) Q
theorem ok_take {f fN : Addr} {fd fdN : FuncData} {k : Nat} (F : Fun K "_law_take" "_law_take" sTake f fd) (GN : FnOk P w K mg base CX0 k fN fdN ["script", "index"] (spNum K)) (kN : PySem.W.keepIn K (.ref fN) = true) (bN : Binds K fdN ["script", "index"] []) (gN : mg "_law_number" = some (.ref fN)) (mi : mg "int" = none) :
    FnOk P w K mg base CX0 (k + 1) f fd ["draw", "many"] (spTake K) := by
  refine F.ok scTake (fun vs H Q E h => ?_) (fun cdv A outer s H vs Q E hr h => ?_)
  · obtain ⟨d, a, ns, c, many, rfl, _⟩ := h
    rfl
  · obtain ⟨d, a, ns, c, many, rfl, D, hc, hm, q⟩ := h
    refine ⟨_, pss_cons (ps_asg (pe_op op_add (pe_ix ix_list (pv 0) pe_int (fun _ _ => rfl)) pe_int) (pg_sub (pv 0) pe_int set_list))
      (pss_one (ps_ret (pe_op op_modN (pe_callTy call_int1 (by rfl) mi (by decide +kernel) (pa_cons (pe_call GN hr (by rfl) gN kN bN .nil pass0
        (pa_cons (pe_ix ix_list (pv 0) pe_int (fun _ _ => rfl)) (pa_cons (pe_callTy call_int1 (by rfl) mi (by decide +kernel) (pa_cons (pe_ix ix_list (pv 0) pe_int (fun _ _ => rfl)) pa_nil)) pa_nil))) pa_nil)) (pv 1)))), ?_⟩
    refine q_setL (j := 1) (v := .int ((c : Int) + 1)) D.here (ev_op (ev_op (ev_var rfl) ev_c (rv_ixL (i := 1) (sq_of D.here) (atI_nat (j := 1) rfl))) ev_c rv_add) (ev_var rfl) ev_c (Nat.lt_succ_self 1) fun H1 e1 => ?_
    have eB : ExB d H (upd H1 d (.lst ([.ref a, .int (c : Int)].set 1 (.int ((c : Int) + 1))))) := (ExB.of e1).trans .upd
    have D1 : Draw K (upd H1 d (.lst ([.ref a, .int (c : Int)].set 1 (.int ((c : Int) + 1))))) d a ns (c + 1) := D.step eB (by rw [upd_same]; rfl)
    refine s_ret (v := .int (numOf ns ((c + 1 : Nat) : Int) % many)) (ev_op (ev_int1 (ev_call (vs := [.ref a, .int ((c + 1 : Nat) : Int)]) (ea_cons (ev_op (ev_var rfl) ev_c (rv_ixL (i := 0) (sq_of D1.here) (atI_nat (j := 0) rfl)))
      (ea_cons (ev_int1 (ev_op (ev_var rfl) ev_c (rv_ixL (i := 1) (sq_of D1.here) (atI_nat (j := 1) rfl)))) ea_nil)) ?_)) (ev_var rfl) (rv_mod hm)) fun H2 e2 => ?_
    · exact fun H2 e2 Q q E => ⟨a, ns, _, rfl, (D1.mono e2).sq, D.len, by omega, by omega, q⟩
    · exact q _ _ (c + 1) (D1.mono e2) (eB.trans (.of e2)) (by omega) (by omega) ⟨_, Int.emod_nonneg _ (by omega), Int.emod_lt_of_pos _ hm, rfl⟩
def spPick (K : PySem.W.Frag) : Sp := fun vs H Q _ => ∃ (d a t : Addr) (ns : List Int) (c : Nat) (xs : List V), vs = [.ref d, .ref t] ∧ Draw K H d a ns c ∧ c < 900000 ∧ t ≠ d ∧ SqL K H t xs ∧ 0 < xs.length ∧
  DrawQ K H d a ns c 1 (fun v _ => v ∈ xs) Q
theorem ok_pick {f fN : Addr} {fd fdN : FuncData} {k : Nat} (F : Fun K "_law_pick" "_law_pick" sPick f fd) (GN : FnOk P w K mg base CX0 k fN fdN ["draw", "many"] (spTake K)) (kN : PySem.W.keepIn K (.ref fN) = true) (bN : Binds K fdN ["draw", "many"] []) (gN : mg "_law_take" = some (.ref fN)) (ml : mg "len" = none) :
    FnOk P w K mg base CX0 (k + 1) f fd ["draw", "things"] (spPick K) := by
  refine F.ok scPick (fun vs H Q E h => ?_) (fun cdv A outer s H vs Q E hr h => ?_)
  · obtain ⟨d, a, t, ns, c, xs, rfl, _⟩ := h
    rfl
  · obtain ⟨d, a, t, ns, c, xs, rfl, D, hc, ht, hx, h0, q⟩ := h
    refine ⟨_, pss_one (ps_ret (pe_ix ix_list (pv 1) (pe_call GN hr (by rfl) gN kN bN .nil pass0
        (pa_cons (pv 0) (pa_cons (pe_callB call_len_seq (by rfl) ml PySem.boot_len (pa_cons (pv 1) pa_nil)) pa_nil))) (fun _ _ => rfl))), ?_⟩
    refine ⟨_, rfl, call_raw (vs := [.ref d, .int (xs.length : Int)]) (ea_cons (ev_var rfl) (ea_cons (ev_cb (ea_cons (ev_var rfl) ea_nil) (rc_len (.inl hx))) ea_nil)) fun H1 e1 => ⟨d, a, ns, c, _, rfl, D.mono e1, hc, by omega, ?_⟩⟩
    intro v H2 c2 D2 e2 l1 l2 ⟨n, n0, n1, ev⟩
    subst ev
    obtain ⟨j, rfl⟩ : ∃ j : Nat, n = (j : Int) := ⟨n.toNat, by omega⟩
    have hj : j < xs.length := by omega
    exact ⟨t, xs, (j : Int), xs[j], rfl, rfl, e2.sql ht (ex_l e1 hx), atI_nat (List.getElem?_eq_getElem hj), q _ _ c2 D2 ((ExB.of e1).trans e2) l1 l2 (List.getElem_mem hj)⟩
end
end Tu
namespace Tu
open PySem PySem.Spec PyProof.Rows L2 Evl
/-! ### conversions, signs -/
inductive Cv where | all | both | care | lone | lones | pairs deriving DecidableEq
def Cv.s : Cv → Str | .all => "all" | .both => "both" | .care => "care" | .lone => "lone" | .lones => "lones" | .pairs => "pairs"
inductive Sg where | a | n | r deriving DecidableEq
def Sg.c : Sg → Nat | .a => 97 | .n => 110 | .r => 114
def txt (l : List Sg) : Str := ⟨(l.map Sg.c).toArray⟩
def wayV (ws : List Cv) : List V := ws.map fun c => .str c.s
theorem conv_words : ∀ acc : List V, (∀ v ∈ acc, ∃ cv : Cv, v = .str cv.s) → ∃ ws : List Cv, acc = wayV ws
  | [], _ => ⟨[], rfl⟩
  | v :: acc, h => by
    obtain ⟨cv, e⟩ := h v (List.mem_cons_self ..)
    obtain ⟨ws, e2⟩ := conv_words acc fun x hx => h x (List.mem_cons_of_mem _ hx)
    exact ⟨cv :: ws, by rw [e, e2]; rfl⟩
theorem conv_signs : ∀ acc : List V, (∀ v ∈ acc, ∃ g : Sg, v = .str ⟨#[g.c]⟩) → ∃ l : List Sg, acc = l.map fun g => V.str ⟨#[g.c]⟩
  | [], _ => ⟨[], rfl⟩
  | v :: acc, h => by
    obtain ⟨cv, e⟩ := h v (List.mem_cons_self ..)
    obtain ⟨ws, e2⟩ := conv_signs acc fun x hx => h x (List.mem_cons_of_mem _ hx)
    exact ⟨cv :: ws, by rw [e, e2]; rfl⟩
abbrev sWay : Stmt := topS 24
abbrev sText : Stmt := topS 25
theorem scWay : FnScope ["draw", "most", "words", "place"] ["draw", "most"] (defScope sWay) := ⟨rfl, rfl, rfl, by decide +kernel, rfl, by decide +kernel, by decide +kernel⟩
theorem scText : FnScope ["draw", "most", "place"] ["draw", "most"] (defScope sText) := ⟨rfl, rfl, rfl, by decide +kernel, rfl, by decide +kernel, by decide +kernel⟩
section
variable {P : Program} {w : World} {K : PySem.W.Frag} {mg : Str → Option Value} {base : Heap} {H H' : Hp} {d a : Addr} {ns : List Int} {c c' : Nat}
/-- a comprehension whose element draws once -/
theorem lc_drawn {te : TE} {σ : L2.St} {vs : List Nat} {H1 : Hp} {Dl : Addr} {Qd : Hp → Prop} {j n : Nat} (R : V → Prop) (D : Draw K H1 d a ns c) (hD : H1 Dl = none) (hn : n ≤ 1000) (hw : ∀ x, wipe ((wipe σ vs).set j (some x)) vs = wipe σ vs)
    (turn : ∀ i H' c', i < n → Draw K H' d a ns c' → c' ≤ c + i → ExB d H1 H' → ∀ Q, DrawQ K H' d a ns c' 1 (fun v _ => R v) Q → te ((wipe σ vs).set j (some (.int ((0 : Int) + (i : Int))))) H' Q)
    (done : ∀ H' acc c', Draw K H' d a ns c' → ExB d H1 H' → c ≤ c' → c' ≤ c + n → H' Dl = some (.lst acc) → acc.length = n → (∀ v ∈ acc, R v) → Qd H') :
    ∃ W : Nat → Nat → Hp → Prop, (∃ m, W 0 m (upd H1 Dl (.lst []))) ∧ ∀ i m H, W i m H →
      ((Itr 0 n).stop i H ∧ Qd H) ∨ ((Itr 0 n).go i H ∧ ∃ Nx : Hp → Prop, (∀ H', Nx H' → ∃ m', m' < m ∧ W (i + 1) m' H') ∧ ∀ x H', (Itr 0 n).yld i H x H' → gName j x (wipe σ vs) H' fun σ2 H2 => wipe σ2 vs = wipe σ vs ∧ tYes σ2 H2 fun b H3 =>
        if b = true then te σ2 H3 fun y H4 => ∃ acc, H4 Dl = some (.lst acc) ∧ acc.length < sizeLine ∧ Nx (upd H4 Dl (.lst (acc ++ [y]))) else Nx H3) := by
  have nd : Dl ≠ d := fun e => by
    subst e
    rw [D.here] at hD
    cases hD
  refine lc_range (lo := 0) (n := n) (fun i H' => ∃ acc c', Draw K H' d a ns c' ∧ ExB d H1 H' ∧ c ≤ c' ∧ c' ≤ c + i ∧ H' Dl = some (.lst acc) ∧ acc.length = i ∧ (∀ v ∈ acc, R v)) ?_ ?_ ?_
  · exact ⟨[], c, D.step (.new hD) (by rw [upd_ne nd.symm]; exact D.here), .new hD, Nat.le_refl _, Nat.le_refl _, upd_same, rfl, fun v h => nomatch h⟩
  · intro i H' hi ⟨acc, c', D', e, l1, l2, hl, ha, hR⟩
    refine ⟨hw _, ?_⟩
    simp only [tYes, if_true]
    refine turn i H' c' hi D' l2 e _ fun v H2 c2 D2 e2 m1 m2 hv => ?_
    have h2 : H2 Dl = some (.lst acc) := e2 _ _ nd hl
    refine ⟨acc, h2, Nat.lt_of_le_of_lt (show acc.length ≤ 1000 by omega) (by decide), acc ++ [v], c2, ?_, (e.trans e2).mut hD, by omega, by omega, upd_same, by simp [ha], fun x hx => ?_⟩
    · refine ⟨by rw [upd_ne nd.symm]; exact D2.here, ?_, D2.len⟩
      exact D.keep ((e.trans e2).mut (o := .lst (acc ++ [v])) hD)
    · rcases List.mem_append.mp hx with hx | hx
      · exact hR x hx
      · rw [List.mem_singleton] at hx
        subst hx
        exact hv
  · intro H' ⟨acc, c', D', e, l1, l2, hl, ha, hR⟩
    exact done H' acc c' D' e l1 l2 hl ha hR
def spWay (K : PySem.W.Frag) : Sp := fun vs H Q _ => ∃ (d a : Addr) (ns : List Int) (c : Nat) (most : Int), vs = [.ref d, .int most] ∧ Draw K H d a ns c ∧ c < 800000 ∧ 0 ≤ most ∧ most ≤ 100 ∧
  DrawQ K H d a ns c (most.toNat + 2) (fun v H' => ∃ p ws, v = .ref p ∧ H' p = some (.tup (wayV ws)) ∧ (ws.length : Int) ≤ most) Q
theorem ok_way {f fT fP : Addr} {fd fdT fdP : FuncData} {k : Nat} (F : Fun K "_law_way" "_law_way" sWay f fd) (GT : FnOk P w K mg base CX0 k fT fdT ["draw", "many"] (spTake K)) (kT : PySem.W.keepIn K (.ref fT) = true) (bT : Binds K fdT ["draw", "many"] []) (gT : mg "_law_take" = some (.ref fT))
    (GP : FnOk P w K mg base CX0 k fP fdP ["draw", "things"] (spPick K)) (kP : PySem.W.keepIn K (.ref fP) = true) (bP : Binds K fdP ["draw", "things"] []) (gP : mg "_law_pick" = some (.ref fP)) (mt : mg "tuple" = none) (mr : mg "range" = none) :
    FnOk P w K mg base CX0 (k + 1) f fd ["draw", "most"] (spWay K) := by
  refine F.ok scWay (fun vs H Q E h => ?_) (fun cdv A outer s H vs Q E hr h => ?_)
  · obtain ⟨d, a, ns, c, many, rfl, _⟩ := h
    rfl
  · obtain ⟨d, a, ns, c, most, rfl, D, hc, hm, hm2, q⟩ := h
    have nd := scWay.nd
    refine ⟨_, pss_cons (ps_set (i := 2) nd rfl (.inr rfl) (pe_lst (pa_cons pe_str (pa_cons pe_str (pa_cons pe_str (pa_cons pe_str (pa_cons pe_str (pa_cons pe_str pa_nil))))))))
      (pss_one (ps_ret (pe_callTy call_tuple_of (by rfl) mt (by decide +kernel) (pa_cons
        (pe_lc (own := [("place", 3)]) (g := gName 3) (by rfl) nd (pi_range1 (by rfl) mr (pa_cons (pe_call GT hr (by rfl) gT kT bT .nil pass0 (pa_cons (pv 0) (pa_cons (pe_op op_add (pv 1) pe_int) pa_nil))) pa_nil))
          (blkOk_by (N := ["draw", "most", "words", "place"]) (sc := defScope sWay) (by decide +kernel)) (fun _ _ _ _ _ => pg_name (i := 3) nd rfl (Or.inl rfl)) (fun _ _ _ _ _ => pts_nil)
          (fun _ _ _ _ _ => pe_call GP hr (by rfl) gP kP bP .nil pass0 (pa_cons (pv 0) (pa_cons (pe_op op_cat (pv 2) (pe_lst (pa_cons pe_str (pa_cons pe_str pa_nil)))) pa_nil)))) pa_nil)))), ?_⟩
    refine q_asgL (el_lst (vs := [.str "all", .str "both", .str "care", .str "lone", .str "lones", .str "pairs"]) (ea_cons ev_c (ea_cons ev_c (ea_cons ev_c (ea_cons ev_c (ea_cons ev_c (ea_cons ev_c ea_nil)))))) (by simp)) fun p H1 hp e1 hP => ?_
    have D1 := D.mono e1
    have npd : p ≠ d := ne_of hP D1.here (fun z => by injection z with z; injection z with z; cases z)
    refine call_raw (vs := [.ref d, .int (most + 1)]) (ea_cons (ev_var rfl) (ea_cons (ev_op (ev_var rfl) ev_c rv_add) ea_nil)) fun H2 e2 => ⟨d, a, ns, c, _, rfl, D1.mono e2, by omega, by omega, ?_⟩
    rintro _ H3 c3 D3 e3 l1 l2 ⟨n, n0, n1, rfl⟩
    have hP3 : H3 p = some (.lst _) := e3 _ _ npd (e2 _ _ hP)
    refine ⟨n, rfl, by omega, by omega, fun Dl hD => ?_⟩
    refine lc_drawn (vs := [3]) (fun v => ∃ cv : Cv, v = .str cv.s) D3 hD (show n.toNat ≤ 1000 by omega) (fun x => rfl) (fun i H4 c4 hi D4 l3 e4 Q4 q4 => ?_) (fun H4 acc c4 D4 e4 l3 l4 hl ha hR => ?_)
    · have hP4 : H4 p = some (.lst _) := e4 _ _ npd hP3
      refine ⟨_, rfl, _, rfl, sz_of (n := 2) (by decide), fun t ht => ⟨p, t, _, _, rfl, rfl, Ex.new ht p _ hP4, upd_same, by decide, fun u hu => ?_⟩⟩
      have e5 : Ex H4 (upd (upd H4 t (.lst [.str "pairs", .str "care"])) u (.lst ([.str "all", .str "both", .str "care", .str "lone", .str "lones", .str "pairs"] ++ [.str "pairs", .str "care"]))) := (Ex.new ht).trans (Ex.new hu)
      have nu : u ≠ d := (ne_of_none (Ex.new ht d _ D4.here) hu).symm
      refine ⟨d, a, u, ns, c4, _, rfl, D4.mono e5, by omega, nu, sq_of upd_same, by decide, ?_⟩
      intro v H5 c5 D5 e6 m1 m2 hv
      refine q4 v H5 c5 D5 ((ExB.of e5).trans e6) m1 m2 ?_
      simp only [List.cons_append, List.nil_append, List.mem_cons, List.not_mem_nil, or_false] at hv
      rcases hv with h | h | h | h | h | h | h | h <;> subst h
      · exact ⟨.all, rfl⟩
      · exact ⟨.both, rfl⟩
      · exact ⟨.care, rfl⟩
      · exact ⟨.lone, rfl⟩
      · exact ⟨.lones, rfl⟩
      · exact ⟨.pairs, rfl⟩
      · exact ⟨.pairs, rfl⟩
      · exact ⟨.care, rfl⟩
    · obtain ⟨ws, hws⟩ := conv_words acc hR
      subst hws
      have hlw : ws.length = n.toNat := by
        rw [← ha]
        exact (List.length_map ..).symm
      refine ⟨Dl, _, rfl, .inl ⟨sq_of hl, fun l hl2 => ?_⟩⟩
      have nl : l ≠ d := (ne_of_none D4.here hl2).symm
      exact q _ _ c4 (D4.mono (Ex.new hl2)) ((((ExB.of (e1.trans e2)).trans e3).trans e4).trans (.new hl2)) (by omega) (by omega) ⟨l, ws, rfl, upd_same, by omega⟩
end
end Tu
namespace Tu
open PySem PySem.Spec PyProof.Rows L2 Evl
/-! ### texts as lists of codes -/
def ofl (l : List Nat) : Str := ⟨l.toArray⟩
theorem ofl_app (x y : List Nat) : ofl x ++ ofl y = ofl (x ++ y) := by
  show (⟨x.toArray ++ y.toArray⟩ : Str) = ⟨(x ++ y).toArray⟩
  rw [List.append_toArray]
theorem ofl_len (l : List Nat) : (ofl l).length = l.length := by
  show l.toArray.size = l.length
  exact List.size_toArray ..
theorem ofl_cps (l : List Nat) : (ofl l).cps.toList = l := rfl
theorem ofl_inj {x y : List Nat} (h : ofl x = ofl y) : x = y := by
  have := congrArg (fun z : Str => z.cps.toList) h
  exact this
theorem join_ofl : ∀ ls : List (List Nat), Txt.join "" (ls.map ofl) = ofl ls.flatten := by
  intro ls
  show Builtin.Str.glued _ _ = _
  rw [StrLaws.glued_eq_join]
  induction ls with
  | nil => rfl
  | cons x ls ih =>
    have e : (("" : Str)) = ⟨#[]⟩ := rfl
    rw [e] at ih ⊢
    rw [List.map_cons, join_nil_cons, ih, ofl_app]
    rfl
theorem txt_ofl (l : List Sg) : txt l = ofl (l.map Sg.c) := rfl
theorem txt_len (l : List Sg) : (txt l).length = l.length := by rw [txt_ofl, ofl_len, List.length_map]
theorem txt_app (x y : List Sg) : txt x ++ txt y = txt (x ++ y) := by rw [txt_ofl, txt_ofl, ofl_app, txt_ofl, List.map_append]
theorem join_txt (ls : List (List Sg)) : Txt.join "" (ls.map txt) = txt ls.flatten := by
  have e : ls.map txt = (ls.map fun l => l.map Sg.c).map ofl := by
    rw [List.map_map]
    rfl
  rw [e, join_ofl, txt_ofl, List.map_flatten]
theorem join_sg (l : List Sg) : Txt.join "" (l.map fun g => (⟨#[g.c]⟩ : Str)) = txt l := by
  have e : (l.map fun g => (⟨#[g.c]⟩ : Str)) = (l.map fun g => [g]).map txt := by
    rw [List.map_map]
    rfl
  rw [e, join_txt]
  congr 1
  induction l with
  | nil => rfl
  | cons x l ih =>
    rw [List.map_cons, List.flatten_cons, ih (by rw [List.map_map]; rfl)]
    rfl
theorem sum_one : ∀ l : List Sg, ((l.map fun g => (⟨#[g.c]⟩ : Str)).map (·.length)).sum = l.length
  | [] => rfl
  | _ :: l => by
    rw [List.map_cons, List.map_cons, List.sum_cons, sum_one l, List.length_cons]
    show 1 + l.length = l.length + 1
    omega
section
variable {P : Program} {w : World} {K : PySem.W.Frag} {mg : Str → Option Value} {base : Heap} {H H' : Hp} {d a : Addr} {ns : List Int} {c c' : Nat}
def spText (K : PySem.W.Frag) : Sp := fun vs H Q _ => ∃ (d a : Addr) (ns : List Int) (c : Nat) (most : Int), vs = [.ref d, .int most] ∧ Draw K H d a ns c ∧ c < 800000 ∧ 0 ≤ most ∧ most ≤ 100 ∧
  DrawQ K H d a ns c (most.toNat + 2) (fun v _ => ∃ l : List Sg, v = .str (txt l) ∧ (l.length : Int) ≤ most) Q
theorem ok_text {f fT fP : Addr} {fd fdT fdP : FuncData} {k : Nat} (F : Fun K "_law_text" "_law_text" sText f fd) (GT : FnOk P w K mg base CX0 k fT fdT ["draw", "many"] (spTake K)) (kT : PySem.W.keepIn K (.ref fT) = true) (bT : Binds K fdT ["draw", "many"] []) (gT : mg "_law_take" = some (.ref fT))
    (GP : FnOk P w K mg base CX0 k fP fdP ["draw", "things"] (spPick K)) (kP : PySem.W.keepIn K (.ref fP) = true) (bP : Binds K fdP ["draw", "things"] []) (gP : mg "_law_pick" = some (.ref fP)) (mr : mg "range" = none) :
    FnOk P w K mg base CX0 (k + 1) f fd ["draw", "most"] (spText K) := by
  refine F.ok scText (fun vs H Q E h => ?_) (fun cdv A outer s H vs Q E hr h => ?_)
  · obtain ⟨d, a, ns, c, many, rfl, _⟩ := h
    rfl
  · obtain ⟨d, a, ns, c, most, rfl, D, hc, hm, hm2, q⟩ := h
    have nd := scText.nd
    refine ⟨_, pss_one (ps_ret (pe_join pe_str
        (pe_lc (own := [("place", 2)]) (g := gName 2) (by rfl) nd (pi_range1 (by rfl) mr (pa_cons (pe_call GT hr (by rfl) gT kT bT .nil pass0 (pa_cons (pv 0) (pa_cons (pe_op op_add (pv 1) pe_int) pa_nil))) pa_nil))
          (blkOk_by (N := ["draw", "most", "place"]) (sc := defScope sText) (by decide +kernel)) (fun _ _ _ _ _ => pg_name (i := 2) nd rfl (Or.inl rfl)) (fun _ _ _ _ _ => pts_nil)
          (fun _ _ _ _ _ => pe_call GP hr (by rfl) gP kP bP .nil pass0 (pa_cons (pv 0) (pa_cons (pe_lst (pa_cons pe_str (pa_cons pe_str (pa_cons pe_str (pa_cons pe_str (pa_cons pe_str pa_nil)))))) pa_nil)))))), ?_⟩
    refine ⟨⟨_, rfl⟩, ?_⟩
    refine call_raw (vs := [.ref d, .int (most + 1)]) (ea_cons (ev_var rfl) (ea_cons (ev_op (ev_var rfl) ev_c rv_add) ea_nil)) fun H2 e2 => ⟨d, a, ns, c, _, rfl, D.mono e2, by omega, by omega, ?_⟩
    rintro _ H3 c3 D3 e3 l1 l2 ⟨n, n0, n1, rfl⟩
    refine ⟨n, rfl, by omega, by omega, fun Dl hD => ?_⟩
    refine lc_drawn (vs := [2]) (fun v => ∃ g : Sg, v = .str ⟨#[g.c]⟩) D3 hD (show n.toNat ≤ 1000 by omega) (fun x => rfl) (fun i H4 c4 hi D4 l3 e4 Q4 q4 => ?_) (fun H4 acc c4 D4 e4 l3 l4 hl ha hR => ?_)
    · refine ⟨_, rfl, sz_of (n := 5) (by decide), fun t ht => ?_⟩
      have nt : t ≠ d := (ne_of_none D4.here ht).symm
      refine ⟨d, a, t, ns, c4, _, rfl, D4.mono (Ex.new ht), by omega, nt, sq_of upd_same, by decide, ?_⟩
      intro v H5 c5 D5 e6 m1 m2 hv
      refine q4 v H5 c5 D5 ((ExB.of (Ex.new ht)).trans e6) m1 m2 ?_
      simp only [List.mem_cons, List.not_mem_nil, or_false] at hv
      rcases hv with h | h | h | h | h <;> subst h
      · exact ⟨.a, rfl⟩
      · exact ⟨.n, rfl⟩
      · exact ⟨.r, rfl⟩
      · exact ⟨.r, rfl⟩
      · exact ⟨.n, rfl⟩
    · obtain ⟨l, hl2⟩ := conv_signs acc hR
      subst hl2
      have hlw : l.length = n.toNat := by
        rw [← ha]
        exact (List.length_map ..).symm
      have em : (l.map fun g => V.str ⟨#[g.c]⟩) = (l.map fun g => (⟨#[g.c]⟩ : Str)).map V.str := by
        rw [List.map_map]
        rfl
      rw [em] at hl
      refine ⟨_, Dl, _, rfl, rfl, .inl (sq_of hl), ?_, ?_⟩
      · rw [sum_one, List.length_map]
        show l.length + l.length * 0 ≤ 16777216
        omega
      · rw [join_sg]
        exact q _ _ c4 D4 (((ExB.of e2).trans e3).trans e4) (by omega) (by omega) ⟨l, rfl, by omega⟩
end
end Tu
namespace Tu
open PySem PySem.Spec
open PySem.StrLaws (replL replL_nil replL_hit replL_miss)
/-! ### the mathematics: what becomes of a text, all places at once -/
/-- what becomes of one sign: whether an r is directly ahead of it, whether an n is directly behind it -/
def outS (c : Cv) (prev next : Bool) : Sg → List Sg
  | .a => [.a]
  | .n => match c with
    | .all => [.r, .n]
    | .care => if prev then [.n] else [.r, .n]
    | .lone => [.r]
    | _ => [.n]
  | .r => match c with
    | .both => if next then [] else [.n]
    | .lones => if next then [.r] else [.n]
    | .pairs => if next then [] else [.r]
    | _ => [.r]
def isN : List Sg → Bool | .n :: _ => true | _ => false
def go (c : Cv) : Bool → List Sg → List Sg
  | _, [] => []
  | p, s :: l => outS c p (isN l) s ++ go c (decide (s = .r)) l
def by1 (c : Cv) (l : List Sg) : List Sg := go c false l
def turnL : List Cv → List Sg → List Sg
  | [], l => l
  | c :: ws, l => turnL ws (by1 c l)
/-! ### by replacing -/
theorem r1_hit (c : Nat) (z m : List Nat) : replL [c] z (c :: m) = z ++ replL [c] z m := replL_hit (by simp) (by simp)
theorem r1_miss {c d : Nat} (h : d ≠ c) (z m : List Nat) : replL [c] z (d :: m) = d :: replL [c] z m := replL_miss (by simp [h])
theorem r2_hit (z m : List Nat) : replL [114, 110] z (114 :: 110 :: m) = z ++ replL [114, 110] z m := replL_hit (by simp) (by simp)
theorem r2_miss {d : Nat} (h : d ≠ 114) (z m : List Nat) : replL [114, 110] z (d :: m) = d :: replL [114, 110] z m := replL_miss (by cases m <;> simp [h])
theorem r2_miss2 {d : Nat} (h : d ≠ 110) (z m : List Nat) : replL [114, 110] z (114 :: d :: m) = 114 :: replL [114, 110] z (d :: m) := replL_miss (by simp [h])
theorem r2_last (z : List Nat) : replL [114, 110] z [114] = [114] := by
  rw [replL_miss (by simp), replL_nil]
/-- the replacements that stand for a conversion -/
def pairsOf : Cv → List (List Nat × List Nat)
  | .all => [([110], [114, 110])]
  | .both => [([114, 110], [110]), ([114], [110])]
  | .care => [([114, 110], [110]), ([110], [114, 110])]
  | .lone => [([110], [114])]
  | .lones => [([114, 110], [120]), ([114], [110]), ([120], [114, 110])]
  | .pairs => [([114, 110], [110])]
def repAll (ps : List (List Nat × List Nat)) (m : List Nat) : List Nat := ps.foldl (fun m p => replL p.1 p.2 m) m
theorem go_prev {c : Cv} (p q : Bool) {l : List Sg} (h : isN l = false) : go c p l = go c q l := by
  cases l with
  | nil => rfl
  | cons s l =>
    cases s with
    | n => cases h
    | a => rfl
    | r => cases c <;> rfl
theorem rep_by (c : Cv) : ∀ (k : Nat) (l : List Sg), l.length ≤ k → repAll (pairsOf c) (l.map Sg.c) = (by1 c l).map Sg.c
  | 0, l, h => by
    have e : l = [] := List.length_eq_zero_iff.mp (by omega)
    subst e
    cases c <;> simp [repAll, pairsOf, replL_nil, by1, go]
  | k + 1, l, h => by
    cases l with
    | nil => cases c <;> simp [repAll, pairsOf, replL_nil, by1, go]
    | cons s l =>
      have ih := rep_by c k l (by simpa using h)
      cases s with
      | a =>
        have e2 : by1 c (.a :: l) = .a :: by1 c l := by cases c <;> rfl
        rw [e2, List.map_cons, List.map_cons, ← ih]
        cases c <;> simp [repAll, pairsOf, Sg.c, r1_miss, r2_miss]
      | n =>
        have e2 : by1 c (.n :: l) = outS c false (isN l) .n ++ by1 c l := by cases c <;> rfl
        rw [e2, List.map_append, ← ih]
        cases c <;> simp [repAll, pairsOf, Sg.c, r1_hit, r1_miss, r2_miss, outS]
      | r =>
        cases l with
        | nil => cases c <;> simp [repAll, pairsOf, Sg.c, r1_hit, r1_miss, r2_last, replL_nil, by1, go, outS, isN]
        | cons t l =>
          have ih2 := rep_by c (k - 1) l (by simp at h; omega)
          cases t with
          | n =>
            have e2 : by1 c (.r :: .n :: l) = outS c false true .r ++ (outS c true (isN l) .n ++ by1 c l) := by cases c <;> rfl
            rw [e2, List.map_append, List.map_append, ← ih2]
            cases c <;> simp [repAll, pairsOf, Sg.c, r1_hit, r1_miss, r2_hit, outS]
          | a =>
            have e2 : by1 c (.r :: .a :: l) = outS c false false .r ++ by1 c (.a :: l) := by cases c <;> rfl
            rw [e2, List.map_append, ← ih]
            cases c <;> simp [repAll, pairsOf, Sg.c, r1_hit, r1_miss, r2_miss, r2_miss2, outS]
          | r =>
            have e2 : by1 c (.r :: .r :: l) = outS c false false .r ++ by1 c (.r :: l) := by cases c <;> rfl
            rw [e2, List.map_append, ← ih]
            cases c <;> simp [repAll, pairsOf, Sg.c, r1_hit, r1_miss, r2_miss2, outS]
/-! ### sign by sign -/
def holds : Cv → Bool | .both => true | .lones => true | .pairs => true | _ => false
/-- what a held r becomes ahead of an n, and otherwise -/
def heldN : Cv → List Sg | .lones => [.r] | _ => []
def heldE : Cv → List Sg | .both => [.n] | .lones => [.n] | .pairs => [.r] | _ => []
def plain : Cv → Bool | .all => true | .lone => true | _ => false
def one (c : Cv) (b : Bool) (s : Sg) : Bool × List Sg :=
  match c with
  | .all => (false, if s = .n then [.r, .n] else [s])
  | .lone => (false, if s = .n then [.r] else [s])
  | .care => (decide (s = .r), if s = .n && !b then [.r, .n] else [s])
  | c => (decide (s = .r), (if b then (if s = .n then heldN c else heldE c) else []) ++ (if s = .r then [] else [s]))
def many (c : Cv) : Bool → List Sg → Bool × List Sg
  | b, [] => (b, [])
  | b, s :: l => ((many c (one c b s).1 l).1, (one c b s).2 ++ (many c (one c b s).1 l).2)
theorem many_app (c : Cv) : ∀ (b : Bool) (x y : List Sg), many c b (x ++ y) = ((many c (many c b x).1 y).1, (many c b x).2 ++ (many c (many c b x).1 y).2)
  | b, [], y => rfl
  | b, s :: x, y => by
    show ((many c (one c b s).1 (x ++ y)).1, (one c b s).2 ++ (many c (one c b s).1 (x ++ y)).2) = _
    rw [many_app c _ x y]
    simp [many]
/-- the whole of it: what is given out, and at the end -/
def tailE (c : Cv) (b : Bool) : List Sg := if b && holds c then heldE c else []
def runF (c : Cv) (b : Bool) (l : List Sg) : List Sg := (many c b l).2 ++ tailE c (many c b l).1
theorem go_any {c : Cv} (h : c ≠ .care) (p q : Bool) (l : List Sg) : go c p l = go c q l := by
  cases l with
  | nil => rfl
  | cons s l =>
    cases s with
    | a => rfl
    | r => cases c <;> rfl
    | n => cases c <;> first | rfl | exact absurd rfl h
theorem run_cons (c : Cv) (b : Bool) (s : Sg) (l : List Sg) : runF c b (s :: l) = (one c b s).2 ++ runF c (one c b s).1 l := by simp [runF, many]
theorem run_care : ∀ (b : Bool) (l : List Sg), runF .care b l = go .care b l
  | b, [] => by cases b <;> rfl
  | b, s :: l => by
    rw [run_cons, run_care _ l]
    cases b <;> cases s <;> rfl
/-- a held r stands for the r that was read -/
theorem run_go {c : Cv} (h : c ≠ .care) : ∀ (b : Bool) (l : List Sg), runF c b l = (if b && holds c then outS c false (isN l) .r else []) ++ go c false l
  | b, [] => by cases c <;> cases b <;> first | rfl | exact absurd rfl h
  | b, s :: l => by
    have e : go c false (s :: l) = outS c false (isN l) s ++ go c false l := by
      show outS c false (isN l) s ++ go c (decide (s = .r)) l = _
      rw [go_any h _ false l]
    rw [run_cons, run_go h _ l, e]
    cases c <;> first | exact absurd rfl h | (cases b <;> cases s <;> simp [one, holds, heldN, heldE, outS, isN])
theorem run_by (c : Cv) (l : List Sg) : runF c false l = by1 c l := by
  by_cases h : c = .care
  · subst h
    exact run_care false l
  · rw [run_go h]
    rfl
/-! ### ways -/
def stepW : List Cv → List Bool → List Sg → List Bool × List Sg
  | c :: ws, b :: st, t => ((many c b t).1 :: (stepW ws st (many c b t).2).1, (stepW ws st (many c b t).2).2)
  | _, _, t => ([], t)
def endW : List Cv → List Bool → List Sg → List Sg
  | c :: ws, b :: st, t => endW ws st (runF c b t)
  | _, _, t => t
theorem step_len : ∀ (ws : List Cv) (st : List Bool) (t : List Sg), st.length = ws.length → (stepW ws st t).1.length = ws.length
  | [], _, _, _ => by simp [stepW]
  | _ :: ws, b :: st, t, h => by
    show (stepW ws st _).1.length + 1 = ws.length + 1
    rw [step_len ws st _ (by simpa using h)]
  | _ :: _, [], _, h => by simp at h
theorem end_app : ∀ (ws : List Cv) (st : List Bool) (x y : List Sg), st.length = ws.length → endW ws st (x ++ y) = (stepW ws st x).2 ++ endW ws (stepW ws st x).1 y
  | [], st, x, y, h => by
    cases st with
    | nil => rfl
    | cons _ _ => simp at h
  | c :: ws, b :: st, x, y, h => by
    have hl : st.length = ws.length := by simpa using h
    show endW ws st (runF c b (x ++ y)) = (stepW ws st (many c b x).2).2 ++ endW ws (stepW ws st (many c b x).2).1 (runF c (many c b x).1 y)
    have e : runF c b (x ++ y) = (many c b x).2 ++ runF c (many c b x).1 y := by simp [runF, many_app]
    rw [e, end_app ws st _ _ hl]
  | _ :: _, [], _, _, h => by simp at h
/-- reading sign by sign, from a standing on -/
def walkW (ws : List Cv) : List Bool → List Sg → List Bool × List Sg
  | st, [] => (st, [])
  | st, s :: l => ((walkW ws (stepW ws st [s]).1 l).1, (stepW ws st [s]).2 ++ (walkW ws (stepW ws st [s]).1 l).2)
theorem walk_end (ws : List Cv) : ∀ (l : List Sg) (st : List Bool), st.length = ws.length → (walkW ws st l).2 ++ endW ws (walkW ws st l).1 [] = endW ws st l
  | [], st, h => rfl
  | s :: l, st, h => by
    have e := end_app ws st [s] l h
    rw [List.singleton_append] at e
    rw [e, ← walk_end ws l _ (step_len ws st [s] h)]
    simp [walkW]
theorem end_turn : ∀ (ws : List Cv) (l : List Sg), endW ws (List.replicate ws.length false) l = turnL ws l
  | [], l => rfl
  | c :: ws, l => by
    show endW ws (List.replicate ws.length false) (runF c false l) = turnL ws (by1 c l)
    rw [run_by, end_turn ws]
end Tu
namespace Tu
open PySem PySem.Spec PyProof.Rows L2 Evl
/-! ### more words of evaluation -/
section
variable {K : PySem.W.Frag} {H H' : Hp} {σ : L2.St} {t : TT} {te tl : TE} {D : Ends} {tz tu : TS}
/-- a comprehension over a text -/
theorem el_lcS {x : Str} {j : Nat} {vs : List Nat} (f : Nat → Bool) (v : Nat → V) (h : Ev tl σ H (.str x)) (hz : x.cps.size ≤ 40000) (hw : ∀ x, wipe ((wipe σ vs).set j (some x)) vs = wipe σ vs)
    (ht : ∀ (i c : Nat) H1, Ex H H1 → x.cps[i]? = some c → EvT t ((wipe σ vs).set j (some (.str ⟨#[c]⟩))) H1 (f i)) (he : ∀ (i c : Nat) H1, Ex H H1 → x.cps[i]? = some c → f i = true → Ev te ((wipe σ vs).set j (some (.str ⟨#[c]⟩))) H1 (v i)) :
    EvL (tLc (iStr tl) (gName j) t te vs) σ H (given x.cps.size f v) := fun H0 e Q q => h H0 e _ fun H1 e1 => ⟨x, rfl, fun Dl hD =>
  lc_it walk_str (Cw H1 f v Dl) ⟨hD, Ex.new hD, upd_same⟩ (fun i H' _ p => trivial) (fun i y H' H2 hi p hy => by
    obtain ⟨rfl, c, hc, rfl⟩ := hy
    exact ⟨hw _, cw_turn p (by omega) (ht i c H1 (e.trans e1) hc) (fun hf => he i c H1 (e.trans e1) hc hf)⟩)
    (fun H' p => q Dl H' (fresh_back e1 p.1) (e1.trans p.2.1) p.2.2)⟩
/-- a comprehension over a tuple -/
theorem el_lcT {a : Addr} {xs : List V} {j : Nat} {vs : List Nat} (f : Nat → Bool) (v : Nat → V) (h : Ev tl σ H (.ref a)) (hx : SqT K H a xs) (hz : xs.length ≤ 40000) (hw : ∀ x, wipe ((wipe σ vs).set j (some x)) vs = wipe σ vs)
    (ht : ∀ (i : Nat) (x : V) H1, Ex H H1 → xs[i]? = some x → EvT t ((wipe σ vs).set j (some x)) H1 (f i)) (he : ∀ (i : Nat) (x : V) H1, Ex H H1 → xs[i]? = some x → f i = true → Ev te ((wipe σ vs).set j (some x)) H1 (v i)) :
    EvL (tLc (iTup K tl) (gName j) t te vs) σ H (given xs.length f v) := fun H0 e Q q => h H0 e _ fun H1 e1 => ⟨a, rfl, ⟨xs, ex_t (e.trans e1) hx⟩, fun Dl hD =>
  lc_it walk_tup (Cw H1 f v Dl) ⟨hD, Ex.new hD, upd_same⟩ (fun i H' _ p => ex_t ((e.trans e1).trans p.2.1) hx) (fun i y H' H2 hi p hy => by
    obtain ⟨rfl, hc⟩ := hy
    exact ⟨hw _, cw_turn p (by omega) (ht i y H1 (e.trans e1) hc) (fun hf => he i y H1 (e.trans e1) hc hf)⟩)
    (fun H' p => q Dl H' (fresh_back e1 p.1) (e1.trans p.2.1) p.2.2)⟩
theorem given_all (n : Nat) (f : Nat → Bool) (v : Nat → V) (g : Nat → V) (hf : ∀ i, f i = true) (h : ∀ i, i < n → v i = g i) : given n f v = (List.range n).map g := by
  unfold given
  rw [List.filter_eq_self.mpr fun i _ => hf i]
  exact List.map_congr_left fun i hi => h i (List.mem_range.mp hi)
theorem given_const (n : Nat) (v : V) : given n (fun _ => true) (fun _ => v) = List.replicate n v := by
  rw [given_all n _ _ (fun _ => v) (fun _ => rfl) (fun _ _ => rfl), List.map_const', List.length_range]
theorem ev_all {n : Nat} (h : EvL tl σ H (given n (fun _ => true) fun _ => V.bl true)) : Ev (tCB (rAll K) (tCons tl tNil)) σ H (.bl true) := fun H1 e Q q =>
  h H1 e _ fun p H2 hp e2 hl => ⟨p, List.replicate n true, rfl, sq_of (by rw [hl, given_const, List.map_replicate]), by
    rw [show (List.replicate n true).all id = true by simp]
    exact q H2 e2⟩
theorem ev_isi {x : V} {c t : String} {b : Bool} {tc : TE} (hx : Ev te σ H x) (hc : Ev tc σ H (.ty c)) (ht : ∀ H1, Ex H H1 → TyX K H1 x (.type t)) (hb : kitB t c = some b) : Ev (tCB (rIsi K) (tCons te (tCons tc tNil))) σ H (.bl b) :=
  ev_cb (vs := [x, .ty c]) (ea_cons hx (ea_cons hc ea_nil)) fun H1 e Q q => ⟨x, .ty c, .type t, .type c, b, rfl, .ty c, ht H1 e, kit_ty hb, q H1 (Ex.refl H1)⟩
theorem et_yes : EvT tYes σ H true := fun H1 _ Q q => q H1 (Ex.refl H1)
end
abbrev sChkWay : Stmt := topS 11
abbrev sChkSt : Stmt := topS 12
theorem scChkWay : FnScope ["way", "word"] ["way"] (defScope sChkWay) := ⟨rfl, rfl, rfl, by decide +kernel, rfl, by decide +kernel, by decide +kernel⟩
theorem scChkSt : FnScope ["way", "standing", "word", "flag"] ["way", "standing"] (defScope sChkSt) := ⟨rfl, rfl, rfl, by decide +kernel, rfl, by decide +kernel, by decide +kernel⟩
def allCv : List Cv := [.all, .both, .care, .lone, .lones, .pairs]
theorem in_signs (g : Sg) : inV (.str ⟨#[g.c]⟩) [.str "a", .str "n", .str "r"] = true := by cases g <;> decide +kernel
theorem in_convs (c : Cv) : inV (.str c.s) (wayV allCv) = true := by cases c <;> decide +kernel
theorem txt_get {l : List Sg} {i c : Nat} (h : (txt l).cps[i]? = some c) : ∃ g : Sg, l[i]? = some g ∧ c = g.c := by
  have h2 : (l.map Sg.c)[i]? = some c := by
    have e : (txt l).cps = (l.map Sg.c).toArray := rfl
    rw [e, List.getElem?_toArray] at h
    exact h
  rw [List.getElem?_map] at h2
  cases q : l[i]? with
  | none => rw [q] at h2; cases h2
  | some g =>
    rw [q] at h2
    exact ⟨g, rfl, (Option.some.inj h2).symm⟩
section
variable {P : Program} {w : World} {K : PySem.W.Frag} {mg : Str → Option Value} {base : Heap} {H H' : Hp}
def spChkText (K : PySem.W.Frag) : Sp := fun vs H Q _ => ∃ l : List Sg, vs = [.str (txt l)] ∧ l.length ≤ 40000 ∧ RetV .non H Q
end
end Tu
namespace Tu
open PySem PySem.Spec PyProof.Rows L2 Evl RZ
/-! ### a written dict: in, and its items -/
def KIn (K : PySem.W.Frag) (w : World) (p : Addr) (x : Str) (b : Bool) : Prop :=
  ∃ es n r, K.lookup p = some ⟨.type "dict", none, .dict es n, #[]⟩ ∧ PySem.W.KeysLit w.params es.toList ∧ (p == sysModules) = false ∧ PySem.W.nsIn K p x = some r ∧ r.isSome = b
def rInK (K : PySem.W.Frag) (w : World) : R2 := fun x y H Q => ∃ p z b, x = .str z ∧ y = .ref p ∧ KIn K w p z b ∧ Q (.bl b) H
theorem op_in_kd {X : Cx} : OpR X (compareOp .In) (rInK X.K X.w) := by
  intro pins s σ H x y v u Q I rx ry h
  obtain ⟨p, z, b, rfl, rfl, ⟨es, n, r, hl, hk, lo, e, hb⟩, q⟩ := h
  obtain ⟨t, rfl⟩ := rx
  obtain rfl : u = Value.ref p := ry
  refine wpAny_in_of (strKind_is X.prog X.w z t) lo (PySem.W.mapOf_K (prog := X.prog) (w := X.w) I.kIn hl hk) ?_
  rw [PySem.W.find_K hl e]
  exact ⟨.bl b, H, I.tok _, by rw [hb]; rfl, q⟩
section
variable {K : PySem.W.Frag} {w : World} {H H' : Hp} {σ : L2.St} {t : TT} {te tl ta tb : TE} {D : Ends} {tz tu : TS}
theorem ev_inK {p : Addr} {z : Str} {b : Bool} (h : Ev ta σ H (.str z)) (h2 : Ev tb σ H (.ref p)) (hk : KIn K w p z b) : Ev (tOp (rInK K w) ta tb) σ H (.bl b) := ev_op h h2 fun H1 _ Q q => ⟨p, z, b, rfl, rfl, hk, q H1 (Ex.refl H1)⟩
theorem ev_ixK {p : Addr} {z : Str} {v : V} (h : Ev ta σ H (.ref p)) (h2 : Ev tb σ H (.str z)) (hk : KDct K w p z v) : Ev (tOp (rIxD K w) ta tb) σ H v := ev_op h h2 fun H1 _ Q q => ⟨p, z, v, rfl, rfl, hk, q H1 (Ex.refl H1)⟩
theorem tyx_sqt {a : Addr} {xs : List V} (h : SqT K H a xs) : TyX K H (.ref a) (.type "tuple") := by
  rcases h with (h | ⟨o, h⟩) | ⟨o, its, n, l, c, _⟩
  · exact .base (.tup h)
  · exact .fTuple h
  · exact .kTuple l c
/-- for a, b in zip(t, u) of two tuples of one length -/
theorem s_forZ {a b : Addr} {xs ys : List V} {ta : TA} {j k : Nat} (h : EvA ta σ H [.ref a, .ref b]) (hx : SqT K H a xs) (hy : SqT K H b ys) (hl : xs.length = ys.length) (Pv : Nat → L2.St → Hp → Prop) (h0 : ∀ H1, Ex H H1 → Pv 0 σ H1)
    (hq : ∀ i σ' H', Pv i σ' H' → SqT K H' a xs ∧ SqT K H' b ys) (hs : ∀ i x y σ' H', xs[i]? = some x → ys[i]? = some y → Pv i σ' H' → ∀ H2, Ex H' H2 → tu { D with nx := Pv (i + 1), ct := Pv (i + 1), bk := D.nx } ((σ'.set j (some x)).set k (some y)) H2)
    (hd : ∀ σ' H', Pv xs.length σ' H' → D.nx σ' H') : tFor (iZipA K ta) (gTup K 2 (gCons (gName j) (gCons (gName k) gNil))) tu D σ H := h H (Ex.refl H) _ fun H1 e1 =>
  ⟨a, b, xs, ys, rfl, .inr ⟨ex_t e1 hx, ex_t e1 hy, for_zipT hl Pv (h0 H1 e1) hq
    (fun i x y T σ' H' gx gy p hT => ⟨T, [x, y], rfl, st_of upd_same, rfl, x, [y], rfl, y, [], rfl, rfl, hs i x y σ' H' gx gy p _ (Ex.new hT)⟩) hd⟩⟩
theorem q_forZ {a b : Addr} {xs ys : List V} {ta : TA} {j k : Nat} (h : EvA ta σ H [.ref a, .ref b]) (hx : SqT K H a xs) (hy : SqT K H b ys) (hl : xs.length = ys.length) (Pv : Nat → L2.St → Hp → Prop) (h0 : ∀ H1, Ex H H1 → Pv 0 σ H1)
    (hq : ∀ i σ' H', Pv i σ' H' → SqT K H' a xs ∧ SqT K H' b ys) (hs : ∀ i x y σ' H', xs[i]? = some x → ys[i]? = some y → Pv i σ' H' → ∀ H2, Ex H' H2 → tu { D with nx := Pv (i + 1), ct := Pv (i + 1), bk := tz D } ((σ'.set j (some x)).set k (some y)) H2)
    (hd : ∀ σ' H', Pv xs.length σ' H' → tz D σ' H') : tSeq (tFor (iZipA K ta) (gTup K 2 (gCons (gName j) (gCons (gName k) gNil))) tu) tz D σ H := s_forZ (D := { D with nx := tz D }) h hx hy hl Pv h0 hq hs hd
end
inductive Kd where | any | bare | lone | paired deriving DecidableEq
def Kd.s : Kd → Str | .any => "any" | .bare => "bare" | .lone => "lone" | .paired => "paired"
def kinds : List Kd := [.any, .bare, .lone, .paired]
def kindV (ks : List Kd) : List V := ks.map fun k => .str k.s
theorem in_kinds (c : Kd) : inV (.str c.s) (kindV kinds) = true := by cases c <;> decide +kernel
def stV (st : List Bool) : List V := st.map V.bl
/-- a standing of a way -/
def stOk : List Cv → List Bool → Prop
  | [], [] => True
  | c :: ws, b :: st => (b = true → plain c = false) ∧ stOk ws st
  | _, _ => False
theorem stOk.len : ∀ {ws : List Cv} {st : List Bool}, stOk ws st → st.length = ws.length
  | [], [], _ => rfl
  | _ :: _, _ :: _, h => congrArg (· + 1) (stOk.len h.2)
  | [], _ :: _, h => h.elim
  | _ :: _, [], h => h.elim
theorem stOk.get : ∀ {ws : List Cv} {st : List Bool} {i : Nat} {c : Cv} {b : Bool}, stOk ws st → ws[i]? = some c → st[i]? = some b → b = true → plain c = false
  | c :: ws, b :: st, 0, _, _, h, h1, h2 => by
    have e1 := Option.some.inj h1
    have e2 := Option.some.inj h2
    subst e1 e2
    exact h.1
  | c :: ws, b :: st, i + 1, _, _, h, h1, h2 => stOk.get (i := i) h.2 h1 h2
  | [], [], i, _, _, _, h1, _ => by simp at h1
  | [], _ :: _, _, _, _, h, _, _ => h.elim
  | _ :: _, [], _, _, _, h, _, _ => h.elim
theorem wayV_get {ws : List Cv} {i : Nat} {x : V} (h : (wayV ws)[i]? = some x) : ∃ c, ws[i]? = some c ∧ x = .str c.s := by
  unfold wayV at h
  rw [List.getElem?_map] at h
  cases q : ws[i]? with
  | none => rw [q] at h; cases h
  | some c => rw [q] at h; exact ⟨c, rfl, (Option.some.inj h).symm⟩
theorem stV_get {ws : List Bool} {i : Nat} {x : V} (h : (stV ws)[i]? = some x) : ∃ c, ws[i]? = some c ∧ x = .bl c := by
  unfold stV at h
  rw [List.getElem?_map] at h
  cases q : ws[i]? with
  | none => rw [q] at h; cases h
  | some c => rw [q] at h; exact ⟨c, rfl, (Option.some.inj h).symm⟩
theorem wayV_len (ws : List Cv) : (wayV ws).length = ws.length := List.length_map ..
theorem stV_len (ws : List Bool) : (stV ws).length = ws.length := List.length_map ..
section
variable {P : Program} {w : World} {K : PySem.W.Frag} {mg : Str → Option Value} {base : Heap} {H H' : Hp}
def spChkKind (K : PySem.W.Frag) : Sp := fun vs H Q _ => ∃ c : Kd, vs = [.str c.s] ∧ RetV .non H Q
def spChkWay (K : PySem.W.Frag) : Sp := fun vs H Q _ => ∃ (a : Addr) (ws : List Cv), vs = [.ref a] ∧ SqT K H a (wayV ws) ∧ ws.length ≤ 6 ∧ RetV .non H Q
theorem ok_chkWay {f aS : Addr} {fd : FuncData} {k : Nat} {t6 : Tok} (F : Fun K "check_way" "check_way" sChkWay f fd) (mi : mg "isinstance" = none) (ms : mg "str" = none) (ma : mg "all" = none) (mt : mg "tuple" = none) (ml : mg "len" = none)
    (m6 : mg "LONGEST" = some (.int 6 t6)) (mS : mg "CONVERSIONS" = some (.ref aS)) (tS : ∀ H, SqT K H aS (wayV allCv)) :
    FnOk P w K mg base CX0 (k + 1) f fd ["way"] (spChkWay K) := by
  refine F.ok scChkWay (fun vs H Q E h => ?_) (fun cdv A outer s H vs Q E hr h => ?_)
  · obtain ⟨a, ws, rfl, _⟩ := h
    rfl
  · obtain ⟨a, ws, rfl, hS, hl, q⟩ := h
    have nd := scChkWay.nd
    refine ⟨_, pss_cons (ps_if (PW.pt (pw_or (pt_not (pt_val (pe_callB call_isi (by rfl) mi (by decide +kernel) (pa_cons (pv 0) (pa_cons (pe_bltn (v := .ty "tuple") (u := .type "tuple") (by rfl) mt (by decide +kernel) rfl) pa_nil)))))
      (pw_or1 (pt_cmpR op_gt (pe_callB call_len_seq (by rfl) ml PySem.boot_len (pa_cons (pv 0) pa_nil)) (pe_glob (v := .int 6) (by rfl) m6 ⟨_, rfl⟩) (nomark _))))) (pss_one ps_never) pss_nil)
      (pss_one (ps_if (pt_not (pt_val (pe_callB (cr_all rfl) (by rfl) ma (by decide +kernel) (pa_cons
        (pe_lc (own := [("word", 1)]) (g := gName 1) (by rfl) nd (pi_tup (pv 0)) (blkOk_by (N := ["way", "word"]) (sc := defScope sChkWay) (by decide +kernel)) (fun _ _ _ _ _ => pg_name (i := 1) nd rfl (Or.inl rfl)) (fun _ _ _ _ _ => pts_nil)
          (fun _ _ _ _ _ => pe_and (pe_callB (r := rIsi K) call_isi (by rfl) mi (by decide +kernel) (pa_cons (pv 1) (pa_cons (pe_bltn (v := .ty "str") (u := .type "str") (by rfl) ms (by decide +kernel) rfl) pa_nil)))
            (pe_one (pe_cmpR (r := rIn K false) op_in_seq (pv 1) (pe_glob (v := .ref aS) (by rfl) mS rfl) rfl)))) pa_nil)))) (pss_one ps_never) pss_nil)), ?_⟩
    refine q_if (b := false) (et_or (a := false) (b := false) (et_not (a := true) (et_test (ev_isi (t := "tuple") (ev_var rfl) ev_c (fun H1 e => tyx_sqt (ex_t e hS)) (by decide +kernel))))
      (fun _ => et_test ?_)) (fun z => nomatch z) (fun _ H1 e1 => ?_)
    · have z := ev_cb (σ := L2.start ["way", "word"] [.ref a]) (ea_cons (ev_var (i := 0) rfl) ea_nil) (rc_len (K := K) (.inr hS))
      rw [wayV_len] at z
      refine ev_is (ev_op z ev_c rv_I0) ?_
      rw [decide_eq_false (by omega)]
    · refine s_if (b := false) (et_not (a := true) (et_test (ev_all (el_lcT (fun _ => true) (fun _ => .bl true) (ev_var rfl) (ex_t e1 hS) (by rw [wayV_len]; omega) (fun _ => rfl) (fun _ _ _ _ _ => et_yes) (fun i x H2 e2 hc _ => ?_))))) (fun z => nomatch z) (fun _ H2 e2 => q.go (e1.trans e2))
      obtain ⟨c, _, rfl⟩ := wayV_get hc
      refine ev_andV (a := true) (b := true) (ev_isi (t := "str") (ev_var rfl) ev_c (fun _ _ => .base (.str _)) (by decide +kernel)) (fun _ => ?_)
      have z := ev_op (σ := [some (.ref a), some (.str c.s)]) (ev_var (i := 1) rfl) (ev_c (v := .ref aS)) (rv_isT (tS H2) (x := .str c.s) rfl rfl)
      rw [in_convs c] at z
      exact z
def spChkSt (K : PySem.W.Frag) : Sp := fun vs H Q _ => ∃ (a b : Addr) (ws : List Cv) (st : List Bool), vs = [.ref a, .ref b] ∧ SqT K H a (wayV ws) ∧ SqT K H b (stV st) ∧ stOk ws st ∧ ws.length ≤ 6 ∧ RetV .non H Q
theorem ok_chkSt {f aP : Addr} {fd : FuncData} {k : Nat} (F : Fun K "check_standing" "check_standing" sChkSt f fd) (mi : mg "isinstance" = none) (mt : mg "tuple" = none) (ml : mg "len" = none) (mz : mg "zip" = none) (mb : mg "bool" = none)
    (mP : mg "_PLAIN" = some (.ref aP)) (tP : ∀ c : Cv, KIn K w aP c.s (plain c)) :
    FnOk P w K mg base CX0 (k + 1) f fd ["way", "standing"] (spChkSt K) := by
  refine F.ok scChkSt (fun vs H Q E h => ?_) (fun cdv A outer s H vs Q E hr h => ?_)
  · obtain ⟨a, b, ws, st, rfl, _⟩ := h
    rfl
  · obtain ⟨a, b, ws, st, rfl, hS, hT, ok, hl, q⟩ := h
    have nd := scChkSt.nd
    refine ⟨_, pss_cons (ps_if (PW.pt (pw_or (pt_not (pt_val (pe_callB call_isi (by rfl) mi (by decide +kernel) (pa_cons (pv 1) (pa_cons (pe_bltn (v := .ty "tuple") (u := .type "tuple") (by rfl) mt (by decide +kernel) rfl) pa_nil)))))
      (pw_or1 (pt_cmpR op_ne (pe_callB call_len_seq (by rfl) ml PySem.boot_len (pa_cons (pv 1) pa_nil)) (pe_callB call_len_seq (by rfl) ml PySem.boot_len (pa_cons (pv 0) pa_nil)) (nomark _))))) (pss_one ps_never) pss_nil)
      (pss_one (ps_for PassesOwn.never rfl (pi_zipA (by rfl) mz (pa_cons (pv 0) (pa_cons (pv 1) pa_nil))) (pg_tup rfl (pgs_cons (pg_name (i := 2) nd rfl (.inl rfl)) (pgs_cons (pg_name (i := 3) nd rfl (.inl rfl)) pgs_nil)))
        (pss_one (ps_if (PW.pt (pw_or (pt_not (pt_val (pe_callB call_isi (by rfl) mi (by decide +kernel) (pa_cons (pv 3) (pa_cons (pe_bltn (v := .ty "bool") (u := .type "bool") (by rfl) mb (by decide +kernel) rfl) pa_nil)))))
          (pw_or1 (PW.pt (pw_and (pt_val (pv 3)) (pw_and1 (pt_cmpR op_in_kd (pv 2) (pe_glob (v := .ref aP) (by rfl) mP rfl) rfl)))))))
          (pss_one ps_never) pss_nil)))), ?_⟩
    refine q_if (b := false) (et_or (a := false) (b := false) (et_not (a := true) (et_test (ev_isi (t := "tuple") (ev_var rfl) ev_c (fun H1 e => tyx_sqt (ex_t e hT)) (by decide +kernel))))
      (fun _ => et_test ?_)) (fun z => nomatch z) (fun _ H1 e1 => ?_)
    · have z := ev_op (σ := L2.start ["way", "standing", "word", "flag"] [.ref a, .ref b]) (ev_cb (ea_cons (ev_var (i := 1) rfl) ea_nil) (rc_len (K := K) (.inr hT))) (ev_cb (ea_cons (ev_var (i := 0) rfl) ea_nil) (rc_len (K := K) (.inr hS))) (rv_ne rfl)
      rw [stV_len, wayV_len, ok.len] at z
      refine ev_is z ?_
      rw [decide_eq_true rfl]
      rfl
    · refine s_forZ (ea_cons (ev_var rfl) (ea_cons (ev_var rfl) ea_nil)) (ex_t e1 hS) (ex_t e1 hT) (by rw [wayV_len, stV_len, ok.len]) (fun i σ H' => Ex H1 H' ∧ ∃ x y, σ = [some (.ref a), some (.ref b), x, y]) (fun H2 e2 => ⟨e2, _, _, rfl⟩) (fun i σ H' p => ⟨ex_t (e1.trans p.1) hS, ex_t (e1.trans p.1) hT⟩) ?_ ?_
      · rintro i x y σ H' hx hy ⟨e2, x2, y2, rfl⟩ H2 e3
        obtain ⟨c, hc, rfl⟩ := wayV_get hx
        obtain ⟨f, hf, rfl⟩ := stV_get hy
        have hok := ok.get hc hf
        refine s_if (b := false) (et_or (a := false) (b := false) (et_not (a := true) (et_test (ev_isi (t := "bool") (ev_var rfl) ev_c (fun _ _ => .base (.bl _)) (by decide +kernel)))) (fun _ => ?_)) (fun z => nomatch z) (fun _ H3 e4 => ⟨e2.trans (e3.trans e4), _, _, rfl⟩)
        refine et_is (et_and (a := f) (b := plain c) (et_test (ev_var rfl)) (fun _ => et_test (ev_inK (ev_var rfl) ev_c (tP c)))) ?_
        cases f with
        | false => rfl
        | true => rw [hok rfl]; rfl
      · rintro σ H' ⟨e2, _⟩
        exact q.go (e1.trans e2)
end
end Tu
namespace Tu
open PySem PySem.Spec PyProof.Rows L2
theorem tuple_mul1 (l : Addr) (n : Nat) (dd : Option Addr) (sl : Array (Option Value)) (u : Tok) :
    Meets (Builtin.«tuple.__mul__» ⟨[.ref l, .int 1 u], []⟩) (fun _ R s => s.heap.get? l = some { cls := .type "tuple", dict := dd, data := .seq #[.bool false] n, slots := sl } ∧
      R (.ok (.ret (Value.ref l))) s) :=
  .of_wp fun prog w A R s h => by
    obtain ⟨hp, g, d, tk, os⟩ := s
    obtain ⟨hl, h⟩ := h
    have f1 := AutoSeq1.idx_int
    wp_walk using wpAny_loadPart' hl
    exact ⟨_, rfl, h⟩
theorem tuple_mul0 (l : Addr) (n : Nat) (dd : Option Addr) (sl : Array (Option Value)) (u : Tok) :
    Meets (Builtin.«tuple.__mul__» ⟨[.ref l, .int 0 u], []⟩) (fun _ R s => s.heap.get? l = some { cls := .type "tuple", dict := dd, data := .seq #[.bool false] n, slots := sl } ∧
      R (.ok (.ret (Value.ref s.heap.objs.size))) { s with heap := s.heap.push { cls := Value.type "tuple", data := Data.seq #[] }, toks := s.toks }) :=
  .of_wp fun prog w A R s h => by
    obtain ⟨hp, g, d, tk, os⟩ := s
    obtain ⟨hl, h⟩ := h
    have f1 := AutoSeq1.idx_int
    wp_walk using wpAny_loadPart' hl
    exact ⟨_, rfl, h⟩
/-- (False,) * k -/
def rFalses (K : PySem.W.Frag) : R2 := fun x y H Q => ∃ (l : Addr) (k : Nat), x = .ref l ∧ y = .int (k : Int) ∧ SqT K H l [.bl false] ∧ k ≤ 1000 ∧ ∀ p H', Evl.Ex H H' → SqT K H' p (List.replicate k (.bl false)) → Q (.ref p) H'
theorem rep_one {α : Type} (x : α) : ∀ k : Nat, (List.replicate k [x]).flatten = List.replicate k x
  | 0 => rfl
  | k + 1 => by
    rw [List.replicate_succ, List.flatten_cons, rep_one x k]
    rfl
theorem op_falses {X : Cx} : OpR X (binaryOp .Mult) (rFalses X.K) := by
  intro pins s σ H x y v u Q I rx ry h
  obtain ⟨l, k, rfl, rfl, hT, h2, q⟩ := h
  by_cases h1 : 2 ≤ k
  · refine op_repT (X := X) pins s σ H _ _ v u Q I rx ry ⟨l, (k : Int), [.bl false], rfl, rfl, hT, by simp, by omega, by omega, by simp, fun p hp => ?_⟩
    rw [Int.toNat_natCast, rep_one]
    exact q p _ (Evl.Ex.new hp) (Evl.st_of upd_same)
  · cases rx
    obtain ⟨t, rfl⟩ := ry
    obtain ⟨its, r, ⟨⟨cls, dd, data, sl⟩, ho, hc, n, hd⟩, hs⟩ := I.tuple hT
    simp only at hc hd
    subst hc hd
    have e : its = [Value.bool false] := by
      cases r with
      | cons r1 r2 =>
        cases r2
        cases r1
        rfl
    subst e
    have hk : k = 0 ∨ k = 1 := by omega
    rcases hk with rfl | rfl
    · refine wpAny_binaryOp_repeat_ref (T := "tuple") (U := "int") (by decide) ⟨_, ho, rfl⟩ (fun s' => typeIs_int s' _ t) noFill_tuple_mul F.fills_int_mul F.slot_int_rmul repeat_tuple F.slot_int_index.lookup
        (call_meets F.slot_int_rmul (typeIs_int s _ t) F.entry_int_rmul (F.args_int_rmul_2 _ _) (int_rmul_tuple _ t l _ n dd sl)
          ⟨ho, rfl, ⟨_, ho, rfl⟩, call_meets F.slot_tuple_mul ⟨_, ho, rfl⟩ F.entry_tuple_mul (F.args_tuple_mul_2 _ _) (tuple_mul0 l n dd sl t) ⟨ho, ?_⟩⟩)
      refine ⟨.ref s.heap.objs.size, _, I.laid (t' := s.toks) (o := .tup []) (fun b ob q => Heap.get?_push_of_some _ q) (Nat.le_refl _) ?_, rfl, q _ _ (Evl.Ex.new (I.hok.fresh (Nat.le_refl _))) (Evl.st_of upd_same)⟩
      exact ⟨Nat.zero_le _, _, .nil, IsTup.new _ _⟩
    · refine wpAny_binaryOp_repeat_ref (T := "tuple") (U := "int") (by decide) ⟨_, ho, rfl⟩ (fun s' => typeIs_int s' _ t) noFill_tuple_mul F.fills_int_mul F.slot_int_rmul repeat_tuple F.slot_int_index.lookup
        (call_meets F.slot_int_rmul (typeIs_int s _ t) F.entry_int_rmul (F.args_int_rmul_2 _ _) (int_rmul_tuple _ t l _ n dd sl)
          ⟨ho, rfl, ⟨_, ho, rfl⟩, call_meets F.slot_tuple_mul ⟨_, ho, rfl⟩ F.entry_tuple_mul (F.args_tuple_mul_2 _ _) (tuple_mul1 l n dd sl t) ⟨ho, ?_⟩⟩)
      exact ⟨.ref l, H, I, rfl, q l H (Evl.Ex.refl H) hT⟩
end Tu
namespace Tu
open PySem PySem.Spec PyProof.Rows L2 Evl RZ
section
variable {K : PySem.W.Frag} {w : World} {H H' : Hp} {σ : L2.St} {t : TT} {te tl ta tb : TE} {D : Ends} {tz tu : TS}
/-- for c in s -/
theorem s_forS {x : Str} {j : Nat} {tl : TE} (h : Ev tl σ H (.str x)) (Pv : Nat → L2.St → Hp → Prop) (h0 : ∀ H1, Ex H H1 → Pv 0 σ H1)
    (hs : ∀ (i c : Nat) σ' H', x.cps[i]? = some c → Pv i σ' H' → tu { D with nx := Pv (i + 1), ct := Pv (i + 1), bk := D.nx } (σ'.set j (some (.str ⟨#[c]⟩))) H') (hd : ∀ σ' H', Pv x.cps.size σ' H' → D.nx σ' H') : tFor (iStr tl) (gName j) tu D σ H := h H (Ex.refl H) _ fun H1 e1 =>
  ⟨x, rfl, for_it walk_str Pv (h0 H1 e1) (fun _ _ _ _ _ => trivial) (fun i v σ' H' H2 hi p hy => by
    obtain ⟨rfl, c, hc, rfl⟩ := hy
    exact hs i c σ' _ hc p) hd⟩
theorem q_forS {x : Str} {j : Nat} {tl : TE} (h : Ev tl σ H (.str x)) (Pv : Nat → L2.St → Hp → Prop) (h0 : ∀ H1, Ex H H1 → Pv 0 σ H1)
    (hs : ∀ (i c : Nat) σ' H', x.cps[i]? = some c → Pv i σ' H' → tu { D with nx := Pv (i + 1), ct := Pv (i + 1), bk := tz D } (σ'.set j (some (.str ⟨#[c]⟩))) H') (hd : ∀ σ' H', Pv x.cps.size σ' H' → tz D σ' H') : tSeq (tFor (iStr tl) (gName j) tu) tz D σ H :=
  s_forS (D := { D with nx := tz D }) h Pv h0 hs hd
/-- a, b = e, where e hands back a new pair -/
theorem q_pair {j k : Nat} {x y : V} (h : EvU te σ H [x, y]) (c : ∀ H1, Ex H H1 → tz D ((σ.set j (some x)).set k (some y)) H1) : tSeq (tAsg te (gTup K 2 (gCons (gName j) (gCons (gName k) gNil)))) tz D σ H :=
  h H (Ex.refl H) _ fun p H1 hp e hP => ⟨p, [x, y], rfl, st_of hP, rfl, x, [y], rfl, y, [], rfl, rfl, c H1 e⟩
/-- .. a pair that is written -/
theorem q_pairT {j k : Nat} {x y : V} {p : Addr} (h : Ev te σ H (.ref p)) (hT : ∀ H, SqT K H p [x, y]) (c : ∀ H1, Ex H H1 → tz D ((σ.set j (some x)).set k (some y)) H1) : tSeq (tAsg te (gTup K 2 (gCons (gName j) (gCons (gName k) gNil)))) tz D σ H :=
  h H (Ex.refl H) _ fun H1 e => ⟨p, [x, y], rfl, hT H1, rfl, x, [y], rfl, y, [], rfl, rfl, c H1 e⟩
def RetU (xs : List V) (H : Hp) (Q : VK) : Prop := ∀ p H2, H p = none → Ex H H2 → H2 p = some (.tup xs) → Q (.ref p) H2
theorem RetU.go {xs : List V} {Q : VK} (k : RetU xs H Q) (e : Ex H H') {p : Addr} {H2 : Hp} (hp : H' p = none) (e2 : Ex H' H2) (h : H2 p = some (.tup xs)) : Q (.ref p) H2 := k p H2 (fresh_back e hp) (e.trans e2) h
def SpU (sp : Sp) (vs : List V) (H : Hp) (xs : List V) : Prop := ∀ H1, Ex H H1 → ∀ Q : VK, RetU xs H1 Q → ∀ E : XK, sp vs H1 Q E
theorem eu_call {sp : Sp} {dvs vs xs : List V} {E : XK} {ta : TA} (h : EvA ta σ H vs) (hs : SpU sp (vs ++ dvs) H xs) : EvU (tCall sp dvs E ta) σ H xs := fun H1 e Q q =>
  h H1 e _ fun H2 e2 => hs H2 (e.trans e2) Q (fun p H3 hp e3 x => q p H3 (fresh_back e2 hp) (e2.trans e3) x) E
end
abbrev sOne : Stmt := topS 13
abbrev sAll : Stmt := topS 14
abbrev sStep : Stmt := topS 15
theorem scOne : FnScope ["word", "flag", "sign", "ahead_of_n", "otherwise", "held"] ["word", "flag", "sign"] (defScope sOne) := ⟨rfl, rfl, rfl, by decide +kernel, rfl, by decide +kernel, by decide +kernel⟩
theorem scAll : FnScope ["word", "flag", "text", "given", "sign", "out"] ["word", "flag", "text"] (defScope sAll) := ⟨rfl, rfl, rfl, by decide +kernel, rfl, by decide +kernel, by decide +kernel⟩
theorem scStep : FnScope ["way", "standing", "sign", "behind", "text", "word", "flag", "flag_behind"] ["way", "standing", "sign"] (defScope sStep) := ⟨rfl, rfl, rfl, by decide +kernel, rfl, by decide +kernel, by decide +kernel⟩
def sg (g : Sg) : Str := ⟨#[g.c]⟩
theorem sg_txt (g : Sg) : sg g = txt [g] := rfl
theorem dec_n (g : Sg) : decide (V.str (sg g) = V.str "n") = decide (g = .n) := by cases g <;> decide +kernel
theorem dec_r (g : Sg) : decide (V.str (sg g) = V.str "r") = decide (g = .r) := by cases g <;> decide +kernel
theorem dec_care (c : Cv) : decide (V.str c.s = V.str "care") = decide (c = .care) := by cases c <;> decide +kernel
theorem evn {σ : L2.St} {H' : Hp} {g : Sg} {i : Nat} (hs : σ[i]? = some (some (.str (sg g)))) : Ev (tOp rEq (tVar i) (tC (.str "n"))) σ H' (.bl (decide (g = .n))) := by
  have z := ev_op (σ := σ) (H := H') (ev_var hs) (ev_c (v := .str "n")) (rv_eq rfl)
  rw [dec_n] at z
  exact z
theorem evr {σ : L2.St} {H' : Hp} {g : Sg} {i : Nat} (hs : σ[i]? = some (some (.str (sg g)))) : Ev (tOp rEq (tVar i) (tC (.str "r"))) σ H' (.bl (decide (g = .r))) := by
  have z := ev_op (σ := σ) (H := H') (ev_var hs) (ev_c (v := .str "r")) (rv_eq rfl)
  rw [dec_r] at z
  exact z
def plainN : Cv → List Sg | .all => [.r, .n] | _ => [.r]
theorem one_plain {c : Cv} (h : plain c = true) (b : Bool) (g : Sg) : one c b g = (false, if g = .n then plainN c else [g]) := by cases c <;> first | rfl | cases h
theorem one_held {c : Cv} (h : plain c = false) (h2 : c ≠ .care) (b : Bool) (g : Sg) : one c b g = (decide (g = .r), (if b then (if g = .n then heldN c else heldE c) else []) ++ (if g = .r then [] else [g])) := by
  cases c <;> first | rfl | exact absurd rfl h2 | cases h
theorem holds_of {c : Cv} (h : plain c = false) (h2 : c ≠ .care) : holds c = true := by cases c <;> first | rfl | exact absurd rfl h2 | cases h
theorem one_len (c : Cv) (b : Bool) (g : Sg) : (one c b g).2.length ≤ 2 := by cases c <;> cases b <;> cases g <;> decide
theorem many_len (c : Cv) : ∀ (b : Bool) (l : List Sg), (many c b l).2.length ≤ 2 * l.length
  | b, [] => Nat.zero_le _
  | b, s :: l => by
    show ((one c b s).2 ++ (many c _ l).2).length ≤ 2 * (l.length + 1)
    have := one_len c b s
    have := many_len c (one c b s).1 l
    rw [List.length_append]
    omega
theorem many_take (c : Cv) (b : Bool) (l : List Sg) {i : Nat} {g : Sg} (h : l[i]? = some g) :
    many c b (l.take (i + 1)) = ((one c (many c b (l.take i)).1 g).1, (many c b (l.take i)).2 ++ (one c (many c b (l.take i)).1 g).2) := by
  rw [List.take_add_one, h, many_app]
  simp [many]
section
variable {P : Program} {w : World} {K : PySem.W.Frag} {mg : Str → Option Value} {base : Heap} {H H' : Hp}
def spOne (K : PySem.W.Frag) : Sp := fun vs H Q _ => ∃ (c : Cv) (b : Bool) (g : Sg), vs = [.str c.s, .bl b, .str (sg g)] ∧ RetU [.bl (one c b g).1, .str (txt (one c b g).2)] H Q
theorem ok_one {f aP aH : Addr} {fd : FuncData} {k : Nat} (F : Fun K "_read_one" "_read_one" sOne f fd) (mP : mg "_PLAIN" = some (.ref aP)) (tP : ∀ c : Cv, KIn K w aP c.s (plain c)) (iP : ∀ c : Cv, plain c = true → KDct K w aP c.s (.str (txt (plainN c))))
    (mH : mg "_HELD" = some (.ref aH)) (iH : ∀ c : Cv, holds c = true → ∃ t, KDct K w aH c.s (.ref t) ∧ ∀ H, SqT K H t [.str (txt (heldN c)), .str (txt (heldE c))]) :
    FnOk P w K mg base CX0 (k + 1) f fd ["word", "flag", "sign"] (spOne K) := by
  refine F.ok scOne (fun vs H Q E h => ?_) (fun cdv A outer s H vs Q E hr h => ?_)
  · obtain ⟨c, b, g, rfl, _⟩ := h
    rfl
  · obtain ⟨c, b, g, rfl, q⟩ := h
    have nd := scOne.nd
    refine ⟨_, pss_cons (ps_if (pt_cmpR op_in_kd (pv 0) (pe_glob (v := .ref aP) (by rfl) mP rfl) rfl) (pss_one (ps_ret (pe_tup (pa_cons pe_bl (pa_cons (pe_ifExp (pt_cmpR op_eq (pv 2) pe_str (nomark _)) (pe_ix ix_kdict (pe_glob (v := .ref aP) (by rfl) mP rfl) (pv 0) (fun _ _ => rfl)) (pv 2)) pa_nil))))) pss_nil)
      (pss_cons (ps_if (pt_cmpR op_eq (pv 0) pe_str (nomark _)) (pss_one (ps_ret (pe_tup (pa_cons (pe_cmpR op_eq (pv 2) pe_str (nomark _)) (pa_cons (pe_ifExp (PW.pt (pw_and (pt_cmpR op_eq (pv 2) pe_str (nomark _)) (pw_and1 (pt_not (pt_val (pv 1)))))) pe_str (pv 2)) pa_nil))))) pss_nil)
      (pss_cons (ps_asg (pe_ix ix_kdict (pe_glob (v := .ref aH) (by rfl) mH rfl) (pv 0) (fun _ _ => rfl)) (pg_tup rfl (pgs_cons (pg_name (i := 3) nd rfl (.inl rfl)) (pgs_cons (pg_name (i := 4) nd rfl (.inl rfl)) pgs_nil))))
      (pss_cons (ps_set (i := 5) nd rfl (.inl rfl) pe_str)
      (pss_cons (ps_if (pt_val (pv 1)) (pss_one (ps_set (i := 5) nd rfl (.inl rfl) (pe_ifExp (pt_cmpR op_eq (pv 2) pe_str (nomark _)) (pv 3) (pv 4)))) pss_nil)
      (pss_one (ps_ret (pe_tup (pa_cons (pe_cmpR op_eq (pv 2) pe_str (nomark _)) (pa_cons (pe_ifExp (pt_cmpR op_eq (pv 2) pe_str (nomark _)) (pv 5) (pe_op op_add_str (pv 5) (pv 2))) pa_nil))))))))), ?_⟩
    refine q_if (b := plain c) (et_test (ev_inK (ev_var rfl) ev_c (tP c))) (fun hp H1 e1 => ?_) (fun hp H1 e1 => ?_)
    · rw [one_plain hp] at q
      refine s_retU (eu_tup (vs := [.bl false, .str (txt (if g = .n then plainN c else [g]))]) (ea_cons ev_c (ea_cons (ev_if (et_test (evn rfl)) (fun hb => ?_) (fun hb => ?_)) ea_nil)) (by simp)) fun p H2 hp e2 h2 => q.go e1 hp e2 h2
      · rw [if_pos (of_decide_eq_true hb)]
        exact ev_ixK ev_c (ev_var rfl) (iP c hp)
      · rw [if_neg (of_decide_eq_false hb)]
        exact ev_var rfl
    · have zc := ev_op (σ := L2.start ["word", "flag", "sign", "ahead_of_n", "otherwise", "held"] [.str c.s, .bl b, .str (sg g)]) (H := H1) (ev_var (i := 0) rfl) (ev_c (v := .str "care")) (rv_eq rfl)
      rw [dec_care] at zc
      refine q_if (et_test zc) (fun hc H2 e2 => ?_) (fun hc H2 e2 => ?_)
      · have hc := of_decide_eq_true hc
        subst hc
        refine s_retU (eu_tup (vs := [.bl (decide (g = .r)), .str (txt (if g = .n && !b then [.r, .n] else [g]))]) (ea_cons (evr rfl) (ea_cons (ev_if (b := decide (g = .n) && !b) (et_and (et_test (evn rfl)) (fun _ => et_not (et_test (ev_var rfl)))) (fun hb => ?_) (fun hb => ?_)) ea_nil)) (by simp)) fun p H3 hp e3 h3 => q.go (e1.trans e2) hp e3 h3
        · rw [if_pos (by simpa using hb)]
          exact ev_c
        · rw [if_neg (by rw [hb]; exact Bool.false_ne_true)]
          exact ev_var rfl
      · have hc := of_decide_eq_false hc
        obtain ⟨tt, hd, hT⟩ := iH c (holds_of hp hc)
        rw [one_held hp hc] at q
        refine q_pairT (ev_ixK ev_c (ev_var rfl) hd) hT fun H3 e3 => ?_
        refine q_asg ev_c fun H4 e4 => ?_
        refine q_ifAsg (v := .str (txt (if b then (if g = .n then heldN c else heldE c) else []))) (et_test (ev_var rfl)) (fun hb => ?_) (fun hb => ?_) fun H5 e5 => ?_
        · rw [hb, if_pos rfl]
          refine ev_if (et_test (evn rfl)) (fun hn => ?_) (fun hn => ?_)
          · rw [if_pos (of_decide_eq_true hn)]
            exact ev_var rfl
          · rw [if_neg (of_decide_eq_false hn)]
            exact ev_var rfl
        · rw [hb]
          rfl
        · refine s_retU (eu_tup (ea_cons (evr rfl) (ea_cons (x := .str (txt ((if b then (if g = .n then heldN c else heldE c) else []) ++ (if g = .r then [] else [g])))) (ev_if (et_test (evr rfl)) (fun hb => ?_) (fun hb => ?_)) ea_nil)) (by simp)) fun p H6 hp e6 h6 => q.go (e1.trans (e2.trans (e3.trans (e4.trans e5)))) hp e6 h6
          · rw [if_pos (of_decide_eq_true hb), List.append_nil]
            exact ev_var rfl
          · rw [if_neg (of_decide_eq_false hb)]
            refine ev_op (ev_var rfl) (ev_var rfl) fun H6 e6 Q q => ⟨_, _, rfl, rfl, ?_, ?_⟩
            · rw [txt_len, sg_txt, txt_len]
              cases c <;> cases b <;> cases g <;> decide
            · rw [sg_txt, txt_app]
              exact q H6 (Ex.refl H6)
end
end Tu
namespace Tu
open PySem PySem.Spec PyProof.Rows L2 Evl RZ
theorem sum_flat : ∀ ls : List (List Sg), ((ls.map txt).map (·.length)).sum = ls.flatten.length
  | [] => rfl
  | l :: ls => by
    rw [List.map_cons, List.map_cons, List.sum_cons, sum_flat ls, List.flatten_cons, List.length_append, txt_len]
def rJoin (K : PySem.W.Frag) : V → List V → Hp → VK → Prop := fun x xs H Q => ∃ a p, ∃ ys : List Str, x = .str a ∧ xs = [.ref p] ∧ (SqL K H p (ys.map V.str) ∨ SqT K H p (ys.map V.str)) ∧
      (ys.map (·.length)).sum + ys.length * a.length ≤ 16777216 ∧ Q (.str (Txt.join a ys)) H
def txtV (ls : List (List Sg)) : List V := (ls.map txt).map V.str
section
variable {K : PySem.W.Frag} {w : World} {H H' : Hp} {σ : L2.St} {t : TT} {te tl ta tb : TE} {D : Ends} {tz tu : TS}
theorem ev_join {p : Addr} {ls : List (List Sg)} (h : Ev te σ H (.ref p)) (hp : SqL K H p (txtV ls)) (hb : ls.flatten.length ≤ 10000000) : Ev (tM1 (rJoin K) (tC (.str "")) te) σ H (.str (txt ls.flatten)) := fun H1 e Q q =>
  ⟨⟨_, rfl⟩, h H1 e _ fun H2 e2 => ⟨_, p, ls.map txt, rfl, rfl, .inl (ex_l (e.trans e2) hp), by
    rw [sum_flat]
    show _ + _ * 0 ≤ _
    omega, by
    rw [join_txt]
    exact q H2 e2⟩⟩
end
section
variable {P : Program} {w : World} {K : PySem.W.Frag} {mg : Str → Option Value} {base : Heap} {H H' : Hp}
def spAll (K : PySem.W.Frag) : Sp := fun vs H Q _ => ∃ (c : Cv) (b : Bool) (l : List Sg), vs = [.str c.s, .bl b, .str (txt l)] ∧ l.length ≤ 50000 ∧ RetU [.bl (many c b l).1, .str (txt (many c b l).2)] H Q
theorem ok_all {f fO : Addr} {fd fdO : FuncData} {k : Nat} (F : Fun K "_read_all" "_read_all" sAll f fd) (GO : FnOk P w K mg base CX0 k fO fdO ["word", "flag", "sign"] (spOne K)) (kO : PySem.W.keepIn K (.ref fO) = true) (bO : Binds K fdO ["word", "flag", "sign"] []) (gO : mg "_read_one" = some (.ref fO)) :
    FnOk P w K mg base CX0 (k + 1) f fd ["word", "flag", "text"] (spAll K) := by
  refine F.ok scAll (fun vs H Q E h => ?_) (fun cdv A outer s H vs Q E hr h => ?_)
  · obtain ⟨c, b, g, rfl, _⟩ := h
    rfl
  · obtain ⟨c, b, l, rfl, hl, q⟩ := h
    have nd := scAll.nd
    refine ⟨_, pss_cons (ps_set (i := 3) nd rfl (.inl rfl) (pe_lst pa_nil))
      (pss_cons (ps_for PassesOwn.never rfl (pi_str (pv 2)) (pg_name (i := 4) nd rfl (.inl rfl))
        (pss_cons (ps_asg (pe_call GO hr (by rfl) gO kO bO .nil pass0 (pa_cons (pv 0) (pa_cons (pv 1) (pa_cons (pv 4) pa_nil)))) (pg_tup rfl (pgs_cons (pg_name (i := 1) nd rfl (.inl rfl)) (pgs_cons (pg_name (i := 5) nd rfl (.inl rfl)) pgs_nil))))
        (pss_one (ps_expr (pe_bm PySem.F.plainAttrs_list PySem.F.slot_list_append PySem.F.type_list_append mt_append (pv 3) (pa_cons (pv 5) pa_nil))))))
      (pss_one (ps_ret (pe_tup (pa_cons (pv 1) (pa_cons (pe_join pe_str (pv 3)) pa_nil)))))), ?_⟩
    refine q_asgL (el_lst ea_nil (by simp)) fun p H1 hp e1 h1 => ?_
    refine q_forS (ev_var rfl) (fun i σ H' => ∃ ls x y, σ = [some (.str c.s), some (.bl (many c b (l.take i)).1), some (.str (txt l)), some (.ref p), x, y] ∧ Ex H H' ∧ H' p = some (.lst (txtV ls)) ∧ ls.flatten = (many c b (l.take i)).2 ∧ ls.length = i)
      (fun H2 e2 => ⟨[], _, _, rfl, e1.trans e2, e2 _ _ h1, rfl, rfl⟩) ?_ ?_
    · rintro i cc σ H2 hc ⟨ls, x, y, rfl, e2, h2, hf, hn⟩
      obtain ⟨g, hg, rfl⟩ := txt_get hc
      have hi : i < l.length := (List.getElem?_eq_some_iff.mp hg).1
      refine q_pair (eu_call (vs := [.str c.s, .bl (many c b (l.take i)).1, .str (sg g)]) (ea_cons (ev_var rfl) (ea_cons (ev_var rfl) (ea_cons (ev_var rfl) ea_nil))) fun H3 e3 Q r E => ⟨c, _, g, rfl, r⟩) fun H3 e3 => ?_
      refine s_app (e3 _ _ h2) (ev_var rfl) (ev_var rfl) (by simp [txtV]; omega) fun H4 e4 => ?_
      refine ⟨ls ++ [(one c (many c b (l.take i)).1 g).2], some (.str (sg g)), some (.str (txt (one c (many c b (l.take i)).1 g).2)), ?_, (e2.trans (e3.trans e4)).mut hp, ?_, ?_, by simp [hn]⟩
      · rw [many_take c b l hg]
        rfl
      · rw [upd_same]
        simp [txtV]
      · rw [many_take c b l hg, List.flatten_append, hf]
        simp
    · rintro σ H2 ⟨ls, x, y, rfl, e2, h2, hf, hn⟩
      have ht : l.take (txt l).cps.size = l := List.take_of_length_le (by rw [show (txt l).cps.size = (txt l).length from rfl, txt_len]; omega)
      rw [ht] at hf ⊢
      have hb := many_len c b l
      refine s_retU (eu_tup (ea_cons (ev_var rfl) (ea_cons (ev_join (ev_var rfl) (sq_of h2) (by rw [hf]; omega)) ea_nil)) (by simp)) fun r H3 hr3 e3 h3 => ?_
      rw [hf] at h3
      exact q.go e2 hr3 e3 h3
/-- a pair of a standing and a text -/
def RetP (st : List Bool) (l : List Sg) (H : Hp) (Q : VK) : Prop := ∀ p r H2, Ex H H2 → H2 r = some (.tup (stV st)) → H2 p = some (.tup [.ref r, .str (txt l)]) → Q (.ref p) H2
theorem RetP.go {st : List Bool} {l : List Sg} {Q : VK} (k : RetP st l H Q) (e : Ex H H') {p r : Addr} {H2 : Hp} (e2 : Ex H' H2) (h : H2 r = some (.tup (stV st))) (h2 : H2 p = some (.tup [.ref r, .str (txt l)])) : Q (.ref p) H2 := k p r H2 (e.trans e2) h h2
theorem step_at {ws : List Cv} {st : List Bool} {i : Nat} {c : Cv} {b : Bool} (t : List Sg) (h : ws[i]? = some c) (h2 : st[i]? = some b) :
    stepW (ws.drop i) (st.drop i) t = ((many c b t).1 :: (stepW (ws.drop (i + 1)) (st.drop (i + 1)) (many c b t).2).1, (stepW (ws.drop (i + 1)) (st.drop (i + 1)) (many c b t).2).2) := by
  obtain ⟨hi, e⟩ := List.getElem?_eq_some_iff.mp h
  obtain ⟨hi2, e2⟩ := List.getElem?_eq_some_iff.mp h2
  rw [List.drop_eq_getElem_cons hi, List.drop_eq_getElem_cons hi2, e, e2]
  rfl
def spStep (K : PySem.W.Frag) : Sp := fun vs H Q _ => ∃ (a b : Addr) (ws : List Cv) (st : List Bool) (l : List Sg), vs = [.ref a, .ref b, .str (txt l)] ∧ SqT K H a (wayV ws) ∧ SqT K H b (stV st) ∧ st.length = ws.length ∧ l.length * 2 ^ ws.length ≤ 50000 ∧ ws.length ≤ 1000 ∧
  RetP (stepW ws st l).1 (stepW ws st l).2 H Q
theorem ok_step {f fO : Addr} {fd fdO : FuncData} {k : Nat} (F : Fun K "step" "step" sStep f fd) (GO : FnOk P w K mg base CX0 k fO fdO ["word", "flag", "text"] (spAll K)) (kO : PySem.W.keepIn K (.ref fO) = true) (bO : Binds K fdO ["word", "flag", "text"] []) (gO : mg "_read_all" = some (.ref fO)) (mz : mg "zip" = none) (mt : mg "tuple" = none) :
    FnOk P w K mg base CX0 (k + 1) f fd ["way", "standing", "sign"] (spStep K) := by
  refine F.ok scStep (fun vs H Q E h => ?_) (fun cdv A outer s H vs Q E hr h => ?_)
  · obtain ⟨a, b, ws, st, l, rfl, _⟩ := h
    rfl
  · obtain ⟨a, b, ws, st, l, rfl, hS, hT, hlen, hl, hw, q⟩ := h
    have nd := scStep.nd
    refine ⟨_, pss_cons (ps_set (i := 3) nd rfl (.inl rfl) (pe_lst pa_nil))
      (pss_cons (ps_set (i := 4) nd rfl (.inl rfl) (pv 2))
      (pss_cons (ps_for PassesOwn.never rfl (pi_zipA (by rfl) mz (pa_cons (pv 0) (pa_cons (pv 1) pa_nil))) (pg_tup rfl (pgs_cons (pg_name (i := 5) nd rfl (.inl rfl)) (pgs_cons (pg_name (i := 6) nd rfl (.inl rfl)) pgs_nil)))
        (pss_cons (ps_asg (pe_call GO hr (by rfl) gO kO bO .nil pass0 (pa_cons (pv 5) (pa_cons (pv 6) (pa_cons (pv 4) pa_nil)))) (pg_tup rfl (pgs_cons (pg_name (i := 7) nd rfl (.inl rfl)) (pgs_cons (pg_name (i := 4) nd rfl (.inl rfl)) pgs_nil))))
        (pss_one (ps_expr (pe_bm PySem.F.plainAttrs_list PySem.F.slot_list_append PySem.F.type_list_append mt_append (pv 3) (pa_cons (pv 7) pa_nil))))))
      (pss_one (ps_ret (pe_tup (pa_cons (pe_callTy call_tuple_of (by rfl) mt (by decide +kernel) (pa_cons (pv 3) pa_nil)) (pa_cons (pv 4) pa_nil))))))), ?_⟩
    refine q_asgL (el_lst ea_nil (by simp)) fun p H1 hp e1 h1 => ?_
    refine q_asg (ev_var rfl) fun H2 e2 => ?_
    have e12 := e1.trans e2
    refine q_forZ (ea_cons (ev_var rfl) (ea_cons (ev_var rfl) ea_nil)) (ex_t e12 hS) (ex_t e12 hT) (by rw [wayV_len, stV_len, hlen])
      (fun i σ H' => ∃ bs t x y z, σ = [some (.ref a), some (.ref b), some (.str (txt l)), some (.ref p), some (.str (txt t)), x, y, z] ∧ Ex H H' ∧ H' p = some (.lst (stV bs)) ∧ bs.length = i ∧ i ≤ ws.length ∧ t.length * 2 ^ (ws.length - i) ≤ 50000 ∧
        stepW ws st l = (bs ++ (stepW (ws.drop i) (st.drop i) t).1, (stepW (ws.drop i) (st.drop i) t).2))
      (fun H3 e3 => ⟨[], l, _, _, _, rfl, e12.trans e3, e3 _ _ (e2 _ _ h1), rfl, Nat.zero_le _, hl, rfl⟩) (fun i σ H' ⟨bs, t, x, y, z, _, e3, _⟩ => ⟨ex_t e3 hS, ex_t e3 hT⟩) ?_ ?_
    · rintro i x y σ H3 hx hy ⟨bs, t, x3, y3, z3, rfl, e3, h3, hb, hi, ht, hst⟩ H4 e4
      obtain ⟨c, hc, rfl⟩ := wayV_get hx
      obtain ⟨f, hf, rfl⟩ := stV_get hy
      have hi2 : i < ws.length := (List.getElem?_eq_some_iff.mp hc).1
      have hml := many_len c f t
      have hpow : 2 ^ (ws.length - i) = 2 * 2 ^ (ws.length - (i + 1)) := by
        rw [show ws.length - i = (ws.length - (i + 1)) + 1 by omega, Nat.pow_succ, Nat.mul_comm]
      have htl : t.length ≤ 50000 := Nat.le_trans (Nat.le_mul_of_pos_right _ (Nat.two_pow_pos _)) ht
      refine q_pair (eu_call (vs := [.str c.s, .bl f, .str (txt t)]) (ea_cons (ev_var rfl) (ea_cons (ev_var rfl) (ea_cons (ev_var rfl) ea_nil))) fun H5 e5 Q r E => ⟨c, f, t, rfl, htl, r⟩) fun H5 e5 => ?_
      refine s_app (e5 _ _ (e4 _ _ h3)) (ev_var rfl) (ev_var rfl) (by rw [stV_len]; omega) fun H6 e6 => ?_
      refine ⟨bs ++ [(many c f t).1], (many c f t).2, some (.str c.s), some (.bl f), some (.bl (many c f t).1), rfl, (e3.trans (e4.trans (e5.trans e6))).mut hp, ?_, by simp [hb], hi2, ?_, ?_⟩
      · rw [upd_same]
        simp [stV]
      · rw [hpow] at ht
        exact Nat.le_trans (Nat.mul_le_mul_right _ hml) (by rw [Nat.mul_comm 2, Nat.mul_assoc]; exact ht)
      · rw [hst, step_at t hc hf]
        simp
    · rintro σ H3 ⟨bs, t, x3, y3, z3, rfl, e3, h3, hb, hi, ht, hst⟩
      have hd1 : ws.drop (wayV ws).length = [] := by rw [wayV_len]; exact List.drop_length
      have hd2 : st.drop (wayV ws).length = [] := by rw [wayV_len, ← hlen]; exact List.drop_length
      rw [hd1, hd2] at hst
      have hst2 : stepW ws st l = (bs, t) := by rw [hst]; simp [stepW]
      rw [hst2] at q
      refine ⟨_, rfl, p, _, rfl, .inl ⟨sq_of h3, fun r hr => ?_⟩⟩
      refine ⟨_, rfl, sz_of (n := 2) (by decide), fun u hu => ?_⟩
      exact q.go e3 ((Ex.new hr).trans (Ex.new hu)) (Ex.new hu r _ upd_same) upd_same
end
end Tu
namespace Tu
open PySem PySem.Spec PyProof.Rows L2 Evl RZ
abbrev sFirst : Stmt := topS 16
abbrev sRead : Stmt := topS 17
abbrev sEnd : Stmt := topS 18
theorem scFirst : FnScope ["way"] ["way"] (defScope sFirst) := ⟨rfl, rfl, rfl, by decide +kernel, rfl, by decide +kernel, by decide +kernel⟩
theorem scRead : FnScope ["way", "standing", "sign"] ["way", "standing", "sign"] (defScope sRead) := ⟨rfl, rfl, rfl, by decide +kernel, rfl, by decide +kernel, by decide +kernel⟩
theorem scEnd : FnScope ["way", "standing", "text", "word", "flag", "flag_behind"] ["way", "standing"] (defScope sEnd) := ⟨rfl, rfl, rfl, by decide +kernel, rfl, by decide +kernel, by decide +kernel⟩
theorem end_at {ws : List Cv} {st : List Bool} {i : Nat} {c : Cv} {b : Bool} (t : List Sg) (h : ws[i]? = some c) (h2 : st[i]? = some b) :
    endW (ws.drop i) (st.drop i) t = endW (ws.drop (i + 1)) (st.drop (i + 1)) (runF c b t) := by
  obtain ⟨hi, e⟩ := List.getElem?_eq_some_iff.mp h
  obtain ⟨hi2, e2⟩ := List.getElem?_eq_some_iff.mp h2
  rw [List.drop_eq_getElem_cons hi, List.drop_eq_getElem_cons hi2, e, e2]
  rfl
section
variable {P : Program} {w : World} {K : PySem.W.Frag} {mg : Str → Option Value} {base : Heap} {H H' : Hp}
theorem spv_chkWay {a : Addr} {ws : List Cv} (hS : SqT K H a (wayV ws)) (hl : ws.length ≤ 6) : SpV (spChkWay K) [.ref a] H .non := fun H1 e1 Q q E => ⟨a, ws, rfl, ex_t e1 hS, hl, q⟩
theorem spv_chkSt {a b : Addr} {ws : List Cv} {st : List Bool} (hS : SqT K H a (wayV ws)) (hT : SqT K H b (stV st)) (ok : stOk ws st) (hl : ws.length ≤ 6) : SpV (spChkSt K) [.ref a, .ref b] H .non := fun H1 e1 Q q E => ⟨a, b, ws, st, rfl, ex_t e1 hS, ex_t e1 hT, ok, hl, q⟩
def spFirst (K : PySem.W.Frag) : Sp := fun vs H Q _ => ∃ (a : Addr) (ws : List Cv), vs = [.ref a] ∧ SqT K H a (wayV ws) ∧ ws.length ≤ 6 ∧ ∀ p H2, Ex H H2 → SqT K H2 p (stV (List.replicate ws.length false)) → Q (.ref p) H2
theorem ok_first {f fW : Addr} {fd fdW : FuncData} {k : Nat} (F : Fun K "first_standing" "first_standing" sFirst f fd) (GW : FnOk P w K mg base CX0 k fW fdW ["way"] (spChkWay K)) (kW : PySem.W.keepIn K (.ref fW) = true) (bW : Binds K fdW ["way"] []) (gW : mg "check_way" = some (.ref fW)) (ml : mg "len" = none) :
    FnOk P w K mg base CX0 (k + 1) f fd ["way"] (spFirst K) := by
  refine F.ok scFirst (fun vs H Q E h => ?_) (fun cdv A outer s H vs Q E hr h => ?_)
  · obtain ⟨a, ws, rfl, _⟩ := h
    rfl
  · obtain ⟨a, ws, rfl, hS, hl, q⟩ := h
    refine ⟨_, pss_cons (ps_expr (pe_call GW hr (by rfl) gW kW bW .nil pass0 (pa_cons (pv 0) pa_nil)))
      (pss_one (ps_ret (pe_op op_falses (pe_tup (pa_cons pe_bl pa_nil)) (pe_callB call_len_seq (by rfl) ml PySem.boot_len (pa_cons (pv 0) pa_nil))))), ?_⟩
    refine q_drop (ev_call (vs := [.ref a]) (ea_cons (ev_var rfl) ea_nil) (spv_chkWay hS hl)) fun H1 e1 => ?_
    refine ⟨sz_of (n := 1) (by decide), fun t ht => ?_⟩
    refine (ev_cb (σ := [some (.ref a)]) (ea_cons (ev_var rfl) ea_nil) (rc_len (K := K) (.inr (ex_t (e1.trans (Ex.new ht)) hS)))) _ (Ex.refl _) _ fun H2 e2 => ?_
    refine ⟨t, ws.length, rfl, by rw [wayV_len], ex_t e2 (st_of upd_same), by omega, fun p H3 e3 hp => ?_⟩
    refine q p H3 (e1.trans ((Ex.new ht).trans (e2.trans e3))) ?_
    unfold stV
    rw [List.map_replicate]
    exact hp
def spRead (K : PySem.W.Frag) : Sp := fun vs H Q _ => ∃ (a b : Addr) (ws : List Cv) (st : List Bool) (g : Sg), vs = [.ref a, .ref b, .str (sg g)] ∧ SqT K H a (wayV ws) ∧ SqT K H b (stV st) ∧ stOk ws st ∧ ws.length ≤ 6 ∧ RetP (stepW ws st [g]).1 (stepW ws st [g]).2 H Q
theorem ok_read {f fW fC fS aS : Addr} {fd fdW fdC fdS : FuncData} (F : Fun K "read" "read" sRead f fd) (GW : FnOk P w K mg base CX0 1 fW fdW ["way"] (spChkWay K)) (kW : PySem.W.keepIn K (.ref fW) = true) (bW : Binds K fdW ["way"] []) (gW : mg "check_way" = some (.ref fW))
    (GC : FnOk P w K mg base CX0 1 fC fdC ["way", "standing"] (spChkSt K)) (kC : PySem.W.keepIn K (.ref fC) = true) (bC : Binds K fdC ["way", "standing"] []) (gC : mg "check_standing" = some (.ref fC))
    (GS : FnOk P w K mg base CX0 3 fS fdS ["way", "standing", "sign"] (spStep K)) (kS : PySem.W.keepIn K (.ref fS) = true) (bS : Binds K fdS ["way", "standing", "sign"] []) (gS : mg "step" = some (.ref fS))
    (mi : mg "isinstance" = none) (ms : mg "str" = none) (mS : mg "SIGNS" = some (.ref aS)) (tS : ∀ H, SqT K H aS [.str "a", .str "n", .str "r"]) :
    FnOk P w K mg base CX0 4 f fd ["way", "standing", "sign"] (spRead K) := by
  refine F.ok scRead (fun vs H Q E h => ?_) (fun cdv A outer s H vs Q E hr h => ?_)
  · obtain ⟨a, b, ws, st, g, rfl, _⟩ := h
    rfl
  · obtain ⟨a, b, ws, st, g, rfl, hS, hT, ok, hl, q⟩ := h
    refine ⟨_, pss_cons (ps_expr (pe_call GW (hr.mono (by decide)) (by rfl) gW kW bW .nil pass0 (pa_cons (pv 0) pa_nil)))
      (pss_cons (ps_expr (pe_call GC (hr.mono (by decide)) (by rfl) gC kC bC .nil pass0 (pa_cons (pv 0) (pa_cons (pv 1) pa_nil))))
      (pss_cons (ps_if (PW.pt (pw_or (pt_not (pt_val (pe_callB call_isi (by rfl) mi (by decide +kernel) (pa_cons (pv 2) (pa_cons (pe_bltn (v := .ty "str") (u := .type "str") (by rfl) ms (by decide +kernel) rfl) pa_nil)))))
        (pw_or1 (pt_cmpR op_notIn_seq (pv 2) (pe_glob (v := .ref aS) (by rfl) mS rfl) rfl)))) (pss_one ps_never) pss_nil)
      (pss_one (ps_ret (pe_call GS hr (by rfl) gS kS bS .nil pass0 (pa_cons (pv 0) (pa_cons (pv 1) (pa_cons (pv 2) pa_nil)))))))), ?_⟩
    refine q_drop (ev_call (vs := [.ref a]) (ea_cons (ev_var rfl) ea_nil) (spv_chkWay hS hl)) fun H1 e1 => ?_
    refine q_drop (ev_call (vs := [.ref a, .ref b]) (ea_cons (ev_var rfl) (ea_cons (ev_var rfl) ea_nil)) (spv_chkSt (ex_t e1 hS) (ex_t e1 hT) ok hl)) fun H2 e2 => ?_
    have z := ev_op (σ := [some (.ref a), some (.ref b), some (.str (sg g))]) (ev_var (i := 2) rfl) (ev_c (v := .ref aS)) (rv_niT (tS H2) (x := .str (sg g)) rfl rfl)
    rw [show inV (.str (sg g)) [.str "a", .str "n", .str "r"] = true from in_signs g] at z
    refine q_if (b := false) (et_or (a := false) (b := false) (et_not (a := true) (et_test (ev_isi (t := "str") (ev_var rfl) ev_c (fun _ _ => .base (.str _)) (by decide +kernel)))) (fun _ => et_test z)) (fun z => nomatch z) (fun _ H3 e3 => ?_)
    have e123 := e1.trans (e2.trans e3)
    have hp : 2 ^ ws.length ≤ 2 ^ 6 := Nat.pow_le_pow_right (by decide) hl
    refine call_raw (vs := [.ref a, .ref b, .str (sg g)]) (ea_cons (ev_var rfl) (ea_cons (ev_var rfl) (ea_cons (ev_var rfl) ea_nil))) fun H4 e4 => ⟨a, b, ws, st, [g], rfl, ex_t (e123.trans e4) hS, ex_t (e123.trans e4) hT, ok.len, ?_, by omega, ?_⟩
    · show 1 * 2 ^ ws.length ≤ 50000
      omega
    · intro p r H5 e5 h1 h2
      exact q p r H5 (e123.trans (e4.trans e5)) h1 h2
def spEnd (K : PySem.W.Frag) : Sp := fun vs H Q _ => ∃ (a b : Addr) (ws : List Cv) (st : List Bool), vs = [.ref a, .ref b] ∧ SqT K H a (wayV ws) ∧ SqT K H b (stV st) ∧ stOk ws st ∧ ws.length ≤ 6 ∧ RetV (.str (txt (endW ws st []))) H Q
theorem ok_end {f fW fC fS aH : Addr} {fd fdW fdC fdS : FuncData} (F : Fun K "at_end" "at_end" sEnd f fd) (GW : FnOk P w K mg base CX0 1 fW fdW ["way"] (spChkWay K)) (kW : PySem.W.keepIn K (.ref fW) = true) (bW : Binds K fdW ["way"] []) (gW : mg "check_way" = some (.ref fW))
    (GC : FnOk P w K mg base CX0 1 fC fdC ["way", "standing"] (spChkSt K)) (kC : PySem.W.keepIn K (.ref fC) = true) (bC : Binds K fdC ["way", "standing"] []) (gC : mg "check_standing" = some (.ref fC))
    (GS : FnOk P w K mg base CX0 2 fS fdS ["word", "flag", "text"] (spAll K)) (kS : PySem.W.keepIn K (.ref fS) = true) (bS : Binds K fdS ["word", "flag", "text"] []) (gS : mg "_read_all" = some (.ref fS)) (mz : mg "zip" = none)
    (mH : mg "_HELD" = some (.ref aH)) (tH : ∀ c : Cv, KIn K w aH c.s (holds c)) (iH : ∀ c : Cv, holds c = true → ∃ t, KDct K w aH c.s (.ref t) ∧ ∀ H, SqT K H t [.str (txt (heldN c)), .str (txt (heldE c))]) :
    FnOk P w K mg base CX0 3 f fd ["way", "standing"] (spEnd K) := by
  refine F.ok scEnd (fun vs H Q E h => ?_) (fun cdv A outer s H vs Q E hr h => ?_)
  · obtain ⟨a, b, ws, st, rfl, _⟩ := h
    rfl
  · obtain ⟨a, b, ws, st, rfl, hS, hT, ok, hl, q⟩ := h
    have nd := scEnd.nd
    refine ⟨_, pss_cons (ps_expr (pe_call GW (hr.mono (by decide)) (by rfl) gW kW bW .nil pass0 (pa_cons (pv 0) pa_nil)))
      (pss_cons (ps_expr (pe_call GC (hr.mono (by decide)) (by rfl) gC kC bC .nil pass0 (pa_cons (pv 0) (pa_cons (pv 1) pa_nil))))
      (pss_cons (ps_set (i := 2) nd rfl (.inl rfl) pe_str)
      (pss_cons (ps_for PassesOwn.never rfl (pi_zipA (by rfl) mz (pa_cons (pv 0) (pa_cons (pv 1) pa_nil))) (pg_tup rfl (pgs_cons (pg_name (i := 3) nd rfl (.inl rfl)) (pgs_cons (pg_name (i := 4) nd rfl (.inl rfl)) pgs_nil)))
        (pss_cons (ps_asg (pe_call GS hr (by rfl) gS kS bS .nil pass0 (pa_cons (pv 3) (pa_cons (pv 4) (pa_cons (pv 2) pa_nil)))) (pg_tup rfl (pgs_cons (pg_name (i := 5) nd rfl (.inl rfl)) (pgs_cons (pg_name (i := 2) nd rfl (.inl rfl)) pgs_nil))))
        (pss_one (ps_if (PW.pt (pw_and (pt_val (pv 5)) (pw_and1 (pt_cmpR op_in_kd (pv 3) (pe_glob (v := .ref aH) (by rfl) mH rfl) rfl))))
          (pss_one (ps_set (i := 2) nd rfl (.inl rfl) (pe_op op_add_str (pv 2) (pe_ix ix_tup (pe_ix ix_kdict (pe_glob (v := .ref aH) (by rfl) mH rfl) (pv 3) (fun _ _ => rfl)) pe_int (fun _ _ => rfl))))) pss_nil))))
      (pss_one (ps_ret (pv 2)))))), ?_⟩
    refine q_drop (ev_call (vs := [.ref a]) (ea_cons (ev_var rfl) ea_nil) (spv_chkWay hS hl)) fun H1 e1 => ?_
    refine q_drop (ev_call (vs := [.ref a, .ref b]) (ea_cons (ev_var rfl) (ea_cons (ev_var rfl) ea_nil)) (spv_chkSt (ex_t e1 hS) (ex_t e1 hT) ok hl)) fun H2 e2 => ?_
    refine q_asg (v := .str (txt [])) ev_c fun H3 e3 => ?_
    have e123 := e1.trans (e2.trans e3)
    refine q_forZ (ea_cons (ev_var rfl) (ea_cons (ev_var rfl) ea_nil)) (ex_t e123 hS) (ex_t e123 hT) (by rw [wayV_len, stV_len, ok.len])
      (fun i σ H' => ∃ t x y z, σ = [some (.ref a), some (.ref b), some (.str (txt t)), x, y, z] ∧ Ex H H' ∧ i ≤ ws.length ∧ t.length + 1 ≤ 2 ^ i ∧ endW ws st [] = endW (ws.drop i) (st.drop i) t)
      (fun H4 e4 => ⟨[], _, _, _, rfl, e123.trans e4, Nat.zero_le _, Nat.le_refl _, rfl⟩) (fun i σ H' ⟨t, x, y, z, _, e4, _⟩ => ⟨ex_t e4 hS, ex_t e4 hT⟩) ?_ ?_
    · rintro i x y σ H4 hx hy ⟨t, x3, y3, z3, rfl, e4, hi, ht, hst⟩ H5 e5
      obtain ⟨c, hc, rfl⟩ := wayV_get hx
      obtain ⟨f, hf, rfl⟩ := stV_get hy
      have hi2 : i < ws.length := (List.getElem?_eq_some_iff.mp hc).1
      have hml := many_len c f t
      have hp : 2 ^ i ≤ 2 ^ 6 := Nat.pow_le_pow_right (by decide) (by omega)
      have hp2 : 2 ^ (i + 1) = 2 * 2 ^ i := by rw [Nat.pow_succ, Nat.mul_comm]
      refine q_pair (eu_call (vs := [.str c.s, .bl f, .str (txt t)]) (ea_cons (ev_var rfl) (ea_cons (ev_var rfl) (ea_cons (ev_var rfl) ea_nil))) fun H6 e6 Q r E => ⟨c, f, t, rfl, by omega, r⟩) fun H6 e6 => ?_
      refine s_ifAsg (b := (many c f t).1 && holds c) (v := .str (txt (runF c f t))) (et_and (et_test (ev_var rfl)) (fun _ => et_test (ev_inK (ev_var rfl) ev_c (tH c)))) (fun hb => ?_) (fun hb => ?_) fun H7 e7 => ?_
      · have hh : holds c = true := by
          rw [Bool.and_eq_true] at hb
          exact hb.2
        obtain ⟨tt, hd, hTT⟩ := iH c hh
        have er : runF c f t = (many c f t).2 ++ heldE c := by
          unfold runF tailE
          rw [hb, if_pos rfl]
        have hE : (heldE c).length ≤ 1 := by cases c <;> decide
        refine ev_op (ev_var rfl) (ev_op (ev_ixK ev_c (ev_var rfl) hd) ev_c (rv_ixT (i := 1) (hTT H6) (atI_nat (j := 1) rfl))) fun H8 e8 Q q => ⟨_, _, rfl, rfl, ?_, ?_⟩
        · rw [txt_len, txt_len]
          exact sz_of (by omega)
        · rw [txt_app, ← er]
          exact q H8 (Ex.refl H8)
      · have er : runF c f t = (many c f t).2 := by
          unfold runF tailE
          rw [hb, if_neg Bool.false_ne_true, List.append_nil]
        rw [er]
        rfl
      · have hrl : (runF c f t).length ≤ 2 * t.length + 1 := by
          unfold runF tailE
          rw [List.length_append]
          have hE : (if ((many c f t).1 && holds c) = true then heldE c else []).length ≤ 1 := by
            split
            · cases c <;> decide
            · exact Nat.zero_le _
          omega
        exact ⟨runF c f t, _, _, _, rfl, e4.trans (e5.trans (e6.trans e7)), hi2, by omega, by rw [hst, end_at t hc hf]⟩
    · rintro σ H4 ⟨t, x3, y3, z3, rfl, e4, hi, ht, hst⟩
      have hd1 : ws.drop (wayV ws).length = [] := by rw [wayV_len]; exact List.drop_length
      rw [hd1] at hst
      have hst2 : endW ws st [] = t := by rw [hst]; simp [endW]
      rw [hst2] at q
      exact s_ret (ev_var rfl) fun H5 e5 => q H5 (e4.trans e5)
end
end Tu
namespace Tu
open PySem PySem.Spec PyProof.Rows L2 Evl RZ PpSet
/-! ### a dict whose keys are tuples of truth values, each with True -/
abbrev tkB (P : Program) (w : World) := tupleKind (boolK P w)
def dbE (xs : List (List Bool × Addr)) : List (List Bool × Addr × Value) := xs.map fun x => (x.1, x.2, .bool true)
def dbF (P : Program) (w : World) (d : Addr) (xs : List (List Bool × Addr)) : Heap → Prop := fun h =>
  ∃ o es ep, h.get? d = some o ∧ o.ExactDict ∧ o.data = .dict es ep ∧ es.toList = (dbE xs).map (entryOfKey (tkB P w))
structure DB (P : Program) (w : World) (K : PySem.W.Frag) (H : Hp) (d : Addr) (xs : List (List Bool × Addr)) : Prop where
  here : H d = some (.ext (dbF P w d xs))
  nd : (xs.map (·.1)).Nodup
  few : xs.length ≤ 1000
  low : (d == sysModules) = false
  keys : ∀ x ∈ xs, SqT K H x.2 (stV x.1)
theorem DB.mono {P : Program} {w : World} {K : PySem.W.Frag} {H H' : Hp} {d : Addr} {xs : List (List Bool × Addr)} (D : DB P w K H d xs) (e : Ex H H') : DB P w K H' d xs := ⟨e _ _ D.here, D.nd, D.few, D.low, fun x hx => ex_t e (D.keys x hx)⟩
theorem dbE_keys (xs : List (List Bool × Addr)) : (dbE xs).map (·.1) = xs.map (·.1) := by
  unfold dbE
  rw [List.map_map]
  rfl
theorem dbF_obj {P : Program} {w : World} {H : Hp} {h : Heap} {d : Addr} {xs : List (List Bool × Addr)} (f : dbF P w d xs h) : ObjOk P w H h d (.ext (dbF P w d xs)) := by
  refine ⟨f, ?_, ?_⟩
  · obtain ⟨o, _, _, e, _⟩ := f
    exact ⟨o, e⟩
  · rintro h1 h2 ⟨o, es, ep, e, r⟩ k
    exact ⟨o, es, ep, k o e, r⟩
section
variable {X : Cx} {pins : List (Addr × Obj)} {σ : L2.St} {H : Hp} {s : Shared}
theorem key_of_st {q : Addr} {k : List Bool} (I : Inv X pins σ H s) (h : SqT X.K H q (stV k)) : (tkB X.prog X.w).is s.heap k q := by
  obtain ⟨its, rv, ⟨o, ho, hc, n, hd⟩, hz⟩ := I.tuple h
  refine ⟨o, _, n, ho, hc, hd, ?_⟩
  show ItemsAre (boolK X.prog X.w) k its
  clear h ho hc hd hz
  unfold stV at rv
  induction k generalizing its with
  | nil =>
    rw [List.map_nil] at rv
    cases rv
    exact .nil
  | cons b k ih =>
    rw [List.map_cons] at rv
    cases rv with
    | cons r t =>
      have e : _ = Value.bool b := r
      subst e
      exact .cons (boolK_is _ _ b) (ih _ t)
theorem DB.dict {d : Addr} {xs : List (List Bool × Addr)} (I : Inv X pins σ H s) (D : DB X.prog X.w X.K H d xs) : s.heap.DictOfH (tkB X.prog X.w) d (dbE xs) := by
  obtain ⟨⟨o, es, ep, ho, hx, hdt, he⟩, _⟩ := (show ObjOk X.prog X.w H s.heap d (.ext (dbF X.prog X.w d xs)) from I.hok d _ D.here)
  refine ⟨o, es, ep, ho, hx, hdt, he, ?_, by rw [dbE_keys]; exact D.nd⟩
  intro x hm
  obtain ⟨y, hy, rfl⟩ := List.mem_map.mp hm
  exact key_of_st I (D.keys y hy)
theorem at_dbE (xs : List (List Bool × Addr)) (k : List Bool) : (atKey (dbE xs) k).isSome = decide (k ∈ xs.map (·.1)) := by
  unfold atKey
  rw [Option.isSome_map, Bool.eq_iff_iff, List.find?_isSome, decide_eq_true_eq]
  constructor
  · rintro ⟨x, hx, hk⟩
    rw [← dbE_keys]
    exact List.mem_map.mpr ⟨x, hx, of_decide_eq_true hk⟩
  · intro h
    rw [← dbE_keys] at h
    obtain ⟨x, hx, hk⟩ := List.mem_map.mp h
    exact ⟨x, hx, decide_eq_true hk⟩
theorem room_in {X : Cx} (hu : X.A.units + 1 < cLine) : (tkB X.prog X.w).room X.A.in1 := hu
def rInB (P : Program) (w : World) (K : PySem.W.Frag) (neg : Bool) : R2 := fun x y H Q => ∃ (d q : Addr) (xs : List (List Bool × Addr)) (k : List Bool), x = .ref q ∧ y = .ref d ∧ DB P w K H d xs ∧ SqT K H q (stV k) ∧ Q (.bl (if neg then !decide (k ∈ xs.map (·.1)) else decide (k ∈ xs.map (·.1)))) H
theorem op_notIn_B (hu : X.A.units + 1 < cLine) : OpR X (compareOp .NotIn) (rInB X.prog X.w X.K true) := by
  rintro pins s σ H x y v u Q I rx ry ⟨d, q, xs, k, rfl, rfl, D, hq, hQ⟩
  cases rx
  cases ry
  refine wpAny_notIn_heap (knd := tkB X.prog X.w) (room_in hu) (key_of_st I hq) D.low (D.dict I) ?_
  rw [at_dbE]
  refine ⟨_, H, I.tok _, ?_, hQ⟩
  rfl
theorem op_in_B (hu : X.A.units + 1 < cLine) : OpR X (compareOp .In) (rInB X.prog X.w X.K false) := by
  rintro pins s σ H x y v u Q I rx ry ⟨d, q, xs, k, rfl, rfl, D, hq, hQ⟩
  cases rx
  cases ry
  refine wpAny_in_heap (knd := tkB X.prog X.w) (room_in hu) (key_of_st I hq) D.low (D.dict I) ?_
  rw [at_dbE]
  refine ⟨_, H, I.tok _, ?_, hQ⟩
  rfl
def rSetB (P : Program) (w : World) (K : PySem.W.Frag) : TSet := fun o i v H Q => ∃ (d q : Addr) (xs : List (List Bool × Addr)) (k : List Bool), o = .ref d ∧ i = .ref q ∧ v = .bl true ∧ DB P w K H d xs ∧ SqT K H q (stV k) ∧ k ∉ xs.map (·.1) ∧
  Q (upd H d (.ext (dbF P w d (xs ++ [(k, q)]))))
theorem set_B (hu : X.A.units + 1 < cLine) : PSet X (rSetB X.prog X.w X.K) := by
  rintro pins s σ H o i v ov iv u Q I ro ri rv ⟨d, q, xs, k, rfl, rfl, rfl, D, hq, hk, hQ⟩
  cases ro
  cases ri
  obtain rfl : u = Value.bool true := rv
  have hn : atKey (dbE xs) k = none := by
    have z := at_dbE xs k
    rw [decide_eq_false hk] at z
    cases e : atKey (dbE xs) k with
    | none => rfl
    | some p => rw [e] at z; cases z
  refine wpAny_setItem_heap (knd := tkB X.prog X.w) (room_in hu) (key_of_st I hq) (D.dict I) ?_ (sz_of (by unfold dbE; rw [List.length_map]; have := D.few; omega))
  intro h' hd hs
  rw [storedH_new hn] at hd
  obtain ⟨o, es, ep, ho, hx, hdt, he, _, _⟩ := hd
  have f : dbF X.prog X.w d (xs ++ [(k, q)]) h' := ⟨o, es, ep, ho, hx, hdt, by rw [he]; simp [dbE]⟩
  refine ⟨_, I.write (x := d) (e := d) (by rw [D.here]; exact True.intro) (.inl rfl) (fun b w n z => (hs.2 b n).trans z) ⟨o, ho⟩ (dbF_obj f), hQ⟩
def rListB (P : Program) (w : World) (K : PySem.W.Frag) : List V → Hp → VK → Prop := fun vs H Q => ∃ (d : Addr) (xs : List (List Bool × Addr)), vs = [.ref d] ∧ DB P w K H d xs ∧ ∀ p, H p = none → Q (.ref p) (upd H p (.lst (xs.map fun x => .ref x.2)))
theorem call_list_B (hc : X.calm = true) : CallR X (.type "list") (rListB X.prog X.w X.K) := by
  rintro pins s σ H vs us Q I r ⟨d, xs, rfl, D, hQ⟩
  obtain ⟨u, rfl, rx⟩ := vals1 r
  cases rx
  obtain ⟨o, es, ep, ho, hx, hdt, he, _, _⟩ := D.dict I
  have sz : es.size = xs.length := by
    rw [size_of_entries he]
    simp [dbE]
  refine PySem.W.kdl_call (L2.kdl_raw D.low hx hdt) (I.ok.hd hc) ho (sz_of (by have := D.few; omega)) ?_
  intro h' tk acc c' kp e it
  have rv : Vals (xs.map fun x => V.ref x.2) acc.toList := by
    refine vals_of_idx _ _ (by rw [Array.length_toList, it.1, List.length_map]; exact sz) ?_
    intro j v hj
    obtain ⟨en, hen, hv⟩ := it.2 j v (by rw [← Array.getElem?_toList]; exact hj)
    have qe := entry_at he j
    rw [hen] at qe
    unfold dbE at qe
    rw [List.getElem?_map] at qe
    cases hb : xs[j]? with
    | none =>
      rw [hb] at qe
      exact nomatch (show some en = none from qe)
    | some b =>
      rw [hb] at qe
      have e2 := Option.some.inj qe
      refine ⟨.ref b.2, by rw [List.getElem?_map, hb]; rfl, ?_⟩
      rw [hv, e2]
      rfl
  refine ⟨.ref s.heap.objs.size, _, I.laid (t' := tk) (o := .lst (xs.map fun x => V.ref x.2)) kp (Nat.le_refl _) ⟨sz_of (by rw [List.length_map]; have := D.few; omega), acc.toList, c', rv, by rw [Array.toArray_toList]; exact e⟩, rfl, hQ _ (I.hok.fresh (Nat.le_refl _))⟩
/-- {} -/
def tNewB (P : Program) (w : World) : TE := fun _ H Q => ∀ p, H p = none → (p == sysModules) = false → Q (.ref p) (upd H p (.ext (dbF P w p [])))
theorem low_new (I : Inv X pins σ H s) : (s.heap.objs.size == sysModules) = false := beq_eq_false_iff_ne.mpr (Ne.symm (Nat.ne_of_lt I.big))
theorem pe_newB {pos : Pos} : PE X (.Dict [] [] pos) (tNewB X.prog X.w) := by
  constructor
  intro pins s σ H Q I h
  refine wpAny_Dict_empty ⟨.ref s.heap.objs.size, _, I.laid (a := s.heap.objs.size) (o := .ext (dbF X.prog X.w s.heap.objs.size [])) (t' := s.toks) (fun _ _ q => Heap.get?_push_of_some _ q) (Nat.le_refl _) (dbF_obj ?_), rfl, h _ (I.hok.fresh (Nat.le_refl _)) (low_new I)⟩
  exact ⟨_, #[], 0, Heap.get?_push_size _ rfl, ⟨rfl, rfl, rfl⟩, rfl, rfl⟩
/-- {k: True} -/
def tDispB (P : Program) (w : World) (K : PySem.W.Frag) (tk : TE) : TE := fun σ H Q => ∀ p, H p = none → (p == sysModules) = false → tk σ (upd H p (.ext (dbF P w p []))) fun x H2 => ∃ (q : Addr) (k : List Bool), [(x, V.bl true)] = [(V.ref q, V.bl true)] ∧ H2 p = some (.ext (dbF P w p [])) ∧ SqT K H2 q (stV k) ∧
  Q (.ref p) (upd H2 p (.ext (dbF P w p [(k, q)])))
theorem pe_dispB {e : Expr} {j : Nat} {cp pos : Pos} {tk : TE} (hu : X.A.units + 1 < cLine) (he : PE X e tk) : PE X (.Dict [some e] [.Constant (.bool true) j cp] pos) (tDispB X.prog X.w X.K tk) := by
  constructor
  intro pins s σ H Q I h
  have hn := I.hok.fresh (Nat.le_refl s.heap.objs.size)
  have I1 := I.laid (a := s.heap.objs.size) (o := .ext (dbF X.prog X.w s.heap.objs.size [])) (h' := s.heap.push { cls := .type "dict", data := .dict #[] }) (t' := s.toks) (fun _ _ q => Heap.get?_push_of_some _ q) (Nat.le_refl _)
    (dbF_obj ⟨_, #[], 0, Heap.get?_push_size _ rfl, ⟨rfl, rfl, rfl⟩, rfl, rfl⟩)
  rw [arm_eval_Dict, zip_pairTrees [some e] [.Constant (.bool true) j cp] X.env pos rfl rfl, dictDisplay_pairs (pairTrees [some e] [.Constant (.bool true) j cp] X.env pos) (by intro z; cases z) (show (1 : Nat) < 17 from by decide)]
  refine wpAny_bind (wpAny_standAt (wpAny_bind (wpAny_subDictH (knd := tkB X.prog X.w) (Q := fun d s' => wpAny (model X.prog X.w) X.A (pure (Value.ref d)) (EP X pins σ Q) X.xe s') (show X.A.units < cLine from by omega) (show (1 : Nat) ≤ 15 from by decide) ?_)))
  have run := (pps_cons (pos := pos) he (pe_bl (b := true) (j := j) (pos := cp)) pps_nil).run pins _ σ _ (fun ps H2 => ∃ q k, ps = [(.ref q, .bl true)] ∧ H2 s.heap.objs.size = some (.ext (dbF X.prog X.w s.heap.objs.size [])) ∧ SqT X.K H2 q (stV k) ∧
    Q (.ref s.heap.objs.size) (upd H2 s.heap.objs.size (.ext (dbF X.prog X.w s.heap.objs.size [(k, q)])))) I1 ?_
  · refine thn run ?_
    rintro vs s2 ⟨ps, H2, I2, rel, q, k, rfl, g, hq, hQ⟩
    cases rel with
    | cons r t =>
      cases t
      obtain ⟨r1, r2⟩ := r
      have D : DB X.prog X.w X.K H2 s.heap.objs.size [] := ⟨g, List.nodup_nil, Nat.zero_le _, low_new I, fun x hx => nomatch hx⟩
      refine ⟨[(k, q, .bool true)], ⟨r1, r2, key_of_st I2 hq, trivial⟩, D.dict I2, ?_⟩
      intro h' tk hd hs
      obtain ⟨o, es, ep, ho, hx, hdt, he, _, _⟩ := hd
      have f : dbF X.prog X.w s.heap.objs.size [(k, q)] h' := ⟨o, es, ep, ho, hx, hdt, he⟩
      refine wpAny_pure ⟨.ref s.heap.objs.size, _, I2.write (x := s.heap.objs.size) (e := s.heap.objs.size) (t' := tk) (by rw [g]; exact True.intro) (.inl rfl) (fun b w n z => (hs.2 b n).trans z) ⟨o, ho⟩ (dbF_obj f), rfl, hQ⟩
  · exact h _ hn (low_new I)
end
end Tu
namespace Tu
open PySem PySem.Spec PyProof.Rows L2 Evl RZ
/-! ### what comes about -/
inductive Reach (ws : List Cv) : List Bool → Prop where
  | first : Reach ws (List.replicate ws.length false)
  | step {st : List Bool} (g : Sg) : Reach ws st → Reach ws (stepW ws st [g]).1
def sigs : List Sg := [.a, .n, .r]
theorem Reach.len {ws : List Cv} {st : List Bool} (h : Reach ws st) : st.length = ws.length := by
  induction h with
  | first => exact List.length_replicate ..
  | step g _ ih => exact step_len ws _ _ ih
theorem many_plain {c : Cv} (h : plain c = true) : ∀ {b : Bool} (l : List Sg), b = false → (many c b l).1 = false
  | b, [], e => e
  | b, s :: l, e => many_plain h l (by rw [one_plain h])
theorem stOk_step : ∀ (ws : List Cv) (st : List Bool) (t : List Sg), stOk ws st → stOk ws (stepW ws st t).1
  | [], [], _, _ => trivial
  | c :: ws, b :: st, t, h => by
    refine ⟨fun e => ?_, stOk_step ws st _ h.2⟩
    cases hp : plain c with
    | false => rfl
    | true =>
      have hb : b = false := by
        cases b with
        | false => rfl
        | true => rw [h.1 rfl] at hp; cases hp
      have e : (many c b t).1 = true := e
      rw [many_plain hp t hb] at e
      cases e
  | [], _ :: _, _, h => h.elim
  | _ :: _, [], _, h => h.elim
theorem stOk_first : ∀ ws : List Cv, stOk ws (List.replicate ws.length false)
  | [] => trivial
  | c :: ws => show ((false = true → plain c = false) ∧ stOk ws (List.replicate ws.length false)) from ⟨(fun e => nomatch e), stOk_first ws⟩
theorem Reach.ok {ws : List Cv} {st : List Bool} (h : Reach ws st) : stOk ws st := by
  induction h with
  | first => exact stOk_first ws
  | step g _ ih => exact stOk_step ws _ _ ih
/-! ### how many there can be -/
theorem len_filter {α : Type} (p : α → Bool) : ∀ l : List α, l.length = (l.filter p).length + (l.filter fun x => !p x).length
  | [] => rfl
  | x :: l => by
    have := len_filter p l
    cases h : p x <;> simp [h] <;> omega
theorem nodup_tails {n : Nat} {b : Bool} {l : List (List Bool)} (hn : l.Nodup) (hl : ∀ k ∈ l, k.length = n + 1) (hb : ∀ k ∈ l, k.headD false = b) : (l.map List.tail).Nodup := by
  unfold List.Nodup at hn ⊢
  rw [List.pairwise_map]
  refine List.Pairwise.imp_of_mem ?_ hn
  intro x y hx hy hxy e
  have h1 := hl x hx
  have h2 := hl y hy
  have h3 := hb x hx
  have h4 := hb y hy
  cases x with
  | nil => cases h1
  | cons u x =>
    cases y with
    | nil => cases h2
    | cons v y =>
      have e1 : u = b := h3
      have e2 : v = b := h4
      have e3 : x = y := e
      exact hxy (by rw [e1, e2, e3])
theorem nodup_bound : ∀ (n : Nat) (l : List (List Bool)), l.Nodup → (∀ k ∈ l, k.length = n) → l.length ≤ 2 ^ n
  | 0, [], _, _ => Nat.zero_le _
  | 0, [x], _, _ => Nat.le_refl _
  | 0, x :: y :: l, hn, hl => by
    have h1 : x = [] := List.length_eq_zero_iff.mp (hl x (List.mem_cons_self ..))
    have h2 : y = [] := List.length_eq_zero_iff.mp (hl y (List.mem_cons_of_mem _ (List.mem_cons_self ..)))
    rw [List.nodup_cons] at hn
    exact absurd (by rw [h1, h2]; exact List.mem_cons_self ..) hn.1
  | n + 1, l, hn, hl => by
    have e := len_filter (fun k : List Bool => k.headD false) l
    have f1 : (l.filter fun k => k.headD false).Nodup := List.Pairwise.filter _ hn
    have f2 : (l.filter fun k => !k.headD false).Nodup := List.Pairwise.filter _ hn
    have t1 := nodup_tails (b := true) f1 (fun k h => hl k (List.mem_filter.mp h).1) (fun k h => (List.mem_filter.mp h).2)
    have t2 := nodup_tails (b := false) f2 (fun k h => hl k (List.mem_filter.mp h).1) (fun k h => by have := (List.mem_filter.mp h).2; simpa using this)
    have b1 := nodup_bound n _ t1 (fun k h => by
      obtain ⟨x, hx, rfl⟩ := List.mem_map.mp h
      have := hl x (List.mem_filter.mp hx).1
      simp [this])
    have b2 := nodup_bound n _ t2 (fun k h => by
      obtain ⟨x, hx, rfl⟩ := List.mem_map.mp h
      have := hl x (List.mem_filter.mp hx).1
      simp [this])
    rw [List.length_map] at b1 b2
    rw [Nat.pow_succ]
    omega
/-- a search: what is found, what waits; ex: whose signs are not all read yet -/
structure Srch (ws : List Cv) (keys wait : List (List Bool)) (ex : List Bool → Prop) : Prop where
  nd : keys.Nodup
  reach : ∀ k ∈ keys, Reach ws k
  first : List.replicate ws.length false ∈ keys
  sub : ∀ k ∈ wait, k ∈ keys
  closed : ∀ k ∈ keys, k ∈ wait ∨ ex k ∨ ∀ g, (stepW ws k [g]).1 ∈ keys
theorem Srch.few {ws : List Cv} {keys wait : List (List Bool)} {ex : List Bool → Prop} (S : Srch ws keys wait ex) (h : ws.length ≤ 6) : keys.length ≤ 64 := by
  have h1 := nodup_bound ws.length keys S.nd fun k hk => (S.reach k hk).len
  have h2 : 2 ^ ws.length ≤ 2 ^ 6 := Nat.pow_le_pow_right (by decide) h
  omega
theorem Srch.done {ws : List Cv} {keys : List (List Bool)} (S : Srch ws keys [] fun _ => False) (k : List Bool) : k ∈ keys ↔ Reach ws k := by
  refine ⟨S.reach k, fun h => ?_⟩
  induction h with
  | first => exact S.first
  | step g _ ih =>
    rcases S.closed _ ih with h | h | h
    · cases h
    · exact h.elim
    · exact h g
theorem Srch.pop {ws : List Cv} {keys wait : List (List Bool)} {k0 : List Bool} (S : Srch ws keys (wait ++ [k0]) fun _ => False) : Srch ws keys wait (fun k => k = k0) ∧ k0 ∈ keys := by
  refine ⟨⟨S.nd, S.reach, S.first, fun k hk => S.sub k (List.mem_append_left _ hk), fun k hk => ?_⟩, S.sub k0 (by simp)⟩
  rcases S.closed k hk with h | h | h
  · rcases List.mem_append.mp h with h | h
    · exact .inl h
    · exact .inr (.inl (List.mem_singleton.mp h))
  · exact h.elim
  · exact .inr (.inr h)
theorem Srch.add {ws : List Cv} {keys wait : List (List Bool)} {ex : List Bool → Prop} {k1 : List Bool} (S : Srch ws keys wait ex) (hn : k1 ∉ keys) (hr : Reach ws k1) : Srch ws (keys ++ [k1]) (wait ++ [k1]) ex := by
  refine ⟨?_, fun k hk => ?_, List.mem_append_left _ S.first, fun k hk => ?_, fun k hk => ?_⟩
  · rw [List.nodup_append]
    refine ⟨S.nd, by simp, fun a ha b hb => ?_⟩
    rw [List.mem_singleton] at hb
    subst hb
    intro e
    subst e
    exact hn ha
  · rcases List.mem_append.mp hk with h | h
    · exact S.reach k h
    · rw [List.mem_singleton.mp h]
      exact hr
  · rcases List.mem_append.mp hk with h | h
    · exact List.mem_append_left _ (S.sub k h)
    · exact List.mem_append_right _ h
  · rcases List.mem_append.mp hk with h | h
    · rcases S.closed k h with h | h | h
      · exact .inl (List.mem_append_left _ h)
      · exact .inr (.inl h)
      · exact .inr (.inr fun g => List.mem_append_left _ (h g))
    · exact .inl (List.mem_append_right _ h)
theorem Srch.shut {ws : List Cv} {keys wait : List (List Bool)} {k0 : List Bool} (S : Srch ws keys wait fun k => k = k0) (h : ∀ g, (stepW ws k0 [g]).1 ∈ keys) : Srch ws keys wait fun _ => False := by
  refine ⟨S.nd, S.reach, S.first, S.sub, fun k hk => ?_⟩
  rcases S.closed k hk with q | q | q
  · exact .inl q
  · subst q
    exact .inr (.inr h)
  · exact .inr (.inr q)
theorem sig_get {i : Nat} {x : V} (h : [V.str "a", .str "n", .str "r"][i]? = some x) : ∃ g, sigs[i]? = some g ∧ x = .str (sg g) := by
  match i, h with
  | 0, h => exact ⟨.a, rfl, (Option.some.inj h).symm⟩
  | 1, h => exact ⟨.n, rfl, (Option.some.inj h).symm⟩
  | 2, h => exact ⟨.r, rfl, (Option.some.inj h).symm⟩
  | _ + 3, h => simp at h
theorem sig_all (g : Sg) : ∃ j, j < 3 ∧ sigs[j]? = some g := by
  cases g
  · exact ⟨0, by decide, rfl⟩
  · exact ⟨1, by decide, rfl⟩
  · exact ⟨2, by decide, rfl⟩
abbrev sAllSt : Stmt := topS 19
theorem scAllSt : FnScope ["way", "first", "found", "waiting", "standing", "sign", "behind", "_"] ["way"] (defScope sAllSt) := ⟨rfl, rfl, rfl, by decide +kernel, rfl, by decide +kernel, by decide +kernel⟩
theorem sqt_upd {K : PySem.W.Frag} {H : Hp} {d q : Addr} {o : HO} {xs : List V} (h : SqT K H q xs) (h1 : ∀ ys, H d ≠ some (.tup ys)) (h2 : ∀ o u, H d ≠ some (.frz o u)) : SqT K (upd H d o) q xs := by
  rcases h with (h | ⟨ob, h⟩) | h
  · refine .inl (.inl ?_)
    rw [upd_ne (fun e => h1 _ (e ▸ h))]
    exact h
  · refine .inl (.inr ⟨ob, ?_⟩)
    rw [upd_ne (fun e => h2 _ _ (e ▸ h))]
    exact h
  · exact .inr h
/-- the found and the waiting ones as they lie -/
structure Lie (P : Program) (w : World) (K : PySem.W.Frag) (H0 H : Hp) (d wt : Addr) (xs wl : List (List Bool × Addr)) : Prop where
  old : Ex H0 H
  dn : H0 d = none
  wn : H0 wt = none
  ne : wt ≠ d
  db : DB P w K H d xs
  wq : H wt = some (.lst (wl.map fun x => .ref x.2))
  ws : ∀ x ∈ wl, SqT K H x.2 (stV x.1)
section
variable {P : Program} {w : World} {K : PySem.W.Frag} {H0 H H' : Hp} {d wt : Addr} {xs wl : List (List Bool × Addr)}
theorem Lie.mono (L : Lie P w K H0 H d wt xs wl) (e : Ex H H') : Lie P w K H0 H' d wt xs wl := ⟨L.old.trans e, L.dn, L.wn, L.ne, L.db.mono e, e _ _ L.wq, fun x hx => ex_t e (L.ws x hx)⟩
theorem Lie.keepW (L : Lie P w K H0 H d wt xs wl) {q : Addr} {ys : List V} {o : HO} (h : SqT K H q ys) : SqT K (upd H wt o) q ys := sqt_upd h (fun _ e => by rw [L.wq] at e; cases e) (fun _ _ e => by rw [L.wq] at e; cases e)
theorem Lie.keepD (L : Lie P w K H0 H d wt xs wl) {q : Addr} {ys : List V} {o : HO} (h : SqT K H q ys) : SqT K (upd H d o) q ys := sqt_upd h (fun _ e => by rw [L.db.here] at e; cases e) (fun _ _ e => by rw [L.db.here] at e; cases e)
theorem Lie.setW (L : Lie P w K H0 H d wt xs wl) {wl' : List (List Bool × Addr)} (h : ∀ x ∈ wl', SqT K H x.2 (stV x.1)) : Lie P w K H0 (upd H wt (.lst (wl'.map fun x => .ref x.2))) d wt xs wl' :=
  ⟨L.old.mut L.wn, L.dn, L.wn, L.ne, ⟨by rw [upd_ne L.ne.symm]; exact L.db.here, L.db.nd, L.db.few, L.db.low, fun x hx => L.keepW (L.db.keys x hx)⟩, upd_same, fun x hx => L.keepW (h x hx)⟩
theorem Lie.put (L : Lie P w K H0 H d wt xs wl) {k : List Bool} {q : Addr} (hk : k ∉ xs.map (·.1)) (hq : SqT K H q (stV k)) (hf : xs.length + 1 ≤ 1000) : Lie P w K H0 (upd H d (.ext (dbF P w d (xs ++ [(k, q)])))) d wt (xs ++ [(k, q)]) wl := by
  refine ⟨L.old.mut L.dn, L.dn, L.wn, L.ne, ⟨upd_same, ?_, by simpa using hf, L.db.low, fun x hx => ?_⟩, by rw [upd_ne L.ne]; exact L.wq, fun x hx => L.keepD (L.ws x hx)⟩
  · rw [List.map_append, List.nodup_append]
    refine ⟨L.db.nd, by simp, fun a ha b hb => ?_⟩
    simp at hb
    subst hb
    intro e
    subst e
    exact hk ha
  · rcases List.mem_append.mp hx with h | h
    · exact L.keepD (L.db.keys x h)
    · rw [List.mem_singleton.mp h]
      exact L.keepD hq
end
section
variable {P : Program} {w : World} {K : PySem.W.Frag} {mg : Str → Option Value} {base : Heap} {H H' : Hp}
def RetS (K : PySem.W.Frag) (ws : List Cv) (H : Hp) (Q : VK) : Prop := ∀ (p : Addr) (H' : Hp) (xs : List (List Bool × Addr)), Ex H H' → H p = none → H' p = some (.lst (xs.map fun x => .ref x.2)) → (xs.map (·.1)).Nodup → xs.length ≤ 64 → (∀ x ∈ xs, SqT K H' x.2 (stV x.1)) → (∀ k, k ∈ xs.map (·.1) ↔ Reach ws k) → Q (.ref p) H'
def spAllSt (K : PySem.W.Frag) : Sp := fun vs H Q _ => ∃ (a : Addr) (ws : List Cv), vs = [.ref a] ∧ SqT K H a (wayV ws) ∧ ws.length ≤ 6 ∧ RetS K ws H Q
theorem ok_allSt {f fF fS aS : Addr} {fd fdF fdS : FuncData} (F : Fun K "all_standings" "all_standings" sAllSt f fd) (GF : FnOk P w K mg base CX0 2 fF fdF ["way"] (spFirst K)) (kF : PySem.W.keepIn K (.ref fF) = true) (bF : Binds K fdF ["way"] []) (gF : mg "first_standing" = some (.ref fF))
    (GS : FnOk P w K mg base CX0 3 fS fdS ["way", "standing", "sign"] (spStep K)) (kS : PySem.W.keepIn K (.ref fS) = true) (bS : Binds K fdS ["way", "standing", "sign"] []) (gS : mg "step" = some (.ref fS)) (ml : mg "list" = none) (mS : mg "SIGNS" = some (.ref aS)) (tS : ∀ H, SqT K H aS [.str "a", .str "n", .str "r"]) :
    FnOk P w K mg base CX0 4 f fd ["way"] (spAllSt K) := by
  refine F.ok scAllSt (fun vs H Q E h => ?_) (fun cdv A outer s H vs Q E hr h => ?_)
  · obtain ⟨a, ws, rfl, _⟩ := h
    rfl
  · obtain ⟨a, ws, rfl, hS, hw, q⟩ := h
    have nd := scAllSt.nd
    have hu := hu_of hr
    refine ⟨_, pss_cons (ps_set (i := 1) nd rfl (.inl rfl) (pe_call GF (hr.mono (by decide)) (by rfl) gF kF bF .nil pass0 (pa_cons (pv 0) pa_nil)))
      (pss_cons (ps_set (i := 2) nd rfl (.inl rfl) (pe_dispB hu (pv 1)))
      (pss_cons (ps_set (i := 3) nd rfl (.inl rfl) (pe_lst (pa_cons (pv 1) pa_nil)))
      (pss_cons (ps_while PassesOwn.never (pt_truth (pv 3) (by intro _; rfl))
        (pss_cons (ps_set (i := 4) nd rfl (.inl rfl) (pe_bm0 PySem.F.plainAttrs_list PySem.F.slot_list_pop PySem.F.type_list_pop mt_pop (pv 3)))
        (pss_one (ps_for PassesOwn.never rfl (pi_tup (pe_glob (v := .ref aS) (by rfl) mS rfl)) (pg_name (i := 5) nd rfl (.inl rfl))
          (pss_cons (ps_asg (pe_call GS hr (by rfl) gS kS bS .nil pass0 (pa_cons (pv 0) (pa_cons (pv 4) (pa_cons (pv 5) pa_nil)))) (pg_tup rfl (pgs_cons (pg_name (i := 6) nd rfl (.inl rfl)) (pgs_cons (pg_name (i := 7) nd rfl (.inl rfl)) pgs_nil))))
          (pss_one (ps_if (pt_cmpR (op_notIn_B hu) (pv 6) (pv 2) rfl)
            (pss_cons (ps_asg pe_bl (pg_sub (pv 2) (pv 6) (set_B hu)))
            (pss_one (ps_expr (pe_bm PySem.F.plainAttrs_list PySem.F.slot_list_append PySem.F.type_list_append mt_append (pv 3) (pa_cons (pv 6) pa_nil))))) pss_nil)))))))
      (pss_one (ps_ret (pe_callTy (call_list_B rfl) (by rfl) ml (by decide +kernel) (pa_cons (pv 2) pa_nil))))))), ?_⟩
    have hp6 : 2 ^ ws.length ≤ 2 ^ 6 := Nat.pow_le_pow_right (by decide) hw
    refine call_raw (vs := [.ref a]) (ea_cons (ev_var rfl) ea_nil) fun H1 e1 => ⟨a, ws, rfl, ex_t e1 hS, hw, fun f1 H2 e2 hF => ?_⟩
    have e12 := e1.trans e2
    -- found
    intro d hd low
    refine ⟨_, rfl, f1, List.replicate ws.length false, rfl, upd_same, ex_t (Ex.new hd) hF, ?_⟩
    dsimp only [gName]
    have eD : Ex H (upd (upd H2 d (.ext (dbF P w d []))) d (.ext (dbF P w d [(List.replicate ws.length false, f1)]))) := (e12.trans (Ex.new hd)).mut (fresh_back e12 hd)
    have hF2 : SqT K (upd (upd H2 d (.ext (dbF P w d []))) d (.ext (dbF P w d [(List.replicate ws.length false, f1)]))) f1 (stV (List.replicate ws.length false)) := ex_t ((Ex.new hd).mut hd) hF
    -- waiting
    refine q_asgL (xs := [.ref f1]) (el_lst (ea_cons (ev_var rfl) ea_nil) (by simp)) fun wt H3 hwt e3 h3 => ?_
    have L0 : Lie P w K H H3 d wt [(List.replicate ws.length false, f1)] [(List.replicate ws.length false, f1)] := by
      refine ⟨eD.trans e3, fresh_back e12 hd, fresh_back eD hwt, (ne_of_none upd_same hwt).symm, ⟨e3 _ _ upd_same, by simp, by simp, low, fun x hx => ?_⟩, h3, fun x hx => ?_⟩
      · rw [List.mem_singleton.mp hx]
        exact ex_t e3 hF2
      · rw [List.mem_singleton.mp hx]
        exact ex_t e3 hF2
    refine q_while (fun m σ H' => ∃ xs wl x4 x5 x6 x7, σ = [some (.ref a), some (.ref f1), some (.ref d), some (.ref wt), x4, x5, x6, x7] ∧ Lie P w K H H' d wt xs wl ∧ Srch ws (xs.map (·.1)) (wl.map (·.1)) (fun _ => False) ∧ 2 * (64 - xs.length) + wl.length ≤ m ∧ m ≤ 127) 127
      ⟨_, _, _, _, _, _, rfl, L0, ⟨by simp, fun k hk => ?_, by simp, fun k hk => hk, fun k hk => .inl hk⟩, by simp, Nat.le_refl _⟩ ?_
    · rw [List.mem_singleton.mp hk]
      exact .first
    rintro m σ H4 ⟨xs, wl, x4, x5, x6, x7, rfl, L, S, hm, hm127⟩
    refine ⟨!wl.isEmpty, fun H5 e5 Q5 q5 => ⟨_, rfl, !wl.isEmpty, .inl ⟨_, sq_of (e5 _ _ L.wq), by cases wl <;> rfl⟩, q5 H5 (Ex.refl _)⟩, fun hb H5 e5 => ?_, fun hb H5 e5 => ?_⟩
    · obtain ⟨wl', x0, rfl⟩ : ∃ wl' x0, wl = wl' ++ [x0] := by
        rcases List.eq_nil_or_concat wl with h | ⟨l, b, h⟩
        · subst h
          cases hb
        · exact ⟨l, b, by rw [h]; simp⟩
      have L5 := L.mono e5
      rw [List.map_append] at S
      obtain ⟨S5, hk0⟩ := Srch.pop S
      have r0 : Reach ws x0.1 := S5.reach _ hk0
      have L6 := L5.setW (wl' := wl') (fun x hx => L5.ws x (List.mem_append_left _ hx))
      have hq0 : SqT K (upd H5 wt (.lst (wl'.map fun x => .ref x.2))) x0.2 (stV x0.1) := L5.keepW (L5.ws x0 (by simp))
      have hdl : ((wl' ++ [x0]).map fun x => V.ref x.2).dropLast = wl'.map fun x => V.ref x.2 := by simp
      refine ⟨fun σ2 H2 => ∃ xs wl x4 x5 x6 x7, σ2 = [some (.ref a), some (.ref f1), some (.ref d), some (.ref wt), x4, x5, x6, x7] ∧ Lie P w K H H2 d wt xs wl ∧ Srch ws (xs.map (·.1)) (wl.map (·.1)) (fun _ => False) ∧ 2 * (64 - xs.length) + wl.length + 1 ≤ m, ?_, ?_⟩
      · rintro σ2 H2' ⟨xs2, wl2, y4, y5, y6, y7, rfl, L2', S2, hm2⟩
        exact ⟨m - 1, by omega, xs2, wl2, y4, y5, y6, y7, rfl, L2', S2, by omega, by omega⟩
      refine ⟨.ref wt, rfl, .inl ⟨rfl, _, sq_of L5.wq⟩, wt, _, .ref x0.2, rfl, rfl, L5.wq, by simp, ?_⟩
      rw [hdl]
      dsimp only [gName]
      rw [List.length_append, List.length_singleton] at hm
      refine s_forT (ev_c (v := .ref aS)) (tS _) (fun i σ H' => ∃ xs wl x5 x6 x7, σ = [some (.ref a), some (.ref f1), some (.ref d), some (.ref wt), some (.ref x0.2), x5, x6, x7] ∧ Lie P w K H H' d wt xs wl ∧ Srch ws (xs.map (·.1)) (wl.map (·.1)) (fun k => k = x0.1) ∧ x0.1 ∈ xs.map (·.1) ∧ SqT K H' x0.2 (stV x0.1) ∧
          (∀ (j : Nat) (g : Sg), j < i → sigs[j]? = some g → (stepW ws x0.1 [g]).1 ∈ xs.map (·.1)) ∧ 2 * (64 - xs.length) + wl.length + 1 ≤ m)
        (fun H6 e6 => ⟨xs, wl', _, _, _, rfl, L6.mono e6, S5, hk0, ex_t e6 hq0, fun j g hj => absurd hj (Nat.not_lt_zero j), by omega⟩) (fun _ _ _ _ _ => tS _) ?_ ?_
      · rintro i x σ H7 hx ⟨xs, wl, x5, x6, x7, rfl, L7, S7, hk, hq, hdone, hm7⟩
        obtain ⟨g, hg, rfl⟩ := sig_get hx
        refine call_raw (vs := [.ref a, .ref x0.2, .str (sg g)]) (ea_cons (ev_var rfl) (ea_cons (ev_var rfl) (ea_cons (ev_var rfl) ea_nil))) fun H8 e8 => ⟨a, x0.2, ws, x0.1, [g], rfl, ex_t (L7.old.trans e8) hS, ex_t e8 hq, r0.len, ?_, by omega, ?_⟩
        · show 1 * 2 ^ ws.length ≤ 50000
          omega
        intro p r H9 e9 g1 g2
        refine ⟨p, [.ref r, .str (txt (stepW ws x0.1 [g]).2)], rfl, st_of g2, rfl, _, _, rfl, _, _, rfl, rfl, ?_⟩
        have e79 := e8.trans e9
        have L9 := L7.mono e79
        have hr9 : SqT K H9 r (stV (stepW ws x0.1 [g]).1) := st_of g1
        have rk := r0.step g
        generalize (stepW ws x0.1 [g]).2 = o1 at g2
        have hdo : ∀ (ks : List (List Bool)), (∀ k ∈ xs.map (·.1), k ∈ ks) → (stepW ws x0.1 [g]).1 ∈ ks → ∀ (j : Nat) (g' : Sg), j < i + 1 → sigs[j]? = some g' → (stepW ws x0.1 [g']).1 ∈ ks := by
          intro ks h1 h2 j g' hj hg'
          by_cases hji : j < i
          · exact h1 _ (hdone j g' hji hg')
          · have e : j = i := by omega
            subst e
            rw [hg] at hg'
            cases hg'
            exact h2
        generalize (stepW ws x0.1 [g]).1 = k1 at g1 hr9 rk hdo
        refine s_when (b := !decide (k1 ∈ xs.map (·.1))) (et_test (ev_op (ev_var rfl) (ev_var rfl) fun H10 e10 Q10 q10 => ⟨d, r, xs, k1, rfl, rfl, L9.db.mono e10, ex_t e10 hr9, q10 H10 (Ex.refl _)⟩)) (fun hb H10 e10 => ?_) (fun hb H10 e10 => ?_)
        · have hn : k1 ∉ xs.map (·.1) := by simpa using hb
          have L10 := L9.mono e10
          have hr10 := ex_t e10 hr9
          have S8 := S7.add hn rk
          have few := S8.few hw
          rw [List.length_append, List.length_map, List.length_singleton] at few
          refine ⟨.ref d, rfl, .ref r, rfl, d, r, xs, k1, rfl, rfl, rfl, L10.db, hr10, hn, ?_⟩
          have L11 := L10.put hn hr10 (by omega)
          refine s_app L11.wq (ev_var rfl) (ev_var rfl) (by rw [List.length_map]; omega) fun H12 e12 => ?_
          have L12 := L11.mono e12
          have L13 := L12.setW (wl' := wl ++ [(k1, r)]) (fun x hx => by
            rcases List.mem_append.mp hx with h | h
            · exact L12.ws x h
            · rw [List.mem_singleton.mp h]
              exact ex_t e12 (L10.keepD hr10))
          rw [List.map_append] at L13
          refine ⟨xs ++ [(k1, r)], wl ++ [(k1, r)], _, _, _, rfl, L13, by rw [List.map_append, List.map_append]; exact S8, by rw [List.map_append]; exact List.mem_append_left _ hk, L12.keepW (ex_t e12 (L10.keepD (ex_t (e79.trans e10) hq))), ?_, ?_⟩
          · rw [List.map_append]
            exact hdo _ (fun k h => List.mem_append_left _ h) (List.mem_append_right _ (by simp))
          · simp only [List.length_append, List.length_singleton]
            omega
        · have hn : k1 ∈ xs.map (·.1) := by simpa using hb
          exact ⟨xs, wl, _, _, _, rfl, L9.mono e10, S7, hk, ex_t (e79.trans e10) hq, hdo _ (fun k h => h) hn, hm7⟩
      · rintro σ H7 ⟨xs, wl, x5, x6, x7, rfl, L7, S7, hk, hq, hdone, hm7⟩
        exact ⟨xs, wl, _, _, _, _, rfl, L7, S7.shut (fun g => by
          obtain ⟨j, hj, hg⟩ := sig_all g
          exact hdone j g hj hg), hm7⟩
    · have hwl : wl = [] := by
        cases wl with
        | nil => rfl
        | cons _ _ => cases hb
      subst hwl
      have L5 := L.mono e5
      have few := S.few hw
      rw [List.length_map] at few
      refine ⟨_, rfl, d, xs, rfl, L5.db, fun p hp => ?_⟩
      exact q p _ xs (L5.old.trans (Ex.new hp)) (fresh_back L5.old hp) upd_same L5.db.nd few (fun x hx => ex_t (Ex.new hp) (L5.db.keys x hx)) (Srch.done S)
end
end Tu
namespace Tu
open PySem PySem.Spec PyProof.Rows L2 Evl RZ
abbrev sLSign : Stmt := topS 30
abbrev sLRead : Stmt := topS 31
abbrev sLEnd : Stmt := topS 32
abbrev sLFirst : Stmt := topS 33
theorem scLSign : FnScope ["word", "is_held", "sign", "lone"] ["word", "is_held", "sign"] (defScope sLSign) := ⟨rfl, rfl, rfl, by decide +kernel, rfl, by decide +kernel, by decide +kernel⟩
theorem scLRead : FnScope ["way", "standing", "text", "late", "word", "is_held", "found", "sign", "some"] ["way", "standing", "text"] (defScope sLRead) := ⟨rfl, rfl, rfl, by decide +kernel, rfl, by decide +kernel, by decide +kernel⟩
theorem scLEnd : FnScope ["way", "standing", "text", "word", "is_held", "found", "sign", "some"] ["way", "standing"] (defScope sLEnd) := ⟨rfl, rfl, rfl, by decide +kernel, rfl, by decide +kernel, by decide +kernel⟩
theorem scLFirst : FnScope ["way"] ["way"] (defScope sLFirst) := ⟨rfl, rfl, rfl, by decide +kernel, rfl, by decide +kernel, by decide +kernel⟩
theorem dec_cv (c : Cv) (d : Cv) : decide (V.str c.s = V.str d.s) = decide (c = d) := by cases c <;> cases d <;> decide +kernel
theorem ev_cv {σ : L2.St} {H : Hp} {c : Cv} {i : Nat} (d : Cv) (hs : σ[i]? = some (some (.str c.s))) : Ev (tOp rEq (tVar i) (tC (.str d.s))) σ H (.bl (decide (c = d))) := by
  have z := ev_op (σ := σ) (H := H) (ev_var hs) (ev_c (v := .str d.s)) (rv_eq rfl)
  rw [dec_cv] at z
  exact z
theorem in_plain (c : Cv) : inV (.str c.s) [.str "all", .str "lone"] = plain c := by cases c <;> decide +kernel
theorem one_r {c : Cv} {b : Bool} {g : Sg} (h : plain c = false) (h2 : c ≠ .care) (hg : g = .r) : one c b g = (true, if b then heldE c else []) := by
  subst hg
  cases c <;> cases b <;> first | rfl | exact absurd rfl h2 | cases h
theorem one_n {c : Cv} {b : Bool} {g : Sg} (h : plain c = false) (h2 : c ≠ .care) (hg : (b && decide (g = .n)) = true) : one c b g = (false, if c = .lones then [.r, .n] else [.n]) := by
  revert h h2 hg
  cases c <;> cases b <;> cases g <;> decide
theorem one_o {c : Cv} {b : Bool} {g : Sg} (h : plain c = false) (h2 : c ≠ .care) (hr : g ≠ .r) (hg : (b && decide (g = .n)) = false) : one c b g = (false, if b then heldE c ++ [g] else [g]) := by
  revert h h2 hr hg
  cases c <;> cases b <;> cases g <;> decide
def rAddS : R2 := fun x y H Q => ∃ i j, x = .str i ∧ y = .str j ∧ i.length + j.length ≤ sizeLine ∧ Q (.str (i ++ j)) H
section
variable {K : PySem.W.Frag} {w : World} {H H' : Hp} {σ : L2.St} {t : TT} {te tl ta tb : TE} {D : Ends} {tz tu : TS}
theorem ev_adds {x y : List Sg} (ha : Ev ta σ H (.str (txt x))) (hb : Ev tb σ H (.str (txt y))) (hl : x.length + y.length ≤ 100000) : Ev (tOp rAddS ta tb) σ H (.str (txt (x ++ y))) :=
  ev_op ha hb fun H1 _ Q q => ⟨_, _, rfl, rfl, by rw [txt_len, txt_len]; exact sz_of hl, by rw [txt_app]; exact q H1 (Ex.refl H1)⟩
end
section
variable {P : Program} {w : World} {K : PySem.W.Frag} {mg : Str → Option Value} {base : Heap} {H H' : Hp}
theorem ok_lsign {f : Addr} {fd : FuncData} {k : Nat} (F : Fun K "_law_sign" "_law_sign" sLSign f fd) : FnOk P w K mg base CX0 (k + 1) f fd ["word", "is_held", "sign"] (spOne K) := by
  refine F.ok scLSign (fun vs H Q E h => ?_) (fun cdv A outer s H vs Q E hr h => ?_)
  · obtain ⟨c, b, g, rfl, _⟩ := h
    rfl
  · obtain ⟨c, b, g, rfl, q⟩ := h
    have nd := scLSign.nd
    refine ⟨_, pss_cons (ps_if (pt_cmpR op_in_seq (pv 0) (pe_tup (pa_cons pe_str (pa_cons pe_str pa_nil))) rfl) (pss_one (ps_ret (pe_tup (pa_cons pe_bl (pa_cons (pe_ifExp (pt_cmpR op_ne (pv 2) pe_str (nomark _)) (pv 2) (pe_ifExp (pt_cmpR op_eq (pv 0) pe_str (nomark _)) pe_str pe_str)) pa_nil))))) pss_nil)
      (pss_cons (ps_if (pt_cmpR op_eq (pv 0) pe_str (nomark _)) (pss_one (ps_ret (pe_tup (pa_cons (pe_cmpR op_eq (pv 2) pe_str (nomark _)) (pa_cons (pe_ifExp (PW.pt (pw_and (pt_cmpR op_eq (pv 2) pe_str (nomark _)) (pw_and1 (pt_not (pt_val (pv 1)))))) pe_str (pv 2)) pa_nil))))) pss_nil)
      (pss_cons (ps_set (i := 3) nd rfl (.inl rfl) (pe_ifExp (pt_cmpR op_eq (pv 0) pe_str (nomark _)) pe_str pe_str))
      (pss_cons (ps_if (pt_cmpR op_eq (pv 2) pe_str (nomark _)) (pss_one (ps_ret (pe_tup (pa_cons pe_bl (pa_cons (pe_ifExp (pt_val (pv 1)) (pv 3) pe_str) pa_nil))))) pss_nil)
      (pss_cons (ps_if (PW.pt (pw_and (pt_val (pv 1)) (pw_and1 (pt_cmpR op_eq (pv 2) pe_str (nomark _))))) (pss_one (ps_ret (pe_tup (pa_cons pe_bl (pa_cons (pe_ifExp (pt_cmpR op_eq (pv 0) pe_str (nomark _)) pe_str pe_str) pa_nil))))) pss_nil)
      (pss_one (ps_ret (pe_tup (pa_cons pe_bl (pa_cons (pe_ifExp (pt_val (pv 1)) (pe_op op_add_str (pv 3) (pv 2)) (pv 2)) pa_nil))))))))), ?_⟩
    have z1 := ev_inU (K := K) (σ := L2.start ["word", "is_held", "sign", "lone"] [.str c.s, .bl b, .str (sg g)]) (H := H) (ev_var (i := 0) (v := .str c.s) rfl) (eu_tup (vs := [.str "all", .str "lone"]) (ea_cons ev_c (ea_cons ev_c ea_nil)) (by simp)) rfl rfl
    rw [in_plain] at z1
    refine q_when (et_test z1) (fun hp H1 e1 => ?_) (fun hp H1 e1 => ?_)
    · rw [one_plain hp] at q
      have zn := ev_op (σ := L2.start ["word", "is_held", "sign", "lone"] [.str c.s, .bl b, .str (sg g)]) (H := H1) (ev_var (i := 2) rfl) (ev_c (v := .str "n")) (rv_ne rfl)
      rw [dec_n] at zn
      refine s_retU (eu_tup (vs := [.bl false, .str (txt (if g = .n then plainN c else [g]))]) (ea_cons ev_c (ea_cons (ev_if (et_test zn) (fun hb => ?_) (fun hb => ?_)) ea_nil)) (by simp)) fun p H2 hp e2 h2 => q.go e1 hp e2 h2
      · rw [if_neg (by simpa using hb)]
        exact ev_var rfl
      · rw [if_pos (by simpa using hb)]
        refine ev_if (et_test (ev_cv .all rfl)) (fun hb2 => ?_) (fun hb2 => ?_)
        · rw [of_decide_eq_true hb2]
          exact ev_c
        · have : plainN c = [.r] := by
            revert hp hb2
            cases c <;> decide
          rw [this]
          exact ev_c
    · refine q_when (et_test (ev_cv .care rfl)) (fun hc H2 e2 => ?_) (fun hc H2 e2 => ?_)
      · have hc := of_decide_eq_true hc
        subst hc
        refine s_retU (eu_tup (vs := [.bl (decide (g = .r)), .str (txt (if g = .n && !b then [.r, .n] else [g]))]) (ea_cons (evr rfl) (ea_cons (ev_if (b := decide (g = .n) && !b) (et_and (et_test (evn rfl)) (fun _ => et_not (et_test (ev_var rfl)))) (fun hb => ?_) (fun hb => ?_)) ea_nil)) (by simp)) fun p H3 hp e3 h3 => q.go (e1.trans e2) hp e3 h3
        · rw [if_pos (by simpa using hb)]
          exact ev_c
        · rw [if_neg (by rw [hb]; exact Bool.false_ne_true)]
          exact ev_var rfl
      · have hc := of_decide_eq_false hc
        refine q_asg (v := .str (txt (heldE c))) (ev_if (et_test (ev_cv .pairs rfl)) (fun hb => ?_) (fun hb => ?_)) fun H3 e3 => ?_
        · rw [of_decide_eq_true hb]
          exact ev_c
        · have : heldE c = [.n] := by
            revert hp hc hb
            cases c <;> decide
          rw [this]
          exact ev_c
        · have e13 := e1.trans (e2.trans e3)
          refine q_when (et_test (evr rfl)) (fun hg H4 e4 => ?_) (fun hg H4 e4 => ?_)
          · rw [one_r hp hc (of_decide_eq_true hg)] at q
            refine s_retU (eu_tup (vs := [.bl true, .str (txt (if b then heldE c else []))]) (ea_cons ev_c (ea_cons (ev_if (et_test (ev_var rfl)) (fun hb => ?_) (fun hb => ?_)) ea_nil)) (by simp)) fun p H5 hp e5 h5 => q.go (e13.trans e4) hp e5 h5
            · rw [hb]
              exact ev_var rfl
            · rw [hb]
              exact ev_c
          · refine q_when (et_and (et_test (ev_var rfl)) (fun _ => et_test (evn rfl))) (fun hn H5 e5 => ?_) (fun hn H5 e5 => ?_)
            · rw [one_n hp hc hn] at q
              refine s_retU (eu_tup (vs := [.bl false, .str (txt (if c = .lones then [.r, .n] else [.n]))]) (ea_cons ev_c (ea_cons (ev_if (et_test (ev_cv .lones rfl)) (fun hb => ?_) (fun hb => ?_)) ea_nil)) (by simp)) fun p H6 hp e6 h6 => q.go (e13.trans (e4.trans e5)) hp e6 h6
              · rw [if_pos (of_decide_eq_true hb)]
                exact ev_c
              · rw [if_neg (of_decide_eq_false hb)]
                exact ev_c
            · rw [one_o hp hc (of_decide_eq_false hg) hn] at q
              refine s_retU (eu_tup (vs := [.bl false, .str (txt (if b then heldE c ++ [g] else [g]))]) (ea_cons ev_c (ea_cons (ev_if (et_test (ev_var rfl)) (fun hb => ?_) (fun hb => ?_)) ea_nil)) (by simp)) fun p H6 hp e6 h6 => q.go (e13.trans (e4.trans e5)) hp e6 h6
              · rw [hb, if_pos rfl]
                exact ev_adds (ev_var rfl) (ev_var rfl) (by cases c <;> simp [heldE])
              · rw [hb]
                exact ev_var rfl
theorem ok_lfirst {f : Addr} {fd : FuncData} {k : Nat} (F : Fun K "_law_first" "_law_first" sLFirst f fd) (ml : mg "len" = none) : FnOk P w K mg base CX0 (k + 1) f fd ["way"] (spFirst K) := by
  refine F.ok scLFirst (fun vs H Q E h => ?_) (fun cdv A outer s H vs Q E hr h => ?_)
  · obtain ⟨a, ws, rfl, _⟩ := h
    rfl
  · obtain ⟨a, ws, rfl, hS, hl, q⟩ := h
    refine ⟨_, pss_one (ps_ret (pe_op op_falses (pe_tup (pa_cons pe_bl pa_nil)) (pe_callB call_len_seq (by rfl) ml PySem.boot_len (pa_cons (pv 0) pa_nil)))), ?_⟩
    refine ⟨sz_of (n := 1) (by decide), fun t ht => ?_⟩
    refine (ev_cb (σ := [some (.ref a)]) (ea_cons (ev_var rfl) ea_nil) (rc_len (K := K) (.inr (ex_t (Ex.new ht) hS)))) _ (Ex.refl _) _ fun H2 e2 => ?_
    refine ⟨t, ws.length, rfl, by rw [wayV_len], ex_t e2 (st_of upd_same), by omega, fun p H3 e3 hp => ?_⟩
    refine q p H3 ((Ex.new ht).trans (e2.trans e3)) ?_
    unfold stV
    rw [List.map_replicate]
    exact hp
/-- one conversion's loop within: what is given out so far -/
theorem many_out_len (c : Cv) (b : Bool) (l : List Sg) (i : Nat) : (many c b (l.take i)).2.length ≤ 2 * l.length := by
  have h := many_len c b (l.take i)
  have : (l.take i).length ≤ l.length := by rw [List.length_take]; omega
  omega
theorem ok_lread {f fO : Addr} {fd fdO : FuncData} {k : Nat} (F : Fun K "_law_read" "_law_read" sLRead f fd) (GO : FnOk P w K mg base CX0 k fO fdO ["word", "is_held", "sign"] (spOne K)) (kO : PySem.W.keepIn K (.ref fO) = true) (bO : Binds K fdO ["word", "is_held", "sign"] []) (gO : mg "_law_sign" = some (.ref fO)) (mz : mg "zip" = none) (mt : mg "tuple" = none) :
    FnOk P w K mg base CX0 (k + 1) f fd ["way", "standing", "text"] (spStep K) := by
  refine F.ok scLRead (fun vs H Q E h => ?_) (fun cdv A outer s H vs Q E hr h => ?_)
  · obtain ⟨a, b, ws, st, l, rfl, _⟩ := h
    rfl
  · obtain ⟨a, b, ws, st, l, rfl, hS, hT, hlen, hl, hw, q⟩ := h
    have nd := scLRead.nd
    refine ⟨_, pss_cons (ps_set (i := 3) nd rfl (.inl rfl) (pe_lst pa_nil))
      (pss_cons (ps_for PassesOwn.never rfl (pi_zipA (by rfl) mz (pa_cons (pv 0) (pa_cons (pv 1) pa_nil))) (pg_tup rfl (pgs_cons (pg_name (i := 4) nd rfl (.inl rfl)) (pgs_cons (pg_name (i := 5) nd rfl (.inl rfl)) pgs_nil)))
        (pss_cons (ps_set (i := 6) nd rfl (.inl rfl) pe_str)
        (pss_cons (ps_for PassesOwn.never rfl (pi_str (pv 2)) (pg_name (i := 7) nd rfl (.inl rfl))
          (pss_cons (ps_asg (pe_call GO hr (by rfl) gO kO bO .nil pass0 (pa_cons (pv 4) (pa_cons (pv 5) (pa_cons (pv 7) pa_nil)))) (pg_tup rfl (pgs_cons (pg_name (i := 5) nd rfl (.inl rfl)) (pgs_cons (pg_name (i := 8) nd rfl (.inl rfl)) pgs_nil))))
          (pss_one (ps_set (i := 6) nd rfl (.inl rfl) (pe_op op_add_str (pv 6) (pv 8))))))
        (pss_cons (ps_expr (pe_bm PySem.F.plainAttrs_list PySem.F.slot_list_append PySem.F.type_list_append mt_append (pv 3) (pa_cons (pv 5) pa_nil)))
        (pss_one (ps_set (i := 2) nd rfl (.inl rfl) (pv 6)))))))
      (pss_one (ps_ret (pe_tup (pa_cons (pe_callTy call_tuple_of (by rfl) mt (by decide +kernel) (pa_cons (pv 3) pa_nil)) (pa_cons (pv 2) pa_nil)))))), ?_⟩
    refine q_asgL (el_lst ea_nil (by simp)) fun p H1 hp e1 h1 => ?_
    refine q_forZ (ea_cons (ev_var rfl) (ea_cons (ev_var rfl) ea_nil)) (ex_t e1 hS) (ex_t e1 hT) (by rw [wayV_len, stV_len, hlen])
      (fun i σ H' => ∃ bs t x4 x5 x6 x7 x8, σ = [some (.ref a), some (.ref b), some (.str (txt t)), some (.ref p), x4, x5, x6, x7, x8] ∧ Ex H H' ∧ H' p = some (.lst (stV bs)) ∧ bs.length = i ∧ i ≤ ws.length ∧ t.length * 2 ^ (ws.length - i) ≤ 50000 ∧
        stepW ws st l = (bs ++ (stepW (ws.drop i) (st.drop i) t).1, (stepW (ws.drop i) (st.drop i) t).2))
      (fun H3 e3 => ⟨[], l, _, _, _, _, _, rfl, e1.trans e3, e3 _ _ h1, rfl, Nat.zero_le _, hl, rfl⟩) (fun i σ H' ⟨bs, t, x4, x5, x6, x7, x8, _, e3, _⟩ => ⟨ex_t e3 hS, ex_t e3 hT⟩) ?_ ?_
    · rintro i x y σ H3 hx hy ⟨bs, t, x4, x5, x6, x7, x8, rfl, e3, h3, hb, hi, ht, hst⟩ H4 e4
      obtain ⟨c, hc, rfl⟩ := wayV_get hx
      obtain ⟨f, hf, rfl⟩ := stV_get hy
      have hi2 : i < ws.length := (List.getElem?_eq_some_iff.mp hc).1
      have hml := many_len c f t
      have hpow : 2 ^ (ws.length - i) = 2 * 2 ^ (ws.length - (i + 1)) := by
        rw [show ws.length - i = (ws.length - (i + 1)) + 1 by omega, Nat.pow_succ, Nat.mul_comm]
      have htl : t.length ≤ 50000 := Nat.le_trans (Nat.le_mul_of_pos_right _ (Nat.two_pow_pos _)) ht
      have htl2 : 2 * t.length ≤ 50000 := by
        rw [hpow] at ht
        have : t.length * 2 ≤ t.length * (2 * 2 ^ (ws.length - (i + 1))) := Nat.mul_le_mul_left _ (Nat.le_mul_of_pos_right _ (Nat.two_pow_pos _))
        omega
      refine q_asg (v := .str (txt [])) ev_c fun H5 e5 => ?_
      refine q_forS (ev_var rfl) (fun j σ H' => ∃ x7 x8, σ = [some (.ref a), some (.ref b), some (.str (txt t)), some (.ref p), some (.str c.s), some (.bl (many c f (t.take j)).1), some (.str (txt (many c f (t.take j)).2)), x7, x8] ∧ Ex H4 H')
        (fun H6 e6 => ⟨_, _, rfl, e5.trans e6⟩) ?_ ?_
      · rintro j cc σ H6 hcc ⟨x7, x8, rfl, e6⟩
        obtain ⟨g, hg, rfl⟩ := txt_get hcc
        have hol := many_out_len c f t j
        have hone := one_len c (many c f (t.take j)).1 g
        have htk := many_take c f t hg
        refine q_pair (eu_call (vs := [.str c.s, .bl (many c f (t.take j)).1, .str (sg g)]) (ea_cons (ev_var rfl) (ea_cons (ev_var rfl) (ea_cons (ev_var rfl) ea_nil))) fun H7 e7 Q r E => ⟨c, _, g, rfl, r⟩) fun H7 e7 => ?_
        refine s_asg (ev_adds (ev_var rfl) (ev_var rfl) (by omega)) fun H8 e8 => ?_
        exact ⟨some (.str (sg g)), some (.str (txt (one c (many c f (t.take j)).1 g).2)), by rw [htk]; rfl, e6.trans (e7.trans e8)⟩
      · rintro σ H6 ⟨x7, x8, rfl, e6⟩
        have hfull : t.take (txt t).cps.size = t := List.take_of_length_le (by rw [show (txt t).cps.size = (txt t).length from rfl, txt_len]; omega)
        rw [hfull]
        refine q_app (e6 _ _ (e4 _ _ h3)) (ev_var rfl) (ev_var rfl) (by rw [stV_len]; omega) fun H7 e7 => ?_
        refine s_asg (v := .str (txt (many c f t).2)) (ev_var rfl) fun H8 e8 => ?_
        refine ⟨bs ++ [(many c f t).1], (many c f t).2, _, _, _, _, _, rfl, ?_, ?_, by simp [hb], hi2, ?_, ?_⟩
        · exact ((e3.trans (e4.trans (e6.trans e7))).mut hp).trans e8
        · refine e8 _ _ ?_
          rw [upd_same]
          simp [stV]
        · rw [hpow] at ht
          exact Nat.le_trans (Nat.mul_le_mul_right _ hml) (by rw [Nat.mul_comm 2, Nat.mul_assoc]; exact ht)
        · rw [hst, step_at t hc hf]
          simp
    · rintro σ H3 ⟨bs, t, x4, x5, x6, x7, x8, rfl, e3, h3, hb, hi, ht, hst⟩
      have hd1 : ws.drop (wayV ws).length = [] := by rw [wayV_len]; exact List.drop_length
      have hd2 : st.drop (wayV ws).length = [] := by rw [wayV_len, ← hlen]; exact List.drop_length
      rw [hd1, hd2] at hst
      have hst2 : stepW ws st l = (bs, t) := by rw [hst]; simp [stepW]
      rw [hst2] at q
      refine ⟨_, rfl, p, _, rfl, .inl ⟨sq_of h3, fun r hr => ?_⟩⟩
      refine ⟨_, rfl, sz_of (n := 2) (by decide), fun u hu => ?_⟩
      exact q.go e3 ((Ex.new hr).trans (Ex.new hu)) (Ex.new hu r _ upd_same) upd_same
theorem ok_lend {f fO : Addr} {fd fdO : FuncData} {k : Nat} (F : Fun K "_law_end" "_law_end" sLEnd f fd) (GO : FnOk P w K mg base CX0 k fO fdO ["word", "is_held", "sign"] (spOne K)) (kO : PySem.W.keepIn K (.ref fO) = true) (bO : Binds K fdO ["word", "is_held", "sign"] []) (gO : mg "_law_sign" = some (.ref fO)) (mz : mg "zip" = none) :
    FnOk P w K mg base CX0 (k + 1) f fd ["way", "standing"] (spEnd K) := by
  refine F.ok scLEnd (fun vs H Q E h => ?_) (fun cdv A outer s H vs Q E hr h => ?_)
  · obtain ⟨a, b, ws, st, rfl, _⟩ := h
    rfl
  · obtain ⟨a, b, ws, st, rfl, hS, hT, ok, hl, q⟩ := h
    have nd := scLEnd.nd
    refine ⟨_, pss_cons (ps_set (i := 2) nd rfl (.inl rfl) pe_str)
      (pss_cons (ps_for PassesOwn.never rfl (pi_zipA (by rfl) mz (pa_cons (pv 0) (pa_cons (pv 1) pa_nil))) (pg_tup rfl (pgs_cons (pg_name (i := 3) nd rfl (.inl rfl)) (pgs_cons (pg_name (i := 4) nd rfl (.inl rfl)) pgs_nil)))
        (pss_cons (ps_set (i := 5) nd rfl (.inl rfl) pe_str)
        (pss_cons (ps_for PassesOwn.never rfl (pi_str (pv 2)) (pg_name (i := 6) nd rfl (.inl rfl))
          (pss_cons (ps_asg (pe_call GO hr (by rfl) gO kO bO .nil pass0 (pa_cons (pv 3) (pa_cons (pv 4) (pa_cons (pv 6) pa_nil)))) (pg_tup rfl (pgs_cons (pg_name (i := 4) nd rfl (.inl rfl)) (pgs_cons (pg_name (i := 7) nd rfl (.inl rfl)) pgs_nil))))
          (pss_one (ps_set (i := 5) nd rfl (.inl rfl) (pe_op op_add_str (pv 5) (pv 7))))))
        (pss_cons (ps_set (i := 2) nd rfl (.inl rfl) (pv 5))
        (pss_one (ps_if (PW.pt (pw_and (pt_val (pv 4)) (pw_and1 (pt_cmpR op_ne (pv 3) pe_str (nomark _)))))
          (pss_one (ps_set (i := 2) nd rfl (.inl rfl) (pe_op op_add_str (pv 5) (pe_ifExp (pt_cmpR op_eq (pv 3) pe_str (nomark _)) pe_str pe_str)))) pss_nil))))))
      (pss_one (ps_ret (pv 2)))), ?_⟩
    refine q_asg (v := .str (txt [])) ev_c fun H3 e3 => ?_
    refine q_forZ (ea_cons (ev_var rfl) (ea_cons (ev_var rfl) ea_nil)) (ex_t e3 hS) (ex_t e3 hT) (by rw [wayV_len, stV_len, ok.len])
      (fun i σ H' => ∃ t x3 x4 x5 x6 x7, σ = [some (.ref a), some (.ref b), some (.str (txt t)), x3, x4, x5, x6, x7] ∧ Ex H H' ∧ i ≤ ws.length ∧ t.length + 1 ≤ 2 ^ i ∧ endW ws st [] = endW (ws.drop i) (st.drop i) t)
      (fun H4 e4 => ⟨[], _, _, _, _, _, rfl, e3.trans e4, Nat.zero_le _, Nat.le_refl _, rfl⟩) (fun i σ H' ⟨t, x3, x4, x5, x6, x7, _, e4, _⟩ => ⟨ex_t e4 hS, ex_t e4 hT⟩) ?_ ?_
    · rintro i x y σ H4 hx hy ⟨t, x3, x4, x5, x6, x7, rfl, e4, hi, ht, hst⟩ H5 e5
      obtain ⟨c, hc, rfl⟩ := wayV_get hx
      obtain ⟨f, hf, rfl⟩ := stV_get hy
      have hi2 : i < ws.length := (List.getElem?_eq_some_iff.mp hc).1
      have hok := ok.get hc hf
      have hml := many_len c f t
      have hp : 2 ^ i ≤ 2 ^ 6 := Nat.pow_le_pow_right (by decide) (by omega)
      have hp2 : 2 ^ (i + 1) = 2 * 2 ^ i := by rw [Nat.pow_succ, Nat.mul_comm]
      refine q_asg (v := .str (txt [])) ev_c fun H6 e6 => ?_
      refine q_forS (ev_var rfl) (fun j σ H' => ∃ x6 x7, σ = [some (.ref a), some (.ref b), some (.str (txt t)), some (.str c.s), some (.bl (many c f (t.take j)).1), some (.str (txt (many c f (t.take j)).2)), x6, x7] ∧ Ex H5 H')
        (fun H7 e7 => ⟨_, _, rfl, e6.trans e7⟩) ?_ ?_
      · rintro j cc σ H7 hcc ⟨x6, x7, rfl, e7⟩
        obtain ⟨g, hg, rfl⟩ := txt_get hcc
        have hol := many_out_len c f t j
        have hone := one_len c (many c f (t.take j)).1 g
        have htk := many_take c f t hg
        refine q_pair (eu_call (vs := [.str c.s, .bl (many c f (t.take j)).1, .str (sg g)]) (ea_cons (ev_var rfl) (ea_cons (ev_var rfl) (ea_cons (ev_var rfl) ea_nil))) fun H8 e8 Q r E => ⟨c, _, g, rfl, r⟩) fun H8 e8 => ?_
        refine s_asg (ev_adds (ev_var rfl) (ev_var rfl) (by omega)) fun H9 e9 => ?_
        exact ⟨some (.str (sg g)), some (.str (txt (one c (many c f (t.take j)).1 g).2)), by rw [htk]; rfl, e7.trans (e8.trans e9)⟩
      · rintro σ H7 ⟨x6, x7, rfl, e7⟩
        have hfull : t.take (txt t).cps.size = t := List.take_of_length_le (by rw [show (txt t).cps.size = (txt t).length from rfl, txt_len]; omega)
        rw [hfull]
        refine q_asg (v := .str (txt (many c f t).2)) (ev_var rfl) fun H8 e8 => ?_
        have zc := ev_op (σ := [some (.ref a), some (.ref b), some (.str (txt (many c f t).2)), some (.str c.s), some (.bl (many c f t).1), some (.str (txt (many c f t).2)), x6, x7]) (H := H8) (ev_var (i := 3) rfl) (ev_c (v := .str Cv.care.s)) (rv_ne rfl)
        rw [dec_cv] at zc
        have hE : (heldE c).length ≤ 1 := by cases c <;> decide
        have hh : ((many c f t).1 && !decide (c = .care)) = ((many c f t).1 && holds c) := by
          cases hm : (many c f t).1 with
          | false => rfl
          | true =>
            have hpl : plain c = false := by
              cases hpc : plain c with
              | false => rfl
              | true =>
                have hff : f = false := by
                  cases f with
                  | false => rfl
                  | true => rw [hok rfl] at hpc; cases hpc
                rw [many_plain hpc t hff] at hm
                cases hm
            revert hpl
            cases c <;> decide
        refine s_ifAsg (v := .str (txt (runF c f t))) (et_and (et_test (ev_var rfl)) (fun _ => et_test zc)) (fun hb => ?_) (fun hb => ?_) fun H9 e9 => ?_
        · rw [hh] at hb
          have er : runF c f t = (many c f t).2 ++ heldE c := by
            unfold runF tailE
            rw [hb, if_pos rfl]
          have hho : holds c = true := by
            rw [Bool.and_eq_true] at hb
            exact hb.2
          rw [er]
          refine ev_adds (ev_var rfl) (ev_if (et_test (ev_cv .pairs rfl)) (fun hb2 => ?_) (fun hb2 => ?_)) (by omega)
          · rw [of_decide_eq_true hb2]
            exact ev_c
          · have : heldE c = [.n] := by
              revert hho hb2
              cases c <;> decide
            rw [this]
            exact ev_c
        · rw [hh] at hb
          have er : runF c f t = (many c f t).2 := by
            unfold runF tailE
            rw [hb, if_neg Bool.false_ne_true, List.append_nil]
          rw [er]
          rfl
        · have hrl : (runF c f t).length ≤ 2 * t.length + 1 := by
            unfold runF tailE
            rw [List.length_append]
            have : (if ((many c f t).1 && holds c) = true then heldE c else []).length ≤ 1 := by
              split
              · exact hE
              · exact Nat.zero_le _
            omega
          exact ⟨runF c f t, _, _, _, _, _, rfl, e4.trans (e5.trans (e7.trans (e8.trans e9))), hi2, by omega, by rw [hst, end_at t hc hf]⟩
    · rintro σ H4 ⟨t, x3, x4, x5, x6, x7, rfl, e4, hi, ht, hst⟩
      have hd1 : ws.drop (wayV ws).length = [] := by rw [wayV_len]; exact List.drop_length
      rw [hd1] at hst
      have hst2 : endW ws st [] = t := by rw [hst]; simp [endW]
      rw [hst2] at q
      exact s_ret (ev_var rfl) fun H5 e5 => q H5 (e4.trans e5)
end
end Tu
namespace Tu
open PySem PySem.Spec PyProof.Rows L2 Evl RZ
abbrev sAny : Stmt := topS 35
abbrev sReach : Stmt := topS 36
theorem scAny : FnScope ["draw", "way", "word"] ["draw", "way"] (defScope sAny) := ⟨rfl, rfl, rfl, by decide +kernel, rfl, by decide +kernel, by decide +kernel⟩
theorem scReach : FnScope ["way", "found", "waiting", "standing", "sign"] ["way"] (defScope sReach) := ⟨rfl, rfl, rfl, by decide +kernel, rfl, by decide +kernel, by decide +kernel⟩
theorem stOk_of : ∀ {ws : List Cv} {st : List Bool}, st.length = ws.length → (∀ (j : Nat) (c : Cv) (b : Bool), ws[j]? = some c → st[j]? = some b → b = true → plain c = false) → stOk ws st
  | [], [], _, _ => trivial
  | c :: ws, b :: st, h, k => ⟨k 0 c b rfl rfl, stOk_of (by simpa using h) fun j c b h1 h2 => k (j + 1) c b h1 h2⟩
  | [], _ :: _, h, _ => by simp at h
  | _ :: _, [], h, _ => by simp at h
/-! ### lists of standings as data -/
def stD (k : List Bool) : PyData := .tuple (k.map PyData.bool)
theorem boolsD_flat : ∀ ns : List Bool, (ns.map PyData.bool).all flatD = true
  | [] => rfl
  | _ :: ns => boolsD_flat ns
theorem dp_bools {K : PySem.W.Frag} {H : Hp} : ∀ bs : List Bool, DpAll K H (stV bs) (bs.map PyData.bool)
  | [] => .nil
  | b :: bs => .cons (.bl b) (dp_bools bs)
theorem dp_st {K : PySem.W.Frag} {H : Hp} {q : Addr} {k : List Bool} (h : SqT K H q (stV k)) : Dp K H (.ref q) (stD k) := .tup h (dp_bools k)
theorem dp_sts {K : PySem.W.Frag} {H : Hp} : ∀ (wl : List (List Bool × Addr)), (∀ x ∈ wl, SqT K H x.2 (stV x.1)) → DpAll K H (wl.map fun x => V.ref x.2) (wl.map fun x => stD x.1)
  | [], _ => .nil
  | x :: wl, h => .cons (dp_st (h x (List.mem_cons_self ..))) (dp_sts wl fun y hy => h y (List.mem_cons_of_mem _ hy))
theorem stD_lay (k : List Bool) : (stD k).canLay0 = true := by
  unfold stD
  simp only [PyData.canLay0]
  exact flat_lay _ (boolsD_flat k)
theorem stD_depth (k : List Bool) : (stD k).depth ≤ 2 := by
  have h := flat_depth _ (boolsD_flat k)
  unfold stD
  simp only [PyData.depth]
  omega
theorem sts_lay : ∀ ks : List (List Bool), PyData.canLayAll0 (ks.map stD) = true
  | [] => by simp [PyData.canLayAll0]
  | k :: ks => by simp [PyData.canLayAll0, stD_lay k, sts_lay ks]
theorem sts_depth : ∀ ks : List (List Bool), PyData.depthAll (ks.map stD) ≤ 2
  | [] => by simp [PyData.depthAll]
  | k :: ks => by
    have h1 := sts_depth ks
    have h2 := stD_depth k
    simp only [List.map_cons, PyData.depthAll]
    omega
theorem shaped_st (k : List Bool) : SeqAt.shaped (stD k) = true := by
  have h := stD_depth k
  show ((stD k).canLay0 && decide ((stD k).depth ≤ 64)) = true
  rw [Bool.and_eq_true]
  exact ⟨stD_lay k, decide_eq_true (by omega)⟩
theorem shaped_sts (ks : List (List Bool)) : SeqAt.shaped (.list (ks.map stD)) = true := by
  have h1 := sts_depth ks
  have h2 : PyData.depth (.list (ks.map stD)) ≤ 64 := by
    simp only [PyData.depth]
    omega
  show (PyData.canLay0 (.list (ks.map stD)) && decide (PyData.depth (.list (ks.map stD)) ≤ 64)) = true
  rw [Bool.and_eq_true]
  exact ⟨by simp only [PyData.canLay0]; exact sts_lay ks, decide_eq_true h2⟩
theorem rv_ne_empty {K : PySem.W.Frag} {H : Hp} {a p : Addr} {wl : List (List Bool × Addr)} (h : SqL K H a (wl.map fun x => V.ref x.2)) (hw : ∀ x ∈ wl, SqT K H x.2 (stV x.1)) (hp : SqL K H p []) : RV (rNeD K) (.ref a) (.ref p) H (.bl (!wl.isEmpty)) := fun H1 e Q q => by
  have sh := shaped_sts (wl.map (·.1))
  rw [List.map_map] at sh
  refine ⟨.list (wl.map fun (x : List Bool × Addr) => stD x.1), .list [], .lst (ex_l e h) (dp_sts wl fun x hx => ex_t e (hw x hx)), .lst (ex_l e hp) .nil, sh, by decide, ?_⟩
  cases wl with
  | nil => exact q H1 (Ex.refl H1)
  | cons n ns => exact q H1 (Ex.refl H1)
/-! ### the law's own search -/
structure Sr2 (ws : List Cv) (keys wait : List (List Bool)) : Prop where
  nd : keys.Nodup
  reach : ∀ k ∈ keys, Reach ws k
  rw : ∀ k ∈ wait, Reach ws k
  first : List.replicate ws.length false ∈ keys ∨ List.replicate ws.length false ∈ wait
  closed : ∀ k ∈ keys, ∀ g, (stepW ws k [g]).1 ∈ keys ∨ (stepW ws k [g]).1 ∈ wait
def nexts (ws : List Cv) (k : List Bool) : List (List Bool) := sigs.map fun g => (stepW ws k [g]).1
theorem mem_nexts (ws : List Cv) (k : List Bool) (g : Sg) : (stepW ws k [g]).1 ∈ nexts ws k := List.mem_map.mpr ⟨g, by cases g <;> decide, rfl⟩
theorem Sr2.few {ws : List Cv} {keys wait : List (List Bool)} (S : Sr2 ws keys wait) (h : ws.length ≤ 6) : keys.length ≤ 64 := by
  have h1 := nodup_bound ws.length keys S.nd fun k hk => (S.reach k hk).len
  have h2 : 2 ^ ws.length ≤ 2 ^ 6 := Nat.pow_le_pow_right (by decide) h
  omega
theorem Sr2.done {ws : List Cv} {keys : List (List Bool)} (S : Sr2 ws keys []) (k : List Bool) : k ∈ keys ↔ Reach ws k := by
  refine ⟨S.reach k, fun h => ?_⟩
  induction h with
  | first =>
    rcases S.first with h | h
    · exact h
    · cases h
  | step g _ ih =>
    rcases S.closed _ ih g with h | h
    · exact h
    · cases h
theorem Sr2.skip {ws : List Cv} {keys wait : List (List Bool)} {k0 : List Bool} (S : Sr2 ws keys (wait ++ [k0])) (h : k0 ∈ keys) : Sr2 ws keys wait := by
  refine ⟨S.nd, S.reach, fun k hk => S.rw k (List.mem_append_left _ hk), ?_, fun k hk g => ?_⟩
  · rcases S.first with q | q
    · exact .inl q
    · rcases List.mem_append.mp q with q | q
      · exact .inr q
      · rw [List.mem_singleton.mp q]
        exact .inl h
  · rcases S.closed k hk g with q | q
    · exact .inl q
    · rcases List.mem_append.mp q with q | q
      · exact .inr q
      · rw [List.mem_singleton.mp q]
        exact .inl h
theorem Sr2.add {ws : List Cv} {keys wait : List (List Bool)} {k0 : List Bool} (S : Sr2 ws keys (wait ++ [k0])) (h : k0 ∉ keys) : Sr2 ws (keys ++ [k0]) (wait ++ nexts ws k0) := by
  have r0 : Reach ws k0 := S.rw k0 (by simp)
  refine ⟨?_, fun k hk => ?_, fun k hk => ?_, ?_, fun k hk g => ?_⟩
  · rw [List.nodup_append]
    refine ⟨S.nd, by simp, fun a ha b hb => ?_⟩
    rw [List.mem_singleton] at hb
    subst hb
    intro e
    subst e
    exact h ha
  · rcases List.mem_append.mp hk with q | q
    · exact S.reach k q
    · rw [List.mem_singleton.mp q]
      exact r0
  · rcases List.mem_append.mp hk with q | q
    · exact S.rw k (List.mem_append_left _ q)
    · obtain ⟨g, _, rfl⟩ := List.mem_map.mp q
      exact r0.step g
  · rcases S.first with q | q
    · exact .inl (List.mem_append_left _ q)
    · rcases List.mem_append.mp q with q | q
      · exact .inr (List.mem_append_left _ q)
      · rw [List.mem_singleton.mp q]
        exact .inl (by simp)
  · rcases List.mem_append.mp hk with q | q
    · rcases S.closed k q g with z | z
      · exact .inl (List.mem_append_left _ z)
      · rcases List.mem_append.mp z with z | z
        · exact .inr (List.mem_append_left _ z)
        · rw [List.mem_singleton.mp z]
          exact .inl (by simp)
    · rw [List.mem_singleton.mp q]
      exact .inr (List.mem_append_right _ (mem_nexts ws k0 g))
section
variable {P : Program} {w : World} {K : PySem.W.Frag} {mg : Str → Option Value} {base : Heap} {H H' : Hp}
def spAnySt (K : PySem.W.Frag) : Sp := fun vs H Q _ => ∃ (d a0 a : Addr) (ns : List Int) (c : Nat) (ws : List Cv), vs = [.ref d, .ref a] ∧ Draw K H d a0 ns c ∧ c < 800000 ∧ a ≠ d ∧ SqT K H a (wayV ws) ∧ ws.length ≤ 6 ∧
  DrawQ K H d a0 ns c 6 (fun v H' => ∃ p st, v = .ref p ∧ H' p = some (.tup (stV st)) ∧ stOk ws st) Q
theorem ok_anySt {f fT : Addr} {fd fdT : FuncData} {k : Nat} (F : Fun K "_law_any_standing" "_law_any_standing" sAny f fd) (GT : FnOk P w K mg base CX0 k fT fdT ["draw", "many"] (spTake K)) (kT : PySem.W.keepIn K (.ref fT) = true) (bT : Binds K fdT ["draw", "many"] []) (gT : mg "_law_take" = some (.ref fT)) (mt : mg "tuple" = none) :
    FnOk P w K mg base CX0 (k + 1) f fd ["draw", "way"] (spAnySt K) := by
  refine F.ok scAny (fun vs H Q E h => ?_) (fun cdv A outer s H vs Q E hr h => ?_)
  · obtain ⟨d, a0, a, ns, c, ws, rfl, _⟩ := h
    rfl
  · obtain ⟨d, a0, a, ns, c, ws, rfl, D, hc, hne, hS, hw, q⟩ := h
    have nd := scAny.nd
    refine ⟨_, pss_one (ps_ret (pe_callTy call_tuple_of (by rfl) mt (by decide +kernel) (pa_cons
      (pe_lc (own := [("word", 2)]) (g := gName 2) (by rfl) nd (pi_tup (pv 1)) (blkOk_by (N := ["draw", "way", "word"]) (sc := defScope sAny) (by decide +kernel)) (fun _ _ _ _ _ => pg_name (i := 2) nd rfl (Or.inl rfl)) (fun _ _ _ _ _ => pts_nil)
        (fun _ _ _ _ _ => pe_and (pe_cmpR (r := rIn K true) op_notIn_seq (pv 2) (pe_tup (pa_cons pe_str (pa_cons pe_str pa_nil))) rfl)
          (pe_one (pe_cmpR op_eq (pe_call GT hr (by rfl) gT kT bT .nil pass0 (pa_cons (pv 0) (pa_cons pe_int pa_nil))) pe_int (nomark _))))) pa_nil))), ?_⟩
    refine ⟨_, rfl, a, rfl, ⟨_, hS⟩, fun Dl hD => ?_⟩
    have ndl : Dl ≠ d := (ne_of_none D.here hD).symm
    refine lc_it (walk_tup (K := K) (a := a) (xs := wayV ws)) (fun i H' => ∃ st c', Draw K H' d a0 ns c' ∧ ExB d H H' ∧ c ≤ c' ∧ c' ≤ c + i ∧ H' Dl = some (.lst (stV st)) ∧ st.length = i ∧ (∀ (j : Nat) (c : Cv) (b : Bool), ws[j]? = some c → st[j]? = some b → b = true → plain c = false))
      ?_ (fun i H' _ ⟨st, c', _, e, _⟩ => e.sqt hne hS) ?_ ?_
    · exact ⟨[], c, D.step (.new hD) (by rw [upd_ne ndl.symm]; exact D.here), .new hD, Nat.le_refl _, Nat.le_refl _, upd_same, rfl, fun j c b _ h2 => by simp at h2⟩
    · rintro i x H1 H2 hi ⟨st, c', D1, e1, l1, l2, hl, hn, hok⟩ ⟨rfl, hx⟩
      obtain ⟨cv, hcv, rfl⟩ := wayV_get hx
      refine ⟨rfl, ?_⟩
      simp only [tYes, if_true]
      have close : ∀ (b : Bool) (H3 : Hp) (c3 : Nat), (b = true → plain cv = false) → Draw K H3 d a0 ns c3 → ExB d H2 H3 → c' ≤ c3 → c3 ≤ c' + 1 → ∃ acc, H3 Dl = some (.lst acc) ∧ acc.length < sizeLine ∧ ∃ st c', Draw K (upd H3 Dl (.lst (acc ++ [.bl b]))) d a0 ns c' ∧ ExB d H (upd H3 Dl (.lst (acc ++ [.bl b]))) ∧ c ≤ c' ∧ c' ≤ c + (i + 1) ∧
          upd H3 Dl (.lst (acc ++ [.bl b])) Dl = some (.lst (stV st)) ∧ st.length = i + 1 ∧ (∀ (j : Nat) (c : Cv) (b : Bool), ws[j]? = some c → st[j]? = some b → b = true → plain c = false) := by
        intro b H3 c3 hb D3 e3 m1 m2
        rw [wayV_len] at hi
        refine ⟨stV st, e3 _ _ ndl hl, sz_lt (by rw [stV_len]; omega), st ++ [b], c3, ?_, (e1.trans e3).mut hD, by omega, by omega, by rw [upd_same]; simp [stV], by simp [hn], ?_⟩
        · exact ⟨by rw [upd_ne ndl.symm]; exact D3.here, D.keep ((e1.trans e3).mut (o := .lst (stV st ++ [.bl b])) hD), D.len⟩
        · intro j c4 b4 h1 h2 h3
          by_cases hj : j < st.length
          · rw [List.getElem?_append_left hj] at h2
            exact hok j c4 b4 h1 h2 h3
          · have hj2 : j = i := by
              have := (List.getElem?_eq_some_iff.mp h2).1
              rw [List.length_append, List.length_singleton] at this
              omega
            subst hj2
            rw [hcv] at h1
            cases h1
            rw [List.getElem?_append_right (by omega), hn, Nat.sub_self] at h2
            have : b = b4 := by simpa using h2
            exact hb (this ▸ h3)
      have z := ev_niU (K := K) (σ := [some (.ref d), some (.ref a), some (.str cv.s)]) (H := H2) (ev_var (i := 2) (v := .str cv.s) rfl) (eu_tup (vs := [.str "all", .str "lone"]) (ea_cons ev_c (ea_cons ev_c ea_nil)) (by simp)) rfl rfl
      rw [in_plain] at z
      refine z H2 (Ex.refl _) _ fun H3 e3 => ⟨!plain cv, rfl, ?_⟩
      cases hp : plain cv with
      | false =>
        refine iteT ?_
        refine call_raw (vs := [.ref d, .int 2]) (ea_cons (ev_var rfl) (ea_cons ev_c ea_nil)) fun H4 e4 => ⟨d, a0, ns, c', 2, rfl, (D1.mono e3).mono e4, by rw [wayV_len] at hi; omega, by decide, ?_⟩
        rintro _ H5 c5 D5 e5 m1 m2 ⟨n, n0, n1, rfl⟩
        exact ⟨rfl, close _ H5 c5 (fun _ => hp) D5 ((ExB.of (e3.trans e4)).trans e5) m1 m2⟩
      | true =>
        refine iteF ?_
        exact close false H3 c' (fun z => nomatch z) (D1.mono e3) (.of e3) (Nat.le_refl _) (Nat.le_succ _)
    · rintro H1 ⟨st, c', D1, e1, l1, l2, hl, hn, hok⟩
      rw [wayV_len] at hn l2
      refine ⟨Dl, _, rfl, .inl ⟨sq_of hl, fun p hp => ?_⟩⟩
      exact q _ _ c' (D1.mono (Ex.new hp)) (e1.trans (.new hp)) l1 (by omega) ⟨p, st, rfl, upd_same, stOk_of hn hok⟩
theorem ok_reach {f fF fR : Addr} {fd fdF fdR : FuncData} {k : Nat} (F : Fun K "_law_reach" "_law_reach" sReach f fd) (GF : FnOk P w K mg base CX0 k fF fdF ["way"] (spFirst K)) (kF : PySem.W.keepIn K (.ref fF) = true) (bF : Binds K fdF ["way"] []) (gF : mg "_law_first" = some (.ref fF))
    (GR : FnOk P w K mg base CX0 k fR fdR ["way", "standing", "text"] (spStep K)) (kR : PySem.W.keepIn K (.ref fR) = true) (bR : Binds K fdR ["way", "standing", "text"] []) (gR : mg "_law_read" = some (.ref fR)) (ml : mg "list" = none) :
    FnOk P w K mg base CX0 (k + 1) f fd ["way"] (spAllSt K) := by
  refine F.ok scReach (fun vs H Q E h => ?_) (fun cdv A outer s H vs Q E hr h => ?_)
  · obtain ⟨a, ws, rfl, _⟩ := h
    rfl
  · obtain ⟨a, ws, rfl, hS, hw, q⟩ := h
    have nd := scReach.nd
    have hu := hu_of hr
    refine ⟨_, pss_cons (ps_par (i := 1) (j := 2) (by rfl) nd rfl rfl (by decide) rfl rfl (pa_cons pe_newB (pa_cons (pe_lst (pa_cons (pe_call GF hr (by rfl) gF kF bF .nil pass0 (pa_cons (pv 0) pa_nil)) pa_nil)) pa_nil)) (by rfl))
      (pss_cons (ps_while PassesOwn.never (pt_cmpR (op_neD hr.units) (pv 2) (pe_lst pa_nil) (nomark _))
        (pss_cons (ps_set (i := 3) nd rfl (.inr rfl) (pe_bm0 PySem.F.plainAttrs_list PySem.F.slot_list_pop PySem.F.type_list_pop mt_pop (pv 2)))
        (pss_one (ps_if (pt_cmpR (op_notIn_B hu) (pv 3) (pv 1) rfl)
          (pss_cons (ps_asg pe_bl (pg_sub (pv 1) (pv 3) (set_B hu)))
          (pss_one (ps_set (i := 2) nd rfl (.inl rfl) (pe_op op_cat (pv 2)
            (pe_lc (own := [("sign", 4)]) (g := gName 4) (by rfl) nd (pi_tup (pe_tup (pa_cons pe_str (pa_cons pe_str (pa_cons pe_str pa_nil))))) (blkOk_by (N := ["way", "found", "waiting", "standing", "sign"]) (sc := defScope sReach) (by decide +kernel)) (fun _ _ _ _ _ => pg_name (i := 4) nd rfl (Or.inl rfl)) (fun _ _ _ _ _ => pts_nil)
              (fun _ _ _ _ _ => pe_ix (r := rIxT K) ix_tup (pe_call GR hr (by rfl) gR kR bR .nil pass0 (pa_cons (pv 0) (pa_cons (pv 3) (pa_cons (pv 4) pa_nil)))) pe_int (fun _ _ => rfl))))))) pss_nil))))
      (pss_one (ps_ret (pe_callTy (call_list_B rfl) (by rfl) ml (by decide +kernel) (pa_cons (pv 1) pa_nil))))), ?_⟩
    have hp6 : 2 ^ ws.length ≤ 2 ^ 6 := Nat.pow_le_pow_right (by decide) hw
    intro d hd low
    have eD : Ex H (upd H d (.ext (dbF P w d []))) := Ex.new hd
    refine call_raw (vs := [.ref a]) (ea_cons (ev_var rfl) ea_nil) fun H1 e1 => ⟨a, ws, rfl, ex_t (eD.trans e1) hS, hw, fun f1 H2 e2 hF => ?_⟩
    have e02 := eD.trans (e1.trans e2)
    refine ⟨sz_of (n := 1) (by decide), fun wt0 hwt => ⟨_, _, rfl, ?_⟩⟩
    dsimp only
    have hd2 : H2 d = some (.ext (dbF P w d [])) := e2 _ _ (e1 _ _ upd_same)
    have L0 : Lie P w K H (upd H2 wt0 (.lst [.ref f1])) d wt0 [] [(List.replicate ws.length false, f1)] := by
      refine ⟨e02.trans (Ex.new hwt), hd, fresh_back e02 hwt, (ne_of_none hd2 hwt).symm, ⟨Ex.new hwt _ _ hd2, List.nodup_nil, Nat.zero_le _, low, fun x hx => nomatch hx⟩, upd_same, fun x hx => ?_⟩
      rw [List.mem_singleton.mp hx]
      exact ex_t (Ex.new hwt) hF
    refine q_while (fun m σ H' => ∃ wt xs wl x3 x4, σ = [some (.ref a), some (.ref d), some (.ref wt), x3, x4] ∧ Lie P w K H H' d wt xs wl ∧ Sr2 ws (xs.map (·.1)) (wl.map (·.1)) ∧ 4 * (64 - xs.length) + wl.length ≤ m ∧ m ≤ 257) 257
      ⟨_, _, _, _, _, rfl, L0, ⟨List.nodup_nil, (fun k hk => nomatch hk), fun k hk => ?_, .inr (by simp), (fun k hk => nomatch hk)⟩, by simp, Nat.le_refl _⟩ ?_
    · rw [List.mem_singleton.mp hk]
      exact .first
    rintro m σ H4 ⟨wt, xs, wl, x3, x4, rfl, L, S, hm, hm2⟩
    refine ⟨!wl.isEmpty, et_test (ev_opL (ev_var rfl) (el_lst ea_nil (by simp)) fun p H5 hp e => rv_ne_empty (ex_l e (sq_of L.wq)) (fun x hx => ex_t e (L.ws x hx)) (sq_of hp)), fun hb H5 e5 => ?_, fun hb H5 e5 => ?_⟩
    · obtain ⟨wl', x0, rfl⟩ : ∃ wl' x0, wl = wl' ++ [x0] := by
        rcases List.eq_nil_or_concat wl with h | ⟨l, b, h⟩
        · subst h
          cases hb
        · exact ⟨l, b, by rw [h]; simp⟩
      have L5 := L.mono e5
      rw [List.map_append] at S
      have r0 : Reach ws x0.1 := S.rw _ (by simp)
      have L6 := L5.setW (wl' := wl') (fun x hx => L5.ws x (List.mem_append_left _ hx))
      have hq0 : SqT K (upd H5 wt (.lst (wl'.map fun x => .ref x.2))) x0.2 (stV x0.1) := L5.keepW (L5.ws x0 (by simp))
      have hdl : ((wl' ++ [x0]).map fun x => V.ref x.2).dropLast = wl'.map fun x => V.ref x.2 := by simp
      have few := S.few hw
      rw [List.length_map] at few
      rw [List.length_append, List.length_singleton] at hm
      refine ⟨fun σ2 H2 => ∃ wt xs wl x3 x4, σ2 = [some (.ref a), some (.ref d), some (.ref wt), x3, x4] ∧ Lie P w K H H2 d wt xs wl ∧ Sr2 ws (xs.map (·.1)) (wl.map (·.1)) ∧ 4 * (64 - xs.length) + wl.length + 1 ≤ m, ?_, ?_⟩
      · rintro σ2 H2' ⟨wt2, xs2, wl2, y3, y4, rfl, L2', S2, hm2'⟩
        exact ⟨m - 1, by omega, wt2, xs2, wl2, y3, y4, rfl, L2', S2, by omega, by omega⟩
      refine ⟨.ref wt, rfl, .inl ⟨rfl, _, sq_of L5.wq⟩, wt, _, .ref x0.2, rfl, rfl, L5.wq, by simp, ?_⟩
      rw [hdl]
      dsimp only [gName]
      refine s_when (b := !decide (x0.1 ∈ xs.map fun (x : List Bool × Addr) => x.1)) (et_test (ev_op (ev_var rfl) (ev_var rfl) fun H10 e10 Q10 q10 => ⟨d, x0.2, xs, x0.1, rfl, rfl, L6.db.mono e10, ex_t e10 hq0, q10 H10 (Ex.refl _)⟩)) (fun hb H10 e10 => ?_) (fun hb H10 e10 => ?_)
      · have hn : x0.1 ∉ xs.map (·.1) := by simpa using hb
        have L10 := L6.mono e10
        have hq10 := ex_t e10 hq0
        have S8 := Sr2.add S hn
        have few8 := S8.few hw
        rw [List.length_append, List.length_map, List.length_singleton] at few8
        refine ⟨.ref d, rfl, .ref x0.2, rfl, d, x0.2, xs, x0.1, rfl, rfl, rfl, L10.db, hq10, hn, ?_⟩
        have L11 := L10.put hn hq10 (by omega)
        have hq11 := L10.keepD (o := .ext (dbF P w d (xs ++ [(x0.1, x0.2)]))) hq10
        refine ⟨_, rfl, sz_of (n := 3) (by decide), fun u hu => ⟨u, rfl, ⟨_, st_of upd_same⟩, fun Dl hD => ?_⟩⟩
        have L12 := L11.mono (Ex.new (o := .tup [.str "a", .str "n", .str "r"]) hu)
        have hq12 := ex_t (Ex.new (o := .tup [.str "a", .str "n", .str "r"]) hu) hq11
        refine lc_it (walk_tup (K := K) (a := u) (xs := [.str "a", .str "n", .str "r"])) (fun i H' => ∃ wl2 : List (List Bool × Addr), Ex (upd (upd H10 d (.ext (dbF P w d (xs ++ [(x0.1, x0.2)])))) u (.tup [.str "a", .str "n", .str "r"])) H' ∧ H' Dl = some (.lst (wl2.map fun x => .ref x.2)) ∧
            (∀ x ∈ wl2, SqT K H' x.2 (stV x.1)) ∧ wl2.map (·.1) = (sigs.take i).map fun g => (stepW ws x0.1 [g]).1) ?_ (fun i H' _ ⟨wl2, e, _⟩ => ex_t e (st_of upd_same)) ?_ ?_
        · exact ⟨[], Ex.new hD, upd_same, (fun x hx => nomatch hx), rfl⟩
        · rintro i x H13 H14 hi ⟨wl2, e13, hl, hs2, hmap⟩ ⟨rfl, hx⟩
          obtain ⟨g, hg, rfl⟩ := sig_get hx
          refine ⟨rfl, ?_⟩
          simp only [tYes, if_true]
          refine call_raw (vs := [.ref a, .ref x0.2, .str (sg g)]) (ea_cons (ev_var rfl) (ea_cons (ev_var rfl) (ea_cons (ev_var rfl) ea_nil))) fun H15 e15 => ⟨a, x0.2, ws, x0.1, [g], rfl, ex_t (L12.old.trans (e13.trans e15)) hS, ex_t (e13.trans e15) hq12, r0.len, ?_, by omega, ?_⟩
          · show 1 * 2 ^ ws.length ≤ 50000
            omega
          intro p r H16 e16 g1 g2
          have hl16 := (e15.trans e16) _ _ hl
          have kp : ∀ {q : Addr} {ys : List V} {o : HO}, SqT K H16 q ys → SqT K (upd H16 Dl o) q ys := fun h => sqt_upd h (fun _ e => by rw [hl16] at e; cases e) (fun _ _ e => by rw [hl16] at e; cases e)
          have hlen2 : wl2.length ≤ 3 := by
            have := congrArg List.length hmap
            rw [List.length_map, List.length_map, List.length_take] at this
            have : sigs.length = 3 := rfl
            omega
          refine ⟨p, _, 0, .ref r, rfl, rfl, st_of g2, atI_nat (j := 0) rfl, _, hl16, sz_lt (by rw [List.length_map]; omega), wl2 ++ [((stepW ws x0.1 [g]).1, r)], (e13.trans (e15.trans e16)).mut hD, by rw [upd_same]; simp, fun y hy => ?_, ?_⟩
          · rcases List.mem_append.mp hy with h | h
            · exact kp (ex_t (e15.trans e16) (hs2 y h))
            · rw [List.mem_singleton.mp h]
              exact kp (st_of g1)
          · rw [List.take_add_one, hg, List.map_append, List.map_append, hmap]
            rfl
        · rintro H13 ⟨wl2, e13, hl, hs2, hmap⟩
          have hmap : wl2.map (·.1) = nexts ws x0.1 := hmap
          have L13 := L12.mono e13
          have hlen2 : wl2.length = 3 := by
            have := congrArg List.length hmap
            rw [List.length_map] at this
            exact this
          refine ⟨wt, Dl, _, _, rfl, rfl, L13.wq, hl, sz_of (by rw [List.length_map, List.length_map]; omega), fun p2 hp2 => ?_⟩
          have eN := Ex.new (o := .lst ((wl'.map fun x => V.ref x.2) ++ (wl2.map fun x => V.ref x.2))) hp2
          have L14 := L13.mono eN
          refine ⟨p2, xs ++ [(x0.1, x0.2)], wl' ++ wl2, _, _, rfl, ⟨L14.old, L14.dn, fresh_back L13.old hp2, (ne_of_none L13.db.here hp2).symm, L14.db, by rw [upd_same, List.map_append], fun y hy => ?_⟩, ?_, ?_⟩
          · rcases List.mem_append.mp hy with h | h
            · exact L14.ws y h
            · exact ex_t eN (hs2 y h)
          · rw [List.map_append, List.map_append, hmap]
            exact S8
          · simp only [List.length_append, List.length_singleton]
            omega
      · have hn : x0.1 ∈ xs.map (·.1) := by simpa using hb
        exact ⟨wt, xs, wl', _, _, rfl, L6.mono e10, Sr2.skip S hn, by omega⟩
    · have hwl : wl = [] := by
        cases wl with
        | nil => rfl
        | cons _ _ => cases hb
      subst hwl
      have L5 := L.mono e5
      have few := S.few hw
      rw [List.length_map] at few
      refine ⟨_, rfl, d, xs, rfl, L5.db, fun p hp => ?_⟩
      exact q p _ xs (L5.old.trans (Ex.new hp)) (fresh_back L5.old hp) upd_same L5.db.nd few (fun x hx => ex_t (Ex.new hp) (L5.db.keys x hx)) (Sr2.done S)
end
end Tu
namespace Tu
open PySem PySem.Spec PyProof.Rows L2 Evl RZ
abbrev sLaw : Stmt := topS 37
abbrev nLaw : List Str := ["script", "draw", "turn", "way", "every", "due", "standing", "sign", "again"]
theorem scLaw : FnScope nLaw ["script"] (defScope sLaw) := ⟨rfl, rfl, rfl, by decide +kernel, rfl, by decide +kernel, by decide +kernel⟩
theorem nodup_le : ∀ (l1 l2 : List (List Bool)), l1.Nodup → (∀ k ∈ l1, k ∈ l2) → l1.length ≤ l2.length
  | [], _, _, _ => Nat.zero_le _
  | a :: l1, l2, hn, hs => by
    have ha : a ∈ l2 := hs a (List.mem_cons_self ..)
    obtain ⟨hna, hn1⟩ := List.nodup_cons.mp hn
    have h := nodup_le l1 (l2.erase a) hn1 fun k hk => (List.mem_erase_of_ne (fun e : k = a => hna (e ▸ hk))).mpr (hs k (List.mem_cons_of_mem _ hk))
    rw [List.length_erase_of_mem ha] at h
    have := List.length_pos_of_mem ha
    rw [List.length_cons]
    omega
theorem nodup_same {l1 l2 : List (List Bool)} (h1 : l1.Nodup) (h2 : l2.Nodup) (h : ∀ k, k ∈ l1 ↔ k ∈ l2) : l1.length = l2.length :=
  Nat.le_antisymm (nodup_le _ _ h1 fun k hk => (h k).mp hk) (nodup_le _ _ h2 fun k hk => (h k).mpr hk)
theorem hu65_of {A : Around} {k : Nat} (hr : Room k A) : A.units + 65 < cLine := by
  have := hr.un
  omega
theorem strOk_txt (l : List Sg) : PyData.strOk (txt l) = true := by
  show (l.map Sg.c).toArray.all (fun c => decide (c < 0x110000)) = true
  rw [List.all_toArray, List.all_eq_true]
  intro c hc
  obtain ⟨g, _, rfl⟩ := List.mem_map.mp hc
  cases g <;> decide
/-- a standing and a text as data -/
def prD (k : List Bool) (l : List Sg) : PyData := .tuple [stD k, .str (txt l)]
theorem prD_lay (k : List Bool) (l : List Sg) : (prD k l).canLay0 = true := by
  unfold prD
  simp [PyData.canLay0, PyData.canLayAll0, stD_lay k, strOk_txt l]
theorem shaped_pr (k : List Bool) (l : List Sg) : SeqAt.shaped (prD k l) = true := by
  have h2 := stD_depth k
  have h : (prD k l).depth ≤ 64 := by
    unfold prD
    simp only [PyData.depth, PyData.depthAll]
    omega
  show ((prD k l).canLay0 && decide ((prD k l).depth ≤ 64)) = true
  rw [Bool.and_eq_true]
  exact ⟨prD_lay k l, decide_eq_true h⟩
structure LawG (P : Program) (w : World) (K : PySem.W.Frag) (mg : Str → Option Value) (base : Heap) (x : Str) (k : Nat) (ps : List Str) (sp : Sp) : Prop where
  ex : ∃ f fd, FnOk P w K mg base CX0 k f fd ps sp ∧ PySem.W.keepIn K (.ref f) = true ∧ Binds K fd ps [] ∧ mg x = some (.ref f)
section
variable {K : PySem.W.Frag} {w : World} {H H' : Hp} {σ : L2.St} {t : TT} {te tl ta tb to : TE} {D : Ends} {tz tu : TS}
theorem dp_pr {p r : Addr} {k : List Bool} {x : List Sg} (h1 : H r = some (.tup (stV k))) (h2 : H p = some (.tup [.ref r, .str (txt x)])) : Dp K H (.ref p) (prD k x) := .tup (st_of h2) (.cons (dp_st (st_of h1)) (.cons (.str _) .nil))
theorem sqt_keep {d a q : Addr} {ns : List Int} {c : Nat} {xs : List V} (D : Draw K H d a ns c) (e : ExB d H H') (h : SqT K H q xs) : SqT K H' q xs := by
  rcases h with (h | ⟨o, h⟩) | h
  · exact .inl (.inl (e _ _ (ne_of h D.here (fun z => nomatch z)) h))
  · exact .inl (.inr ⟨o, e _ _ (ne_of h D.here (fun z => nomatch z)) h⟩)
  · exact .inr h
/-- for x in a new tuple, at the end -/
theorem s_forNT {xs : List V} {tl : TE} {j : Nat} (h : EvU tl σ H xs) (Pv : Hp → Nat → L2.St → Hp → Prop) (h0 : ∀ H1, Ex H H1 → Pv H1 0 σ H1) (hk : ∀ H1 i σ' H', Pv H1 i σ' H' → Ex H1 H')
    (hs : ∀ H1, Ex H H1 → ∀ i x σ' H', xs[i]? = some x → Pv H1 i σ' H' → tu { D with nx := Pv H1 (i + 1), ct := Pv H1 (i + 1), bk := D.nx } (σ'.set j (some x)) H')
    (hd : ∀ H1, Ex H H1 → ∀ σ' H', Pv H1 xs.length σ' H' → D.nx σ' H') : tFor (iTup K tl) (gName j) tu D σ H := h H (Ex.refl H) _ fun p H1 hp e1 h1 => ⟨p, rfl, ⟨xs, st_of h1⟩,
  for_tup (Pv H1) (h0 H1 e1) (fun i σ' H' _ p' => st_of (hk _ _ _ _ p' _ _ h1)) (fun i x σ' H' hx p' => hs H1 e1 i x σ' H' hx p') (hd H1 e1)⟩
end
theorem mem_cut {xs : List V} {lo hi : Option Int} {x : V} (h : x ∈ cutV xs lo hi) : x ∈ xs := List.mem_of_mem_drop (List.mem_of_mem_take h)
section
variable {P : Program} {w : World} {K : PySem.W.Frag} {mg : Str → Option Value} {base : Heap} {H H' : Hp}
def spLaw (K : PySem.W.Frag) : Sp := fun vs H Q _ => ∃ (a : Addr) (ns : List Int), vs = [.ref a] ∧ SqL K H a (ns.map V.int) ∧ ns.length ≤ 63 ∧ ∀ H', Q (.bl true) H'
theorem ok_law {f : Addr} {fd : FuncData} (F : Fun K "law" "law" sLaw f fd) (gWay : LawG P w K mg base "_law_way" 4 ["draw", "most"] (spWay K)) (gFirst : LawG P w K mg base "first_standing" 2 ["way"] (spFirst K)) (gLFirst : LawG P w K mg base "_law_first" 2 ["way"] (spFirst K))
    (gAllSt : LawG P w K mg base "all_standings" 4 ["way"] (spAllSt K)) (gReach : LawG P w K mg base "_law_reach" 3 ["way"] (spAllSt K)) (gAny : LawG P w K mg base "_law_any_standing" 3 ["draw", "way"] (spAnySt K))
    (gEnd : LawG P w K mg base "at_end" 3 ["way", "standing"] (spEnd K)) (gLEnd : LawG P w K mg base "_law_end" 2 ["way", "standing"] (spEnd K))
    (gRead : LawG P w K mg base "read" 4 ["way", "standing", "sign"] (spRead K)) (gLRead : LawG P w K mg base "_law_read" 2 ["way", "standing", "text"] (spStep K)) (mr : mg "range" = none) (ml : mg "len" = none) (ma : mg "all" = none) :
    FnOk P w K mg base CX0 5 f fd ["script"] (spLaw K) := by
  obtain ⟨fWay, dWay, GWay, kWay, bWay, mWay⟩ := gWay.ex
  obtain ⟨fFirst, dFirst, GFirst, kFirst, bFirst, mFirst⟩ := gFirst.ex
  obtain ⟨fLFirst, dLFirst, GLFirst, kLFirst, bLFirst, mLFirst⟩ := gLFirst.ex
  obtain ⟨fAllSt, dAllSt, GAllSt, kAllSt, bAllSt, mAllSt⟩ := gAllSt.ex
  obtain ⟨fReach, dReach, GReach, kReach, bReach, mReach⟩ := gReach.ex
  obtain ⟨fAny, dAny, GAny, kAny, bAny, mAny⟩ := gAny.ex
  obtain ⟨fEnd, dEnd, GEnd, kEnd, bEnd, mEnd⟩ := gEnd.ex
  obtain ⟨fLEnd, dLEnd, GLEnd, kLEnd, bLEnd, mLEnd⟩ := gLEnd.ex
  obtain ⟨fRead, dRead, GRead, kRead, bRead, mRead⟩ := gRead.ex
  obtain ⟨fLRead, dLRead, GLRead, kLRead, bLRead, mLRead⟩ := gLRead.ex
  refine F.ok scLaw (fun vs H Q E h => ?_) (fun cdv A outer s H vs Q E hr h => ?_)
  · obtain ⟨a, ns, rfl, _⟩ := h
    rfl
  · obtain ⟨a, ns, rfl, hS, hlen, q⟩ := h
    have nd := scLaw.nd
    have hu65 := hu65_of hr
    refine ⟨_, pss_cons (ps_set (i := 1) nd rfl (.inr rfl) (pe_lst (pa_cons (pv 0) (pa_cons pe_int pa_nil))))
      (pss_cons (ps_for PassesOwn.never rfl (pi_range1 (by rfl) mr (pa_cons pe_int pa_nil)) (pg_name (i := 2) nd rfl (.inl rfl))
        (pss_cons (ps_set (i := 3) nd rfl (.inr rfl) (pe_call GWay hr (by rfl) mWay kWay bWay .nil pass0 (pa_cons (pv 1) (pa_cons pe_int pa_nil))))
        (pss_cons (ps_if (pt_cmpR (op_neD hr.units) (pe_call GFirst (hr.mono (by decide)) (by rfl) mFirst kFirst bFirst .nil pass0 (pa_cons (pv 3) pa_nil)) (pe_call GLFirst (hr.mono (by decide)) (by rfl) mLFirst kLFirst bLFirst .nil pass0 (pa_cons (pv 3) pa_nil)) (nomark _)) (pss_one ps_never) pss_nil)
        (pss_cons (ps_asg (pe_tup (pa_cons (pe_call GAllSt hr (by rfl) mAllSt kAllSt bAllSt .nil pass0 (pa_cons (pv 3) pa_nil)) (pa_cons (pe_call GReach (hr.mono (by decide)) (by rfl) mReach kReach bReach .nil pass0 (pa_cons (pv 3) pa_nil)) pa_nil)))
            (pg_tup rfl (pgs_cons (pg_name (i := 4) nd rfl (.inl rfl)) (pgs_cons (pg_name (i := 5) nd rfl (.inr rfl)) pgs_nil))))
        (pss_cons (ps_if (PW.pt (pw_or (pt_cmpR op_ne (pe_callB call_len_seq (by rfl) ml PySem.boot_len (pa_cons (pv 4) pa_nil)) (pe_callB call_len_seq (by rfl) ml PySem.boot_len (pa_cons (pv 5) pa_nil)) (nomark _))
            (pw_or1 (pt_not (pt_val (pe_callB (cr_all rfl) (by rfl) ma (by decide +kernel) (pa_cons
              (pe_lc (own := [("standing", 6)]) (g := gName 6) (by rfl) nd (pi_list (pv 4)) (blkOk_by (N := nLaw) (sc := defScope sLaw) (by decide +kernel)) (fun _ _ _ _ _ => pg_name (i := 6) nd rfl (Or.inl rfl)) (fun _ _ _ _ _ => pts_nil)
                (fun _ _ _ _ _ => pe_cmpR (r := rInD K) (op_inD hu65) (pv 6) (pv 5) rfl)) pa_nil))))))) (pss_one ps_never) pss_nil)
        (pss_one (ps_for PassesOwn.never rfl (pi_list (pe_op op_cat
              (pe_lc (own := [("again", 8)]) (g := gName 8) (by rfl) nd (pi_range1 (by rfl) mr (pa_cons pe_int pa_nil)) (blkOk_by (N := nLaw) (sc := defScope sLaw) (by decide +kernel)) (fun _ _ _ _ _ => pg_name (i := 8) nd rfl (Or.inl rfl)) (fun _ _ _ _ _ => pts_nil)
                (fun _ _ _ _ _ => pe_call GAny (hr.mono (by decide)) (by rfl) mAny kAny bAny .nil pass0 (pa_cons (pv 1) (pa_cons (pv 3) pa_nil))))
              (pe_slice sl_list (pv 5) po_none (po_some pe_int)))) (pg_name (i := 6) nd rfl (.inl rfl))
          (pss_cons (ps_if (pt_cmpR op_ne (pe_call GEnd (hr.mono (by decide)) (by rfl) mEnd kEnd bEnd .nil pass0 (pa_cons (pv 3) (pa_cons (pv 6) pa_nil))) (pe_call GLEnd (hr.mono (by decide)) (by rfl) mLEnd kLEnd bLEnd .nil pass0 (pa_cons (pv 3) (pa_cons (pv 6) pa_nil))) (nomark _)) (pss_one ps_never) pss_nil)
          (pss_one (ps_for PassesOwn.never rfl (pi_tup (pe_tup (pa_cons pe_str (pa_cons pe_str (pa_cons pe_str pa_nil))))) (pg_name (i := 7) nd rfl (.inl rfl))
            (pss_one (ps_if (pt_cmpR (op_neD hr.units) (pe_call GRead hr (by rfl) mRead kRead bRead .nil pass0 (pa_cons (pv 3) (pa_cons (pv 6) (pa_cons (pv 7) pa_nil)))) (pe_call GLRead (hr.mono (by decide)) (by rfl) mLRead kLRead bLRead .nil pass0 (pa_cons (pv 3) (pa_cons (pv 6) (pa_cons (pv 7) pa_nil)))) (nomark _)) (pss_one ps_never) pss_nil))))))))))))
      (pss_one (ps_ret pe_bl))), ?_⟩
    refine q_asgL (xs := [.ref a, .int 0]) (el_lst (ea_cons (ev_var rfl) (ea_cons ev_c ea_nil)) (by simp)) fun d H1 hd e1 h1 => ?_
    have D1 : Draw K H1 d a ns 0 := ⟨h1, ex_l e1 hS, hlen⟩
    refine q_forR1 (n := 6) (ea_cons ev_c ea_nil) (by decide) (fun i σ H' => ∃ c x2 x3 x4 x5 x6 x7 x8, σ = [some (.ref a), some (.ref d), x2, x3, x4, x5, x6, x7, x8] ∧ Draw K H' d a ns c ∧ c ≤ 100 * i)
      (fun H2 e2 => ⟨0, _, _, _, _, _, _, _, rfl, D1.mono e2, Nat.zero_le _⟩) ?_ ?_
    · rintro i σ H2 hi ⟨c, x2, x3, x4, x5, x6, x7, x8, rfl, D2, hc⟩
      -- way
      refine call_raw (vs := [.ref d, .int 6]) (ea_cons (ev_var rfl) (ea_cons ev_c ea_nil)) fun H3 e3 => ⟨d, a, ns, c, 6, rfl, D2.mono e3, by omega, by decide, by decide, ?_⟩
      rintro _ H4 c4 D4 e4 l1 l2 ⟨p, ws, rfl, hp, hwi⟩
      have hw : ws.length ≤ 6 := by omega
      have l2' : c4 ≤ c + 8 := l2
      have npd := D4.neT hp
      have hP : SqT K H4 p (wayV ws) := st_of hp
      dsimp only [gName]
      -- the first standing
      refine q_when (b := false) (et_test fun H5 e5 Q5 q5 => ?_) (fun z => nomatch z) fun _ H5 e5 => ?_
      · refine call_raw (vs := [.ref p]) (ea_cons (ev_var rfl) ea_nil) fun H6 e6 => ⟨p, ws, rfl, ex_t (e5.trans e6) hP, hw, fun f1 H7 e7 hf1 => ?_⟩
        refine call_raw (vs := [.ref p]) (ea_cons (ev_var rfl) ea_nil) fun H8 e8 => ⟨p, ws, rfl, ex_t ((e5.trans e6).trans (e7.trans e8)) hP, hw, fun f2 H9 e9 hf2 => ?_⟩
        refine ⟨stD _, stD _, dp_st (ex_t (e8.trans e9) hf1), dp_st hf2, shaped_st _, shaped_st _, ?_⟩
        rw [SeqAt.eqv_refl _ (stD_lay _)]
        exact q5 H9 (e6.trans (e7.trans (e8.trans e9)))
      have D5 := D4.mono e5
      have hP5 := ex_t e5 hP
      -- both lists of standings
      refine call_raw (vs := [.ref p]) (ea_cons (ev_var rfl) ea_nil) fun H6 e6 => ⟨p, ws, rfl, ex_t e6 hP5, hw, fun v1 H7 xl e7 _ hv1 nd1 few1 hx1 mem1 => ?_⟩
      refine call_raw (vs := [.ref p]) (ea_cons (ev_var rfl) ea_nil) fun H8 e8 => ⟨p, ws, rfl, ex_t (e6.trans (e7.trans e8)) hP5, hw, fun v2 H9 dl e9 hf2n hv2 nd2 few2 hx2 mem2 => ?_⟩
      refine ⟨sz_of (n := 2) (by decide), fun t ht => ⟨t, _, rfl, st_of upd_same, rfl, _, _, rfl, _, _, rfl, rfl, ?_⟩⟩
      have e79 := (e8.trans e9).trans (Ex.new (o := .tup [.ref v1, .ref v2]) ht)
      have e9t := Ex.new (o := .tup [.ref v1, .ref v2]) ht
      have e59 := (e6.trans e7).trans e79
      generalize upd H9 t (.tup [.ref v1, .ref v2]) = H10 at e79 e9t e59 ⊢
      have D10 := D5.mono e59
      have hP10 := ex_t e59 hP5
      have hV1 : H10 v1 = some (.lst (xl.map fun x => .ref x.2)) := e79 _ _ hv1
      have hV2 : H10 v2 = some (.lst (dl.map fun x => .ref x.2)) := e9t _ _ hv2
      have hX1 : ∀ x ∈ xl, SqT K H10 x.2 (stV x.1) := fun x hx => ex_t e79 (hx1 x hx)
      have hX2 : ∀ x ∈ dl, SqT K H10 x.2 (stV x.1) := fun x hx => ex_t e9t (hx2 x hx)
      have same : xl.length = dl.length := by
        have := nodup_same nd1 nd2 fun k => (mem1 k).trans (mem2 k).symm
        rw [List.length_map, List.length_map] at this
        exact this
      dsimp only [gName]
      refine q_when (b := false) (et_is (et_or (a := false) (b := false) (et_test ?_) (fun _ => et_not (a := true) (et_B (ev_all (n := (xl.map fun x => V.ref x.2).length) ?_)))) rfl) (fun z => nomatch z) fun _ H11 e11 => ?_
      · have z := ev_op (σ := [some (.ref a), some (.ref d), some (.int (i : Int)), some (.ref p), some (.ref v1), some (.ref v2), x6, x7, x8]) (ev_cb (ea_cons (ev_var (i := 4) rfl) ea_nil) (rc_len (K := K) (.inl (sq_of hV1)))) (ev_cb (ea_cons (ev_var (i := 5) rfl) ea_nil) (rc_len (K := K) (.inl (sq_of hV2)))) (rv_ne rfl)
        rw [List.length_map, List.length_map, same] at z
        refine ev_is z ?_
        rw [decide_eq_true rfl]
        rfl
      · refine el_lcL (K := K) (vs := [6]) (fun _ => true) (fun _ => V.bl true) (ev_var rfl) (sq_of hV1) (by rw [List.length_map]; omega) (fun _ => rfl) (fun _ _ _ _ _ => et_yes) (fun j x H12 e12 hx _ => ?_)
        obtain ⟨y, hy, rfl⟩ := List.mem_map.mp (List.mem_of_getElem? hx)
        refine ev_op (ev_var rfl) (ev_var rfl) fun H13 e13 Q13 q13 => ?_
        have e1013 := e12.trans e13
        have sh := shaped_sts (dl.map (·.1))
        rw [List.map_map] at sh
        refine ⟨stD y.1, _, dp_st (ex_t e1013 (hX1 y hy)), .lst (sq_of (e1013 _ _ hV2)) (dp_sts dl fun x hx => ex_t e1013 (hX2 x hx)), shaped_st _, sh, ?_⟩
        have hin : (dl.map fun (x : List Bool × Addr) => stD x.1).any (fun z => PyData.eqv z (stD y.1)) = true := by
          obtain ⟨y2, hy2, he⟩ := List.mem_map.mp ((mem2 y.1).mpr ((mem1 y.1).mp (List.mem_map_of_mem hy)))
          refine List.any_eq_true.mpr ⟨stD y2.1, List.mem_map_of_mem (f := fun (x : List Bool × Addr) => stD x.1) hy2, ?_⟩
          rw [he]
          exact SeqAt.eqv_refl _ (stD_lay _)
        rw [hin]
        exact q13 H13 (Ex.refl _)
      have nv2 : v2 ≠ d := (ne_of_none (D5.mono (e6.trans (e7.trans e8))).here hf2n).symm
      have D11 := D10.mono e11
      have hP11 := ex_t e11 hP10
      have hV2 := e11 _ _ hV2
      have hX2 : ∀ x ∈ dl, SqT K H11 x.2 (stV x.1) := fun x hx => ex_t e11 (hX2 x hx)
      -- the drawn standings, the first ones that come about
      refine ⟨4, rfl, by decide, by decide, fun Dl hD => ?_⟩
      have ndl : Dl ≠ d := (ne_of_none D11.here hD).symm
      refine lc_range (lo := 0) (n := 4) (fun j H' => ∃ (wl : List (List Bool × Addr)) (c' : Nat), Draw K H' d a ns c' ∧ ExB d H11 H' ∧ c4 ≤ c' ∧ c' ≤ c4 + 6 * j ∧ H' Dl = some (.lst (wl.map fun x => .ref x.2)) ∧ wl.length = j ∧ (∀ x ∈ wl, SqT K H' x.2 (stV x.1) ∧ stOk ws x.1)) ?_ ?_ ?_
      · exact ⟨[], c4, D11.step (.new hD) (by rw [upd_ne ndl.symm]; exact D11.here), .new hD, Nat.le_refl _, Nat.le_refl _, upd_same, rfl, fun x h => nomatch h⟩
      · rintro j H12 hj ⟨wl, c', D12, e12, m1, m2, hl, hn, hwl⟩
        refine ⟨rfl, ?_⟩
        simp only [tYes, if_true]
        refine call_raw (vs := [.ref d, .ref p]) (ea_cons (ev_var rfl) (ea_cons (ev_var rfl) ea_nil)) fun H13 e13 => ⟨d, a, p, ns, c', ws, rfl, D12.mono e13, by omega, npd, ex_t e13 (e12.sqt npd hP11), hw, ?_⟩
        rintro _ H14 c14 D14 e14 m3 m4 ⟨q2, st, rfl, hq2, ok⟩
        have e1214 : ExB d H12 H14 := (ExB.of e13).trans e14
        have hl14 : H14 Dl = some (.lst (wl.map fun x => .ref x.2)) := e1214 _ _ ndl hl
        have kp : ∀ {q : Addr} {ys : List V} {o : HO}, SqT K H14 q ys → SqT K (upd H14 Dl o) q ys := fun h => sqt_upd h (fun _ e => by rw [hl14] at e; cases e) (fun _ _ e => by rw [hl14] at e; cases e)
        refine ⟨_, hl14, sz_lt (by rw [List.length_map]; omega), wl ++ [(st, q2)], c14, ⟨by rw [upd_ne ndl.symm]; exact D14.here, D11.keep ((e12.trans e1214).mut hD), D14.len⟩, (e12.trans e1214).mut hD, by omega, by omega, by rw [upd_same]; simp, by simp [hn], fun x hx => ?_⟩
        rcases List.mem_append.mp hx with h | h
        · exact ⟨kp (sqt_keep D12 e1214 (hwl x h).1), (hwl x h).2⟩
        · rw [List.mem_singleton.mp h]
          exact ⟨kp (st_of hq2), ok⟩
      · rintro H12 ⟨wl, c', D12, e12, m1, m2, hl, hn, hwl⟩
        refine el_sl (K := K) (σ := [some (.ref a), some (.ref d), some (.int (i : Int)), some (.ref p), some (.ref v1), some (.ref v2), x6, x7, x8]) (ev_var (i := 5) rfl) eo_none (eo_some ev_c) (sq_of (e12 _ _ nv2 hV2)) H12 (Ex.refl _) _ fun q5 H13 _ e13 hq5 => ?_
        have hcl := cutV_length (dl.map fun x => V.ref x.2) none (some 6)
        rw [List.length_map] at hcl
        refine ⟨Dl, q5, _, _, rfl, rfl, e13 _ _ hl, hq5, sz_of (by rw [List.length_map]; omega), fun L0 hL0 => ?_⟩
        refine ⟨L0, rfl, ⟨_, sq_of upd_same⟩, ?_⟩
        have e14 := Ex.new (o := .lst ((wl.map fun x => V.ref x.2) ++ cutV (dl.map fun x => V.ref x.2) none (some 6))) hL0
        have hL : upd H13 L0 (.lst ((wl.map fun x => V.ref x.2) ++ cutV (dl.map fun x => V.ref x.2) none (some 6))) L0 = some (.lst ((wl.map fun x => V.ref x.2) ++ cutV (dl.map fun x => V.ref x.2) none (some 6))) := upd_same
        generalize upd H13 L0 (.lst ((wl.map fun x => V.ref x.2) ++ cutV (dl.map fun x => V.ref x.2) none (some 6))) = H14 at e14 hL ⊢
        have e1214 := e13.trans e14
        have D14 := D12.mono e1214
        have hP14 : SqT K H14 p (wayV ws) := ex_t e1214 (e12.sqt npd hP11)
        have all : ∀ x ∈ (wl.map fun x => V.ref x.2) ++ cutV (dl.map fun x => V.ref x.2) none (some 6), ∃ (q : Addr) (st : List Bool), x = .ref q ∧ SqT K H14 q (stV st) ∧ stOk ws st := by
          intro x hx
          rcases List.mem_append.mp hx with h | h
          · obtain ⟨y, hy, rfl⟩ := List.mem_map.mp h
            exact ⟨y.2, y.1, rfl, ex_t e1214 (hwl y hy).1, (hwl y hy).2⟩
          · obtain ⟨y, hy, rfl⟩ := List.mem_map.mp (mem_cut h)
            exact ⟨y.2, y.1, rfl, ex_t e1214 (sqt_keep D11 e12 (hX2 y hy)), ((mem2 y.1).mp (List.mem_map_of_mem hy)).ok⟩
        refine for_list (fun _ σ H' => ∃ y6 y7, σ = [some (.ref a), some (.ref d), some (.int (i : Int)), some (.ref p), some (.ref v1), some (.ref v2), y6, y7, x8] ∧ Ex H14 H') ⟨_, _, rfl, Ex.refl _⟩ (fun _ σ' H' _ ⟨_, _, _, e⟩ => sq_of (e _ _ hL)) ?_ ?_
        · rintro j x σ' H15 hx ⟨y6, y7, rfl, e15⟩
          obtain ⟨q, st, rfl, hq, ok⟩ := all x (List.mem_of_getElem? hx)
          dsimp only [gName]
          refine q_when (b := false) (et_test fun H16 e16 Q16 q16 => ?_) (fun z => nomatch z) fun _ H16 e16 => ?_
          · refine call_raw (vs := [.ref p, .ref q]) (ea_cons (ev_var rfl) (ea_cons (ev_var rfl) ea_nil)) fun H17 e17 => ⟨p, q, ws, st, rfl, ex_t (e15.trans (e16.trans e17)) hP14, ex_t (e15.trans (e16.trans e17)) hq, ok, hw, fun H18 e18 => ?_⟩
            refine call_raw (vs := [.ref p, .ref q]) (ea_cons (ev_var rfl) (ea_cons (ev_var rfl) ea_nil)) fun H19 e19 => ⟨p, q, ws, st, rfl, ex_t ((e15.trans (e16.trans e17)).trans (e18.trans e19)) hP14, ex_t ((e15.trans (e16.trans e17)).trans (e18.trans e19)) hq, ok, hw, fun H20 e20 => ⟨rfl, ?_⟩⟩
            rw [decide_eq_true rfl]
            exact q16 H20 (e17.trans (e18.trans (e19.trans e20)))
          · refine s_forNT (xs := [.str "a", .str "n", .str "r"]) (eu_tup (ea_cons ev_c (ea_cons ev_c (ea_cons ev_c ea_nil))) (by simp)) (fun H1 j σ H' => ∃ y7, σ = [some (.ref a), some (.ref d), some (.int (i : Int)), some (.ref p), some (.ref v1), some (.ref v2), some (.ref q), y7, x8] ∧ Ex H1 H') (fun H17 e17 => ⟨_, rfl, Ex.refl _⟩) (fun _ _ _ _ ⟨_, _, z⟩ => z) ?_ ?_
            · rintro H17 e17 j2 x σ H18 hx ⟨y7, rfl, e18⟩
              obtain ⟨g, _, rfl⟩ := sig_get hx
              have e1418 := e15.trans (e16.trans (e17.trans e18))
              refine s_when (b := false) (et_test fun H19 e19 Q19 q19 => ?_) (fun z => nomatch z) fun _ H19 e19 => ⟨_, rfl, e18.trans e19⟩
              refine call_raw (vs := [.ref p, .ref q, .str (sg g)]) (ea_cons (ev_var rfl) (ea_cons (ev_var rfl) (ea_cons (ev_var rfl) ea_nil))) fun H20 e20 => ⟨p, q, ws, st, g, rfl, ex_t (e1418.trans (e19.trans e20)) hP14, ex_t (e1418.trans (e19.trans e20)) hq, ok, hw, fun p1 r1 H21 e21 g1 g2 => ?_⟩
              refine call_raw (vs := [.ref p, .ref q, .str (sg g)]) (ea_cons (ev_var rfl) (ea_cons (ev_var rfl) (ea_cons (ev_var rfl) ea_nil))) fun H22 e22 => ⟨p, q, ws, st, [g], rfl, ex_t ((e1418.trans (e19.trans e20)).trans (e21.trans e22)) hP14, ex_t ((e1418.trans (e19.trans e20)).trans (e21.trans e22)) hq, ok.len, ?_, by omega, fun p2 r2 H23 e23 g3 g4 => ?_⟩
              · have hp6 : 2 ^ ws.length ≤ 2 ^ 6 := Nat.pow_le_pow_right (by decide) hw
                show 1 * 2 ^ ws.length ≤ 50000
                omega
              · refine ⟨prD _ _, prD _ _, dp_pr ((e22.trans e23) _ _ g1) ((e22.trans e23) _ _ g2), dp_pr g3 g4, shaped_pr _ _, shaped_pr _ _, ?_⟩
                rw [SeqAt.eqv_refl _ (prD_lay _ _)]
                exact q19 H23 (e20.trans (e21.trans (e22.trans e23)))
            · rintro H17 e17 σ H18 ⟨y7, rfl, e18⟩
              exact ⟨_, _, rfl, e15.trans (e16.trans (e17.trans e18))⟩
        · rintro σ' H15 ⟨y6, y7, rfl, e15⟩
          exact ⟨c', _, _, _, _, _, _, _, rfl, D14.mono e15, by omega⟩
    · rintro σ H2 ⟨c, x2, x3, x4, x5, x6, x7, x8, rfl, D2, hc⟩
      exact s_ret ev_c fun H4 e4 => q H4
end
end Tu
namespace Tu
open PySem PySem.Spec PyProof.Rows L2 Evl RZ
/-! ### what the top has written -/
structure FnK (K : PySem.W.Frag) (x : Str) (st : Stmt) : Prop where
  ex : ∃ (f : Addr) (oc : Value) (od : Option Addr) (kV doc pm : Value) (an : Option Addr) (cdv ct : Value) (osl : Array (Option Value)), PySem.W.nsIn K mainGlobals x = some (some (.ref f)) ∧
    K.lookup f = some ⟨oc, od, .func (PySem.W.fnOf x x (defArgs st) (defBody st) (defScope st) .none kV doc pm an cdv ct), osl⟩ ∧ PySem.W.codeIn K cdv x = true ∧ PySem.W.keepIn K (.ref f) = true
theorem FnK.go {K : PySem.W.Frag} {x : Str} {st : Stmt} {h : Heap} {mg : Str → Option Value} (F : FnK K x st) (X : K.In h) (G : h.Ns mainGlobals mg) : ∃ f fd, Fun K x x st f fd ∧ mg x = some (.ref f) := by
  obtain ⟨f, oc, od, kV, doc, pm, an, cdv, ct, osl, a, l, c, k⟩ := F.ex
  exact ⟨f, _, fun_mk l c k, PySem.W.mg_of X G a⟩
theorem fnK {K : PySem.W.Frag} {x : Str} {st : Stmt} {f : Addr} {oc : Value} {od : Option Addr} {kV doc pm : Value} {an : Option Addr} {cdv ct : Value} {osl : Array (Option Value)} (a : PySem.W.nsIn K mainGlobals x = some (some (.ref f)))
    (l : K.lookup f = some ⟨oc, od, .func (PySem.W.fnOf x x (defArgs st) (defBody st) (defScope st) .none kV doc pm an cdv ct), osl⟩) (c : PySem.W.codeIn K cdv x = true) (k : PySem.W.keepIn K (.ref f) = true) : FnK K x st := ⟨f, oc, od, kV, doc, pm, an, cdv, ct, osl, a, l, c, k⟩
theorem sqt_of {K : PySem.W.Frag} {a : Addr} {dd : Option Addr} {its : Array Value} {n : Nat} {sl : Array (Option Value)} {xs : List V} (l : K.lookup a = some ⟨.type "tuple", dd, .seq its n, sl⟩) (hz : its.size ≤ 100) (r : Vals xs its.toList) (H : Hp) : SqT K H a xs :=
  .inr ⟨_, its, n, l, rfl, rfl, sz_of (by omega), r⟩
theorem law_g {P : Program} {w : World} {K : PySem.W.Frag} {mg : Str → Option Value} {base : Heap} {x : Str} {st : Stmt} {f : Addr} {fd : FuncData} {k : Nat} {ps : List Str} {sp : Sp} (F : Fun K x x st f fd) (m : mg x = some (.ref f)) (G : FnOk P w K mg base CX0 k f fd ps sp) (b : Binds K fd ps []) : LawG P w K mg base x k ps sp :=
  ⟨f, fd, G, F.kp, b, m⟩
/-- a dict of the module -/
structure DictK (K : PySem.W.Frag) (w : World) (a : Addr) : Prop where
  ex : ∃ es n, K.lookup a = some ⟨.type "dict", none, .dict es n, #[]⟩ ∧ PySem.W.KeysLit w.params es.toList ∧ (a == sysModules) = false
theorem dictK {K : PySem.W.Frag} {w : World} {a : Addr} {es : Array DictEntry} {n : Nat} (l : K.lookup a = some ⟨.type "dict", none, .dict es n, #[]⟩) (k : PySem.W.KeysLit w.params es.toList) (o : (a == sysModules) = false) : DictK K w a := ⟨es, n, l, k, o⟩
theorem DictK.kin {K : PySem.W.Frag} {w : World} {a : Addr} {x : Str} {r : Option Value} {b : Bool} (D : DictK K w a) (e : PySem.W.nsIn K a x = some r) (h : r.isSome = b) : KIn K w a x b := by
  obtain ⟨es, n, l, k, o⟩ := D.ex
  exact ⟨es, n, r, l, k, o, e, h⟩
theorem DictK.get {K : PySem.W.Frag} {w : World} {a : Addr} {x : Str} {u : Value} {v : V} (D : DictK K w a) (e : PySem.W.nsIn K a x = some (some u)) (r : RelV v u) : KDct K w a x v := by
  obtain ⟨es, n, l, k, o⟩ := D.ex
  exact ⟨es, n, u, l, k, e, r⟩
/-- a written pair of texts -/
structure PairK (K : PySem.W.Frag) (p : Addr) (y z : Str) : Prop where
  ex : ∃ (dd : Option Addr) (t u : Tok) (n : Nat) (sl : Array (Option Value)), K.lookup p = some ⟨.type "tuple", dd, .seq #[.str y t, .str z u] n, sl⟩ ∧ t ≠ 0 ∧ u ≠ 0 ∧ t ≠ u
theorem pairK {K : PySem.W.Frag} {p : Addr} {y z : Str} {dd : Option Addr} {t u : Tok} {n : Nat} {sl : Array (Option Value)} (l : K.lookup p = some ⟨.type "tuple", dd, .seq #[.str y t, .str z u] n, sl⟩) (a : t ≠ 0) (b : u ≠ 0) (c : t ≠ u) : PairK K p y z := ⟨dd, t, u, n, sl, l, a, b, c⟩
theorem PairK.sq {K : PySem.W.Frag} {p : Addr} {y z : Str} (h : PairK K p y z) (H : Hp) : SqT K H p [.str y, .str z] := by
  obtain ⟨dd, t, u, n, sl, l, _⟩ := h.ex
  exact sqt_of (xs := [.str y, .str z]) l (show (2 : Nat) ≤ 100 by decide) (.cons ⟨t, rfl⟩ (.cons ⟨u, rfl⟩ .nil)) H
/-- a written tuple of objects -/
def RefsK (K : PySem.W.Frag) (a : Addr) (ps : List Addr) : Prop := ∃ (dd : Option Addr) (n : Nat) (sl : Array (Option Value)), K.lookup a = some ⟨.type "tuple", dd, .seq (ps.map Value.ref).toArray n, sl⟩ ∧ ps.length ≤ 100
theorem refsK1 {K : PySem.W.Frag} {a p1 : Addr} {dd : Option Addr} {n : Nat} {sl : Array (Option Value)} (l : K.lookup a = some ⟨.type "tuple", dd, .seq #[.ref p1] n, sl⟩) : RefsK K a [p1] := ⟨dd, n, sl, l, by simp⟩
theorem refsK2 {K : PySem.W.Frag} {a p1 p2 : Addr} {dd : Option Addr} {n : Nat} {sl : Array (Option Value)} (l : K.lookup a = some ⟨.type "tuple", dd, .seq #[.ref p1, .ref p2] n, sl⟩) : RefsK K a [p1, p2] := ⟨dd, n, sl, l, by simp⟩
theorem refsK3 {K : PySem.W.Frag} {a p1 p2 p3 : Addr} {dd : Option Addr} {n : Nat} {sl : Array (Option Value)} (l : K.lookup a = some ⟨.type "tuple", dd, .seq #[.ref p1, .ref p2, .ref p3] n, sl⟩) : RefsK K a [p1, p2, p3] := ⟨dd, n, sl, l, by simp⟩
theorem RefsK.sq {K : PySem.W.Frag} {a : Addr} {ps : List Addr} (h : RefsK K a ps) (H : Hp) : SqT K H a (ps.map V.ref) := by
  obtain ⟨dd, n, sl, l, z⟩ := h
  refine sqt_of l (by rw [List.size_toArray, List.length_map]; exact z) ?_ H
  clear l z
  induction ps with
  | nil => exact .nil
  | cons p ps ih => exact .cons rfl ih
/-- a written tuple of texts -/
def StrsK (K : PySem.W.Frag) (a : Addr) (us : List (Str × Tok)) : Prop := ∃ (dd : Option Addr) (n : Nat) (sl : Array (Option Value)), K.lookup a = some ⟨.type "tuple", dd, .seq (us.map fun u => Value.str u.1 u.2).toArray n, sl⟩ ∧ us.length ≤ 100
theorem strsK3 {K : PySem.W.Frag} {a : Addr} {x0 x1 x2 : Str} {t0 t1 t2 : Tok} {dd : Option Addr} {n : Nat} {sl : Array (Option Value)} (l : K.lookup a = some ⟨.type "tuple", dd, .seq #[.str x0 t0, .str x1 t1, .str x2 t2] n, sl⟩) : StrsK K a [(x0, t0), (x1, t1), (x2, t2)] := ⟨dd, n, sl, l, by simp⟩
theorem strsK4 {K : PySem.W.Frag} {a : Addr} {x0 x1 x2 x3 : Str} {t0 t1 t2 t3 : Tok} {dd : Option Addr} {n : Nat} {sl : Array (Option Value)} (l : K.lookup a = some ⟨.type "tuple", dd, .seq #[.str x0 t0, .str x1 t1, .str x2 t2, .str x3 t3] n, sl⟩) : StrsK K a [(x0, t0), (x1, t1), (x2, t2), (x3, t3)] := ⟨dd, n, sl, l, by simp⟩
theorem strsK6 {K : PySem.W.Frag} {a : Addr} {x0 x1 x2 x3 x4 x5 : Str} {t0 t1 t2 t3 t4 t5 : Tok} {dd : Option Addr} {n : Nat} {sl : Array (Option Value)} (l : K.lookup a = some ⟨.type "tuple", dd, .seq #[.str x0 t0, .str x1 t1, .str x2 t2, .str x3 t3, .str x4 t4, .str x5 t5] n, sl⟩) : StrsK K a [(x0, t0), (x1, t1), (x2, t2), (x3, t3), (x4, t4), (x5, t5)] := ⟨dd, n, sl, l, by simp⟩
theorem StrsK.sq {K : PySem.W.Frag} {a : Addr} {us : List (Str × Tok)} (h : StrsK K a us) (H : Hp) : SqT K H a (us.map fun u => V.str u.1) := by
  obtain ⟨dd, n, sl, l, z⟩ := h
  refine sqt_of l (by rw [List.size_toArray, List.length_map]; exact z) ?_ H
  clear l z
  induction us with
  | nil => exact .nil
  | cons u us ih => exact .cons ⟨_, rfl⟩ ih
theorem all_mk {l : PySem.W.OpenLaw} {w : World} {K : PySem.W.Frag} {h : Heap} {mg : Str → Option Value} {fa aS aC aP aH h1 h2 h3 : Addr} {s1 s2 s3 c1 c2 c3 c4 c5 c6 t6 p1 p2 : Tok} (X : K.In h) (G : h.Ns mainGlobals mg) (hfa : mg "law" = some (.ref fa))
    (f0 : FnK K "check_way" sChkWay)
    (f1 : FnK K "check_standing" sChkSt)
    (f2 : FnK K "_read_one" sOne)
    (f3 : FnK K "_read_all" sAll)
    (f4 : FnK K "step" sStep)
    (f5 : FnK K "first_standing" sFirst)
    (f6 : FnK K "read" sRead)
    (f7 : FnK K "at_end" sEnd)
    (f8 : FnK K "all_standings" sAllSt)
    (f9 : FnK K "_law_number" sNum)
    (f10 : FnK K "_law_take" sTake)
    (f11 : FnK K "_law_pick" sPick)
    (f12 : FnK K "_law_way" sWay)
    (f13 : FnK K "_law_sign" sLSign)
    (f14 : FnK K "_law_read" sLRead)
    (f15 : FnK K "_law_end" sLEnd)
    (f16 : FnK K "_law_first" sLFirst)
    (f17 : FnK K "_law_any_standing" sAny)
    (f18 : FnK K "_law_reach" sReach)
    (f19 : FnK K "law" sLaw)
    (gS : PySem.W.nsIn K mainGlobals "SIGNS" = some (some (.ref aS)))
    (lS : StrsK K aS [("a", s1), ("n", s2), ("r", s3)])
    (gC : PySem.W.nsIn K mainGlobals "CONVERSIONS" = some (some (.ref aC)))
    (lC : StrsK K aC [("all", c1), ("both", c2), ("care", c3), ("lone", c4), ("lones", c5), ("pairs", c6)])
    (g6 : PySem.W.nsIn K mainGlobals "LONGEST" = some (some (.int 6 t6)))
    (gP : PySem.W.nsIn K mainGlobals "_PLAIN" = some (some (.ref aP)))
    (dP : DictK K w aP)
    (p_all : PySem.W.nsIn K aP "all" = some (some (.str "rn" p1)))
    (p_both : PySem.W.nsIn K aP "both" = some (none))
    (p_care : PySem.W.nsIn K aP "care" = some (none))
    (p_lone : PySem.W.nsIn K aP "lone" = some (some (.str "r" p2)))
    (p_lones : PySem.W.nsIn K aP "lones" = some (none))
    (p_pairs : PySem.W.nsIn K aP "pairs" = some (none))
    (gH : PySem.W.nsIn K mainGlobals "_HELD" = some (some (.ref aH)))
    (dH : DictK K w aH)
    (h_all : PySem.W.nsIn K aH "all" = some (none))
    (h_both : PySem.W.nsIn K aH "both" = some (some (.ref h1)))
    (h_care : PySem.W.nsIn K aH "care" = some (none))
    (h_lone : PySem.W.nsIn K aH "lone" = some (none))
    (h_lones : PySem.W.nsIn K aH "lones" = some (some (.ref h2)))
    (h_pairs : PySem.W.nsIn K aH "pairs" = some (some (.ref h3)))
    (q_h1 : PairK K h1 "" "n")
    (q_h2 : PairK K h2 "r" "n")
    (q_h3 : PairK K h3 "" "r")
    (z_isinstance : PySem.W.nsIn K mainGlobals "isinstance" = some none)
    (z_str : PySem.W.nsIn K mainGlobals "str" = some none)
    (z_all : PySem.W.nsIn K mainGlobals "all" = some none)
    (z_tuple : PySem.W.nsIn K mainGlobals "tuple" = some none)
    (z_len : PySem.W.nsIn K mainGlobals "len" = some none)
    (z_bool : PySem.W.nsIn K mainGlobals "bool" = some none)
    (z_zip : PySem.W.nsIn K mainGlobals "zip" = some none)
    (z_int : PySem.W.nsIn K mainGlobals "int" = some none)
    (z_sum : PySem.W.nsIn K mainGlobals "sum" = some none)
    (z_range : PySem.W.nsIn K mainGlobals "range" = some none)
    (z_list : PySem.W.nsIn K mainGlobals "list" = some none) :
    ∃ fd : FuncData, (∀ (s : Shared) (v : Value), BindsTo s fd ⟨[v], []⟩ [("script", v)]) ∧ ∀ base : Heap, K.In base → base.Ns mainGlobals mg → FnOk l.prog w K mg base CX0 5 fa fd ["script"] (spLaw K) := by
  obtain ⟨a0, d0, F0, m0⟩ := f0.go X G
  obtain ⟨a1, d1, F1, m1⟩ := f1.go X G
  obtain ⟨a2, d2, F2, m2⟩ := f2.go X G
  obtain ⟨a3, d3, F3, m3⟩ := f3.go X G
  obtain ⟨a4, d4, F4, m4⟩ := f4.go X G
  obtain ⟨a5, d5, F5, m5⟩ := f5.go X G
  obtain ⟨a6, d6, F6, m6⟩ := f6.go X G
  obtain ⟨a7, d7, F7, m7⟩ := f7.go X G
  obtain ⟨a8, d8, F8, m8⟩ := f8.go X G
  obtain ⟨a9, d9, F9, m9⟩ := f9.go X G
  obtain ⟨a10, d10, F10, m10⟩ := f10.go X G
  obtain ⟨a11, d11, F11, m11⟩ := f11.go X G
  obtain ⟨a12, d12, F12, m12⟩ := f12.go X G
  obtain ⟨a13, d13, F13, m13⟩ := f13.go X G
  obtain ⟨a14, d14, F14, m14⟩ := f14.go X G
  obtain ⟨a15, d15, F15, m15⟩ := f15.go X G
  obtain ⟨a16, d16, F16, m16⟩ := f16.go X G
  obtain ⟨a17, d17, F17, m17⟩ := f17.go X G
  obtain ⟨a18, d18, F18, m18⟩ := f18.go X G
  obtain ⟨fl, ocl, odl, kVl, docl, pml, anl, cdl, ctl, osl, al, ll, cl, kl⟩ := f19.ex
  have el := hfa.symm.trans (PySem.W.mg_of X G al)
  cases el
  have FL := fun_mk (st := sLaw) ll cl kl
  have n_isinstance := PySem.W.mg_none_of X G z_isinstance
  have n_str := PySem.W.mg_none_of X G z_str
  have n_all := PySem.W.mg_none_of X G z_all
  have n_tuple := PySem.W.mg_none_of X G z_tuple
  have n_len := PySem.W.mg_none_of X G z_len
  have n_bool := PySem.W.mg_none_of X G z_bool
  have n_zip := PySem.W.mg_none_of X G z_zip
  have n_int := PySem.W.mg_none_of X G z_int
  have n_sum := PySem.W.mg_none_of X G z_sum
  have n_range := PySem.W.mg_none_of X G z_range
  have n_list := PySem.W.mg_none_of X G z_list
  have MS := PySem.W.mg_of X G gS
  have MC := PySem.W.mg_of X G gC
  have M6 := PySem.W.mg_of X G g6
  have MP := PySem.W.mg_of X G gP
  have MH := PySem.W.mg_of X G gH
  have tS : ∀ H, SqT K H aS [.str "a", .str "n", .str "r"] := lS.sq
  have tC : ∀ H, SqT K H aC (wayV allCv) := lC.sq
  have tP : ∀ c : Cv, KIn K w aP c.s (plain c) := fun c => by
    cases c
    · exact dP.kin p_all rfl
    · exact dP.kin p_both rfl
    · exact dP.kin p_care rfl
    · exact dP.kin p_lone rfl
    · exact dP.kin p_lones rfl
    · exact dP.kin p_pairs rfl
  have iP : ∀ c : Cv, plain c = true → KDct K w aP c.s (.str (txt (plainN c))) := fun c hc => by
    cases c
    · exact dP.get p_all ⟨_, rfl⟩
    · cases hc
    · cases hc
    · exact dP.get p_lone ⟨_, rfl⟩
    · cases hc
    · cases hc
  have tH : ∀ c : Cv, KIn K w aH c.s (holds c) := fun c => by
    cases c
    · exact dH.kin h_all rfl
    · exact dH.kin h_both rfl
    · exact dH.kin h_care rfl
    · exact dH.kin h_lone rfl
    · exact dH.kin h_lones rfl
    · exact dH.kin h_pairs rfl
  have iH : ∀ c : Cv, holds c = true → ∃ t, KDct K w aH c.s (.ref t) ∧ ∀ H, SqT K H t [.str (txt (heldN c)), .str (txt (heldE c))] := fun c hc => by
    cases c
    · cases hc
    · exact ⟨_, dH.get h_both rfl, q_h1.sq⟩
    · cases hc
    · cases hc
    · exact ⟨_, dH.get h_lones rfl, q_h2.sq⟩
    · exact ⟨_, dH.get h_pairs rfl, q_h3.sq⟩
  have b0 := F0.binds (ps := ["way"]) fun _ _ _ _ _ _ us hl => match us, hl with | [_], _ => rfl
  have b1 := F1.binds (ps := ["way", "standing"]) fun _ _ _ _ _ _ us hl => match us, hl with | [_, _], _ => rfl
  have b2 := F2.binds (ps := ["word", "flag", "sign"]) fun _ _ _ _ _ _ us hl => match us, hl with | [_, _, _], _ => rfl
  have b3 := F3.binds (ps := ["word", "flag", "text"]) fun _ _ _ _ _ _ us hl => match us, hl with | [_, _, _], _ => rfl
  have b4 := F4.binds (ps := ["way", "standing", "sign"]) fun _ _ _ _ _ _ us hl => match us, hl with | [_, _, _], _ => rfl
  have b5 := F5.binds (ps := ["way"]) fun _ _ _ _ _ _ us hl => match us, hl with | [_], _ => rfl
  have b6 := F6.binds (ps := ["way", "standing", "sign"]) fun _ _ _ _ _ _ us hl => match us, hl with | [_, _, _], _ => rfl
  have b7 := F7.binds (ps := ["way", "standing"]) fun _ _ _ _ _ _ us hl => match us, hl with | [_, _], _ => rfl
  have b8 := F8.binds (ps := ["way"]) fun _ _ _ _ _ _ us hl => match us, hl with | [_], _ => rfl
  have b9 := F9.binds (ps := ["script", "index"]) fun _ _ _ _ _ _ us hl => match us, hl with | [_, _], _ => rfl
  have b10 := F10.binds (ps := ["draw", "many"]) fun _ _ _ _ _ _ us hl => match us, hl with | [_, _], _ => rfl
  have b11 := F11.binds (ps := ["draw", "things"]) fun _ _ _ _ _ _ us hl => match us, hl with | [_, _], _ => rfl
  have b12 := F12.binds (ps := ["draw", "most"]) fun _ _ _ _ _ _ us hl => match us, hl with | [_, _], _ => rfl
  have b13 := F13.binds (ps := ["word", "is_held", "sign"]) fun _ _ _ _ _ _ us hl => match us, hl with | [_, _, _], _ => rfl
  have b14 := F14.binds (ps := ["way", "standing", "text"]) fun _ _ _ _ _ _ us hl => match us, hl with | [_, _, _], _ => rfl
  have b15 := F15.binds (ps := ["way", "standing"]) fun _ _ _ _ _ _ us hl => match us, hl with | [_, _], _ => rfl
  have b16 := F16.binds (ps := ["way"]) fun _ _ _ _ _ _ us hl => match us, hl with | [_], _ => rfl
  have b17 := F17.binds (ps := ["draw", "way"]) fun _ _ _ _ _ _ us hl => match us, hl with | [_, _], _ => rfl
  have b18 := F18.binds (ps := ["way"]) fun _ _ _ _ _ _ us hl => match us, hl with | [_], _ => rfl
  refine ⟨PySem.W.fnOf "law" "law" (defArgs sLaw) (defBody sLaw) (defScope sLaw) .none kVl docl pml anl cdl ctl, fun s v => .of_eq rfl, fun base _ _ => ?_⟩
  have G0 := fun k => ok_chkWay (P := l.prog) (w := w) (base := base) (k := k) F0 n_isinstance n_str n_all n_tuple n_len M6 MC tC
  have G1 := fun k => ok_chkSt (P := l.prog) (w := w) (base := base) (k := k) F1 n_isinstance n_tuple n_len n_zip n_bool MP tP
  have G2 := ok_one (P := l.prog) (w := w) (base := base) (k := 0) F2 MP tP iP MH iH
  have G3 := ok_all F3 G2 F2.kp b2 m2
  have G4 := ok_step F4 G3 F3.kp b3 m3 n_zip n_tuple
  have G5 := ok_first F5 (G0 0) F0.kp b0 m0 n_len
  have G6 := ok_read F6 (G0 0) F0.kp b0 m0 (G1 0) F1.kp b1 m1 G4 F4.kp b4 m4 n_isinstance n_str MS tS
  have G7 := ok_end F7 (G0 0) F0.kp b0 m0 (G1 0) F1.kp b1 m1 G3 F3.kp b3 m3 n_zip MH tH iH
  have GN := fun k => ok_num (P := l.prog) (w := w) (base := base) (k := k) F9 n_int n_len n_sum
  have GT := fun k => ok_take F10 (GN k) F9.kp b9 m9 n_int
  have GP := ok_pick F11 (GT 0) F10.kp b10 m10 n_len
  have GW := ok_way F12 (GT 1) F10.kp b10 m10 GP F11.kp b11 m11 n_tuple n_range
  have GA := ok_allSt F8 G5 F5.kp b5 m5 G4 F4.kp b4 m4 n_list MS tS
  have GLS := ok_lsign (P := l.prog) (w := w) (mg := mg) (base := base) (k := 0) F13
  have GLR := ok_lread F14 GLS F13.kp b13 m13 n_zip n_tuple
  have GLE := ok_lend F15 GLS F13.kp b13 m13 n_zip
  have GLF := ok_lfirst (P := l.prog) (w := w) (base := base) (k := 1) F16 n_len
  have GRC := ok_reach F18 GLF F16.kp b16 m16 GLR F14.kp b14 m14 n_list
  have GAN := ok_anySt F17 (GT 0) F10.kp b10 m10 n_tuple
  exact ok_law FL (law_g F12 m12 GW b12) (law_g F5 m5 G5 b5) (law_g F16 m16 GLF b16) (law_g F8 m8 GA b8) (law_g F18 m18 GRC b18) (law_g F17 m17 GAN b17) (law_g F7 m7 G7 b7) (law_g F15 m15 GLE b15) (law_g F6 m6 G6 b6) (law_g F14 m14 GLR b14) n_range n_len n_all
end Tu
open PySem PySem.W PyProof.Rows
set_option maxRecDepth 100000 in
set_option maxHeartbeats 0 in
theorem PySem.Challenge.cw_turnedends_k02_whole_standings_holds : PySem.Challenge.rw_turnedends_k02_whole_standings.Holds := by
  w_on; o_law; k_head; (case hw => w_witness2)
  k_fill
  refine L2.walk_of (l := PySem.Challenge.rw_turnedends_k02_whole_standings) (n := 63) (k := 5) (x := "script") (CX := fun _ => L2.CX0) (sp := fun w => Tu.spLaw _) rfl (by decide) rfl ⟨rfl, by decide, by decide⟩ (fun w h Y => PySem.W.kIn_of Y) ?F (fun _ _ a ns hl _ hS => ⟨a, ns, rfl, hS, hl, fun _ => rfl⟩) (fun _ _ _ _ _ h => h)
  case F =>
    intro w mg fa h KX G hmg
    refine' Tu.all_mk KX G hmg ?f0 ?f1 ?f2 ?f3 ?f4 ?f5 ?f6 ?f7 ?f8 ?f9 ?f10 ?f11 ?f12 ?f13 ?f14 ?f15 ?f16 ?f17 ?f18 ?f19 ?gS ?lS ?gC ?lC ?g6 ?gP ?dP ?p_all ?p_both ?p_care ?p_lone ?p_lones ?p_pairs ?gH ?dH ?h_all ?h_both ?h_care ?h_lone ?h_lones ?h_pairs ?q_h1 ?q_h2 ?q_h3 ?z_isinstance ?z_str ?z_all ?z_tuple ?z_len ?z_bool ?z_zip ?z_int ?z_sum ?z_range ?z_list
    (case f0 => (refine' Tu.fnK ?a ?l ?c ?k; (case a => k_is); (case l => k_is); (case c => k_is); (case k => k_is)))
    (case f1 => (refine' Tu.fnK ?a ?l ?c ?k; (case a => k_is); (case l => k_is); (case c => k_is); (case k => k_is)))
    (case f2 => (refine' Tu.fnK ?a ?l ?c ?k; (case a => k_is); (case l => k_is); (case c => k_is); (case k => k_is)))
    (case f3 => (refine' Tu.fnK ?a ?l ?c ?k; (case a => k_is); (case l => k_is); (case c => k_is); (case k => k_is)))
    (case f4 => (refine' Tu.fnK ?a ?l ?c ?k; (case a => k_is); (case l => k_is); (case c => k_is); (case k => k_is)))
    (case f5 => (refine' Tu.fnK ?a ?l ?c ?k; (case a => k_is); (case l => k_is); (case c => k_is); (case k => k_is)))
    (case f6 => (refine' Tu.fnK ?a ?l ?c ?k; (case a => k_is); (case l => k_is); (case c => k_is); (case k => k_is)))
    (case f7 => (refine' Tu.fnK ?a ?l ?c ?k; (case a => k_is); (case l => k_is); (case c => k_is); (case k => k_is)))
    (case f8 => (refine' Tu.fnK ?a ?l ?c ?k; (case a => k_is); (case l => k_is); (case c => k_is); (case k => k_is)))
    (case f9 => (refine' Tu.fnK ?a ?l ?c ?k; (case a => k_is); (case l => k_is); (case c => k_is); (case k => k_is)))
    (case f10 => (refine' Tu.fnK ?a ?l ?c ?k; (case a => k_is); (case l => k_is); (case c => k_is); (case k => k_is)))
    (case f11 => (refine' Tu.fnK ?a ?l ?c ?k; (case a => k_is); (case l => k_is); (case c => k_is); (case k => k_is)))
    (case f12 => (refine' Tu.fnK ?a ?l ?c ?k; (case a => k_is); (case l => k_is); (case c => k_is); (case k => k_is)))
    (case f13 => (refine' Tu.fnK ?a ?l ?c ?k; (case a => k_is); (case l => k_is); (case c => k_is); (case k => k_is)))
    (case f14 => (refine' Tu.fnK ?a ?l ?c ?k; (case a => k_is); (case l => k_is); (case c => k_is); (case k => k_is)))
    (case f15 => (refine' Tu.fnK ?a ?l ?c ?k; (case a => k_is); (case l => k_is); (case c => k_is); (case k => k_is)))
    (case f16 => (refine' Tu.fnK ?a ?l ?c ?k; (case a => k_is); (case l => k_is); (case c => k_is); (case k => k_is)))
    (case f17 => (refine' Tu.fnK ?a ?l ?c ?k; (case a => k_is); (case l => k_is); (case c => k_is); (case k => k_is)))
    (case f18 => (refine' Tu.fnK ?a ?l ?c ?k; (case a => k_is); (case l => k_is); (case c => k_is); (case k => k_is)))
    (case f19 => (refine' Tu.fnK ?a ?l ?c ?k; (case a => k_is); (case l => k_is); (case c => k_is); (case k => k_is)))
    (case gS => k_is)
    (case lS => (refine' Tu.strsK3 ?l; (case l => k_is)))
    (case gC => k_is)
    (case lC => (refine' Tu.strsK6 ?l; (case l => k_is)))
    (case g6 => k_is)
    (case gP => k_is)
    (case dP => (refine' Tu.dictK ?l ?k ?o; (case l => k_is); (case k => k_keys); (case o => decide)))
    (case p_all => k_is)
    (case p_both => k_is)
    (case p_care => k_is)
    (case p_lone => k_is)
    (case p_lones => k_is)
    (case p_pairs => k_is)
    (case gH => k_is)
    (case dH => (refine' Tu.dictK ?l ?k ?o; (case l => k_is); (case k => k_keys); (case o => decide)))
    (case h_all => k_is)
    (case h_both => k_is)
    (case h_care => k_is)
    (case h_lone => k_is)
    (case h_lones => k_is)
    (case h_pairs => k_is)
    (case q_h1 => (refine' Tu.pairK ?l ?x ?y ?z; (case l => k_is); (case x => decide); (case y => decide); (case z => decide)))
    (case q_h2 => (refine' Tu.pairK ?l ?x ?y ?z; (case l => k_is); (case x => decide); (case y => decide); (case z => decide)))
    (case q_h3 => (refine' Tu.pairK ?l ?x ?y ?z; (case l => k_is); (case x => decide); (case y => decide); (case z => decide)))
    (case z_isinstance => k_is)
    (case z_str => k_is)
    (case z_all => k_is)
    (case z_tuple => k_is)
    (case z_len => k_is)
    (case z_bool => k_is)
    (case z_zip => k_is)
    (case z_int => k_is)
    (case z_sum => k_is)
    (case z_range => k_is)
    (case z_list => k_is)
