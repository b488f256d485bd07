import PyProof.Rows.All
import Wide.All
import OpenK.AllK
import Wide.FinOn
import HandS.ForMost
import HandS.Evl
import HandS.IsInst
import HandS.WrittenGet
import HandS.Replace
import HandS.TupMul
import HandS.Zip
import HandS.SetBool
import HandS.Conv
import KE.KDictDisplayH
import KE.KeyNested
import HandS.Style
import HandS.TupAny
import HandS.Text
import HandS.DictComp
import HandS.ReplaceList
import HandS.SortRule
import PyProof.Rows.RuleB_bool
import HandS.Head0
import HandS.Head1
import HandS.Head2
import HandS.HeadEnd
import HandS.HeadHook1
import HandS.HeadHook2
import HandS.HeadHook3
import HandS.HeadHook4
import HandS.Deep
import KE.KDictPairs
import PyProof.Draws
import PyProof.ListStr
import HandS.ReplaceLit
import HandS.OwnEq
import HandS.More
import HandS.TupLen
import PySem.Challenge.RW_turnedends_k04_whole_alike_shown
set_option Elab.async false
set_option linter.all false
set_option maxRecDepth 100000
set_option maxHeartbeats 4000000
namespace Rm
open PySem PySem.Spec PyProof.Rows L2
/-! ### values of a run: tuples, lists and instances that stay are values; `ref n` is the n-th changing object -/
inductive LV where
  | non | bl (b : Bool) | int (i : Int) | str (x : List Nat)
  | tup (xs : List LV) | vl (xs : List LV) | fz (xs : List LV) | vd (ks : List LV) (vs : List LV) | sd (ks : List (List Nat)) (vs : List LV) | obj (C : Nat) (fs : List LV) | ref (n : Nat)
inductive LO where
  | lst (xs : List LV) | dic (ks : List LV) (vs : List LV) | ins (C : Nat) (k : Nat) (fs : List LV)
/-- what is fixed: the written part, the addresses of the classes, the names of their fields, the errors' classes -/
structure Sg where
  P : Program
  w : World
  K : PySem.W.Frag
  ct : Nat → Addr
  nm : Nat → List Str
/-- a list that nobody changes: the caller's, or one that the text has written -/
def FzL (K : PySem.W.Frag) (H : Hp) (a : Addr) (xs : List V) : Prop := (∃ o, H a = some (.frz o (.lst xs))) ∨ ∃ (o : Obj) (its : Array Value) (n : Nat), K.lookup a = some o ∧ o.cls = .type "list" ∧ o.dict = none ∧ o.data = .seq its n ∧ its.size ≤ sizeLine ∧ Vals xs its.toList
theorem FzL.sq {K : PySem.W.Frag} {H : Hp} {a : Addr} {xs : List V} (h : FzL K H a xs) : SqL K H a xs := h.imp (fun ⟨o, e⟩ => .inr ⟨o, e⟩) id
theorem FzL.mono {K : PySem.W.Frag} {H H' : Hp} {a : Addr} {xs : List V} (h : FzL K H a xs) (k : ∀ o, H a = some (.frz o (.lst xs)) → H' a = some (.frz o (.lst xs))) : FzL K H' a xs := h.imp (fun ⟨o, e⟩ => ⟨o, k o e⟩) id
/-- keys of dicts: tuples of any depth -/
abbrev tkN (P : Program) (w : World) := nestedKind P w
mutual
def LV.key : LV → Option NestedKey
  | .non => some .none
  | .bl b => some (.num (if b then 1 else 0))
  | .int i => some (.num i)
  | .str x => some (.text ⟨x.toArray⟩)
  | .tup xs => (LV.keys xs).map .tup
  | _ => none
def LV.keys : List LV → Option (List NestedKey)
  | [] => some []
  | x :: xs => match LV.key x, LV.keys xs with
    | some k, some ks => some (k :: ks)
    | _, _ => none
end
def dvF (P : Program) (w : World) (d : Addr) (o : Obj) (ks : List (NestedKey × Addr)) (vs : List V) : Heap → Prop := fun h =>
  h.get? d = some o ∧ ∃ es ep us, o.ExactDict ∧ o.data = .dict es ep ∧ Vals vs us ∧ es.toList = (List.zipWith (fun (x : NestedKey × Addr) (u : Value) => (x.1, x.2, u)) ks us).map (entryOfKey (tkN P w))
def keysOk (ks : List (NestedKey × Addr)) (vs : List V) : Prop := (ks.map (·.1)).Nodup ∧ ks.length = vs.length ∧ ks.length ≤ 60000 ∧ ∀ k ∈ ks, k.1.depth ≤ 8
section
variable (S : Sg) (F : Addr → Prop) (ι : List Addr) (H : Hp)
mutual
inductive RV : LV → V → Prop
  | non : RV .non .non
  | bl (b : Bool) : RV (.bl b) (.bl b)
  | int (i : Int) : RV (.int i) (.int i)
  | str (x : List Nat) : RV (.str x) (.str ⟨x.toArray⟩)
  | tup {a : Addr} {xs : List LV} {vs : List V} : SqT S.K H a vs → RVs xs vs → RV (.tup xs) (.ref a)
  | vl {a : Addr} {xs : List LV} {vs : List V} : H a = some (.lst vs) → ¬ F a → RVs xs vs → RV (.vl xs) (.ref a)
  | fz {a : Addr} {xs : List LV} {vs : List V} : FzL S.K H a vs → RVs xs vs → RV (.fz xs) (.ref a)
  | vd {a : Addr} {ks vs : List LV} {o : Obj} {kas : List (NestedKey × Addr)} {xs : List V} : H a = some (.ext (dvF S.P S.w a o kas xs)) → ¬ F a → (a == sysModules) = false → keysOk kas xs → LV.keys ks = some (kas.map (·.1)) → RVs ks (kas.map fun k => V.ref k.2) → RVs vs xs → RV (.vd ks vs) (.ref a)
  | sd {a : Addr} {ks : List Str} {kc : List (List Nat)} {vs : List LV} {xs : List V} : H a = some (.dK (mergeK [] (List.zipWith (fun k x => ((.inr k : Key), x)) ks xs))) → ¬ F a → (ks.map fun k => k.cps.toList) = kc → RVs vs xs → RV (.sd kc vs) (.ref a)
  | obj {a : Addr} {C : Nat} {dx : Addr} {fs : List (Str × V)} {xs : List LV} : H a = some (.ins (S.ct C) dx fs) → ¬ F a → fs.map (·.1) = S.nm C → RVs xs (fs.map (·.2)) → RV (.obj C xs) (.ref a)
  | ref {a : Addr} {n : Nat} : ι[n]? = some a → RV (.ref n) (.ref a)
inductive RVs : List LV → List V → Prop
  | nil : RVs [] []
  | cons {x : LV} {xs : List LV} {v : V} {vs : List V} : RV x v → RVs xs vs → RVs (x :: xs) (v :: vs)
end
end
section
variable {S : Sg} {F F' F1 F2 : Addr → Prop} {ι ι' ι1 ι2 : List Addr} {H H' H1 H2 : Hp}
/-- how the heap goes on -/
structure EX (S : Sg) (F : Addr → Prop) (ι : List Addr) (H : Hp) (F' : Addr → Prop) (ι' : List Addr) (H' : Hp) : Prop where
  tup : ∀ a vs, SqT S.K H a vs → SqT S.K H' a vs
  keep : ∀ a o, a ∉ ι → H a = some o → H' a = some o
  grow : ∃ more, ι' = ι ++ more ∧ ∀ a ∈ more, H a = none
  more : ∀ a, F a → F' a
  fresh : ∀ a, F' a → ¬ F a → H a = none
  dom : ∀ a, H' a = none → H a = none
theorem EX.refl : EX S F ι H F ι H := ⟨fun _ _ h => h, fun _ _ _ h => h, ⟨[], by simp, fun _ h => nomatch h⟩, fun _ h => h, fun _ h n => absurd h n, fun _ h => h⟩
theorem EX.trans (e : EX S F ι H F1 ι1 H1) (f : EX S F1 ι1 H1 F2 ι2 H2) : EX S F ι H F2 ι2 H2 := by
  obtain ⟨m1, rfl, n1⟩ := e.grow
  obtain ⟨m2, rfl, n2⟩ := f.grow
  refine ⟨fun a vs h => f.tup a vs (e.tup a vs h), fun a o n h => f.keep a o ?_ (e.keep a o n h), ⟨m1 ++ m2, by rw [List.append_assoc], ?_⟩, fun a h => f.more a (e.more a h), fun a h n => ?_, fun a h => e.dom a (f.dom a h)⟩
  · intro hm
    rcases List.mem_append.mp hm with z | z
    · exact n z
    · rw [n1 a z] at h; cases h
  · intro a ha
    rcases List.mem_append.mp ha with z | z
    · exact n1 a z
    · exact e.dom a (n2 a z)
  · cases q : H a with
    | none => rfl
    | some o =>
      by_cases h1 : F1 a
      · have := e.fresh a h1 n
        rw [q] at this; cases this
      · have := e.dom a (f.fresh a h h1)
        rw [q] at this; cases this
/-- the changing objects -/
inductive RO (S : Sg) (F : Addr → Prop) (ι : List Addr) (H : Hp) : LO → Addr → Prop
  | lst {a : Addr} {xs : List LV} {vs : List V} : H a = some (.lst vs) → RVs S F ι H xs vs → RO S F ι H (.lst xs) a
  | dic {a : Addr} {ks vs : List LV} {o : Obj} {kas : List (NestedKey × Addr)} {xs : List V} : H a = some (.ext (dvF S.P S.w a o kas xs)) → (a == sysModules) = false → keysOk kas xs → LV.keys ks = some (kas.map (·.1)) → RVs S F ι H ks (kas.map fun k => V.ref k.2) → RVs S F ι H vs xs → RO S F ι H (.dic ks vs) a
  | ins {a : Addr} {C k : Nat} {dx : Addr} {fs : List (Str × V)} {xs : List LV} : H a = some (.ins (S.ct C) dx fs) → k = (S.nm C).length → fs.map (·.1) = (S.nm C).take xs.length → RVs S F ι H xs (fs.map (·.2)) → RO S F ι H (.ins C k xs) a
structure Rep (S : Sg) (F : Addr → Prop) (ι : List Addr) (h : List LO) (H : Hp) : Prop where
  len : ι.length = h.length
  nd : ι.Nodup
  inF : ∀ a ∈ ι, F a
  dom : ∀ a, F a → H a ≠ none
  obj : ∀ (n : Nat) (o : LO) (a : Addr), h[n]? = some o → ι[n]? = some a → RO S F ι H o a
theorem RVs.length : ∀ {xs : List LV} {vs : List V}, RVs S F ι H xs vs → xs.length = vs.length
  | [], _, h => by cases h; rfl
  | _ :: xs, _, h => by cases h with | cons a b => exact congrArg (· + 1) (RVs.length b)
/-- how relations are carried on -/
structure Fwd (S : Sg) (F : Addr → Prop) (ι : List Addr) (H : Hp) (F' : Addr → Prop) (ι' : List Addr) (H' : Hp) : Prop where
  tup : ∀ a vs, SqT S.K H a vs → SqT S.K H' a vs
  keep : ∀ a o, ¬ F a → H a = some o → H' a = some o
  frz : ∀ a o vs, H a = some (.frz o (.lst vs)) → H' a = some (.frz o (.lst vs))
  nf : ∀ a o, ¬ F a → H a = some o → ¬ F' a
  ix : ∀ (n : Nat) a, ι[n]? = some a → ι'[n]? = some a
mutual
theorem RV.fwd (f : Fwd S F ι H F' ι' H') : ∀ (x : LV) (v : V), RV S F ι H x v → RV S F' ι' H' x v
  | .non, _, h => by cases h; exact .non
  | .bl _, _, h => by cases h; exact .bl _
  | .int _, _, h => by cases h; exact .int _
  | .str _, _, h => by cases h; exact .str _
  | .tup xs, _, h => by cases h with | tup a b => exact .tup (f.tup _ _ a) (RVs.fwd f xs _ b)
  | .vl xs, _, h => by cases h with | vl a n b => exact .vl (f.keep _ _ n a) (f.nf _ _ n a) (RVs.fwd f xs _ b)
  | .fz xs, _, h => by cases h with | fz a b => exact .fz (a.mono fun o e => f.frz _ _ _ e) (RVs.fwd f xs _ b)
  | .vd ks vs, _, h => by cases h with | vd a n c d e g i => exact .vd (f.keep _ _ n a) (f.nf _ _ n a) c d e (RVs.fwd f ks _ g) (RVs.fwd f vs _ i)
  | .sd kc vs, _, h => by cases h with | sd a n c i => exact .sd (f.keep _ _ n a) (f.nf _ _ n a) c (RVs.fwd f vs _ i)
  | .obj C xs, _, h => by cases h with | obj a n c d => exact .obj (f.keep _ _ n a) (f.nf _ _ n a) c (RVs.fwd f xs _ d)
  | .ref _, _, h => by cases h with | ref a => exact .ref (f.ix _ _ a)
theorem RVs.fwd (f : Fwd S F ι H F' ι' H') : ∀ (xs : List LV) (vs : List V), RVs S F ι H xs vs → RVs S F' ι' H' xs vs
  | [], _, h => by cases h; exact .nil
  | x :: xs, _, h => by cases h with | cons a b => exact .cons (RV.fwd f x _ a) (RVs.fwd f xs _ b)
end
theorem Rep.nfr {h : List LO} (r : Rep S F ι h H) {a : Addr} {o : Obj} {u : HO} (e : H a = some (.frz o u)) : a ∉ ι := fun ha => by
  obtain ⟨n, hn⟩ := List.mem_iff_getElem?.mp ha
  have hlt : n < h.length := by rw [← r.len]; exact (List.getElem?_eq_some_iff.mp hn).1
  have z := r.obj n _ a (List.getElem?_eq_getElem hlt) hn
  generalize h[n] = oo at z
  cases z with
  | lst q => rw [e] at q; cases q
  | dic q => rw [e] at q; cases q
  | ins q => rw [e] at q; cases q
theorem EX.fwd {h : List LO} (e : EX S F ι H F' ι' H') (r : Rep S F ι h H) : Fwd S F ι H F' ι' H' := by
  refine ⟨e.tup, fun a o n q => e.keep a o (fun z => n (r.inF a z)) q, fun a o vs q => e.keep a _ (r.nfr q) q, fun a o n q z => ?_, fun n a q => ?_⟩
  · rw [e.fresh a z n] at q; cases q
  · obtain ⟨m, rfl, _⟩ := e.grow
    rw [List.getElem?_append_left (List.getElem?_eq_some_iff.mp q).1]
    exact q
theorem RV.ext {h : List LO} {x : LV} {v : V} (z : RV S F ι H x v) (r : Rep S F ι h H) (e : EX S F ι H F' ι' H') : RV S F' ι' H' x v := z.fwd (e.fwd r) x v
theorem RVs.ext {h : List LO} {x : List LV} {v : List V} (z : RVs S F ι H x v) (r : Rep S F ι h H) (e : EX S F ι H F' ι' H') : RVs S F' ι' H' x v := z.fwd (e.fwd r) x v
/-! ### values with no changing object -/
mutual
def LV.pure : LV → Bool
  | .ref _ => false
  | .tup xs => LV.pures xs
  | .vl xs => LV.pures xs
  | .fz xs => LV.pures xs
  | .vd ks vs => LV.pures ks && LV.pures vs
  | .sd _ vs => LV.pures vs
  | .obj _ xs => LV.pures xs
  | _ => true
def LV.pures : List LV → Bool
  | [] => true
  | x :: xs => LV.pure x && LV.pures xs
end
mutual
theorem RV.pure (ι' : List Addr) : ∀ (x : LV) (v : V), x.pure = true → RV S F ι H x v → RV S F ι' H x v
  | .non, _, _, h => by cases h; exact .non
  | .bl _, _, _, h => by cases h; exact .bl _
  | .int _, _, _, h => by cases h; exact .int _
  | .str _, _, _, h => by cases h; exact .str _
  | .tup xs, _, p, h => by cases h with | tup a b => exact .tup a (RVs.pure ι' xs _ (by simpa [LV.pure] using p) b)
  | .vl xs, _, p, h => by cases h with | vl a n b => exact .vl a n (RVs.pure ι' xs _ (by simpa [LV.pure] using p) b)
  | .fz xs, _, p, h => by cases h with | fz a b => exact .fz a (RVs.pure ι' xs _ (by simpa [LV.pure] using p) b)
  | .vd ks vs, _, p, h => by
    have p' : LV.pures ks = true ∧ LV.pures vs = true := by simpa [LV.pure] using p
    cases h with | vd a n c d e g i => exact .vd a n c d e (RVs.pure ι' ks _ p'.1 g) (RVs.pure ι' vs _ p'.2 i)
  | .sd kc vs, _, p, h => by cases h with | sd a n c i => exact .sd a n c (RVs.pure ι' vs _ (by simpa [LV.pure] using p) i)
  | .obj C xs, _, p, h => by cases h with | obj a n c d => exact .obj a n c (RVs.pure ι' xs _ (by simpa [LV.pure] using p) d)
  | .ref _, _, p, _ => by simp [LV.pure] at p
theorem RVs.pure (ι' : List Addr) : ∀ (xs : List LV) (vs : List V), LV.pures xs = true → RVs S F ι H xs vs → RVs S F ι' H xs vs
  | [], _, _, h => by cases h; exact .nil
  | x :: xs, _, p, h => by
    have p' : x.pure = true ∧ LV.pures xs = true := by simpa [LV.pures] using p
    cases h with | cons a b => exact .cons (RV.pure ι' x _ p'.1 a) (RVs.pure ι' xs _ p'.2 b)
end
/-! ### a value that leaves its run: the changing objects that it has stay from now on -/
mutual
def LV.deep (h : List LO) : Nat → LV → Option LV
  | 0, _ => none
  | n + 1, .ref i => match h[i]? with
    | some (.lst xs) => (LV.deeps h n xs).map .vl
    | some (.ins C k xs) => if xs.length = k then (LV.deeps h n xs).map (.obj C) else none
    | some (.dic ks vs) => match LV.deeps h n ks, LV.deeps h n vs with
      | some ks, some vs => some (.vd ks vs)
      | _, _ => none
    | none => none
  | n + 1, .tup xs => (LV.deeps h n xs).map .tup
  | n + 1, .vl xs => (LV.deeps h n xs).map .vl
  | n + 1, .fz xs => (LV.deeps h n xs).map .fz
  | n + 1, .vd ks vs => match LV.deeps h n ks, LV.deeps h n vs with
      | some ks, some vs => some (.vd ks vs)
      | _, _ => none
  | n + 1, .sd kc vs => (LV.deeps h n vs).map (.sd kc)
  | n + 1, .obj C xs => (LV.deeps h n xs).map (.obj C)
  | _ + 1, x => some x
def LV.deeps (h : List LO) : Nat → List LV → Option (List LV)
  | 0, _ => none
  | _ + 1, [] => some []
  | n + 1, x :: xs => match LV.deep h n x, LV.deeps h n xs with
    | some x, some xs => some (x :: xs)
    | _, _ => none
end
mutual
theorem LV.key_deep {h : List LO} : ∀ {n : Nat} {x y : LV} {k : NestedKey}, LV.deep h n x = some y → x.key = some k → y.key = x.key
  | 0, _, _, _, e, _ => by simp [LV.deep] at e
  | n + 1, .tup xs, y, k, e, q => by
    simp only [LV.deep, Option.map_eq_some_iff] at e
    obtain ⟨ys, e1, rfl⟩ := e
    simp only [LV.key, Option.map_eq_some_iff] at q
    obtain ⟨k2, q1, rfl⟩ := q
    show (LV.keys ys).map NestedKey.tup = (LV.keys xs).map NestedKey.tup
    rw [LV.keys_deep e1 q1]
  | n + 1, .non, y, _, e, _ => by simp only [LV.deep] at e; cases e; rfl
  | n + 1, .bl _, y, _, e, _ => by simp only [LV.deep] at e; cases e; rfl
  | n + 1, .int _, y, _, e, _ => by simp only [LV.deep] at e; cases e; rfl
  | n + 1, .str _, y, _, e, _ => by simp only [LV.deep] at e; cases e; rfl
  | n + 1, .ref _, y, _, _, q => by simp [LV.key] at q
  | n + 1, .vl _, y, _, _, q => by simp [LV.key] at q
  | n + 1, .fz _, y, _, _, q => by simp [LV.key] at q
  | n + 1, .vd _ _, y, _, _, q => by simp [LV.key] at q
  | n + 1, .sd _ _, y, _, _, q => by simp [LV.key] at q
  | n + 1, .obj _ _, y, _, _, q => by simp [LV.key] at q
theorem LV.keys_deep {h : List LO} : ∀ {n : Nat} {x y : List LV} {k : List NestedKey}, LV.deeps h n x = some y → LV.keys x = some k → LV.keys y = LV.keys x
  | 0, _, _, _, e, _ => by simp [LV.deeps] at e
  | n + 1, [], y, _, e, _ => by simp only [LV.deeps] at e; cases e; rfl
  | n + 1, x :: xs, y, k, e, q => by
    simp only [LV.deeps] at e
    split at e
    · rename_i x' xs' h1 h2
      cases e
      simp only [LV.keys] at q ⊢
      split at q
      · rename_i k1 ks1 q1 q2
        rw [LV.key_deep h1 q1, LV.keys_deep h2 q2, q1, q2]
      · cases q
    · cases e
end
mutual
theorem RV.deep {h : List LO} (r : Rep S F' ι' h H) (nf : ∀ a ∈ ι', ¬ F a) (hF : ∀ a, F a → F' a) : ∀ (n : Nat) (x y : LV) (v : V), LV.deep h n x = some y → RV S F' ι' H x v → RV S F ι H y v
  | 0, _, _, _, e, _ => by simp [LV.deep] at e
  | n + 1, .ref i, y, _, e, z => by
    cases z with
    | ref q =>
      have hlt : i < h.length := by rw [← r.len]; exact (List.getElem?_eq_some_iff.mp q).1
      have g := r.obj i _ _ (List.getElem?_eq_getElem hlt) q
      have na := nf _ (List.mem_of_getElem? q)
      simp only [LV.deep, List.getElem?_eq_getElem hlt] at e
      generalize h[i] = oo at g e
      cases g with
      | lst a b =>
        simp only [Option.map_eq_some_iff] at e
        obtain ⟨ys, e1, rfl⟩ := e
        exact .vl a na (RVs.deep r nf hF n _ _ _ e1 b)
      | dic a c d e2 g2 i2 =>
        dsimp only at e
        split at e
        · rename_i ks' vs' h1 h2
          cases e
          have gk := RVs.deep r nf hF n _ _ _ h1 g2
          have gv := RVs.deep r nf hF n _ _ _ h2 i2
          refine .vd a na c d ?_ gk gv
          rw [← e2]
          exact LV.keys_deep h1 e2
        · cases e
      | ins a k b c =>
        dsimp only at e
        split at e
        · rename_i hk
          simp only [Option.map_eq_some_iff] at e
          obtain ⟨ys, e1, rfl⟩ := e
          refine .obj a na ?_ (RVs.deep r nf hF n _ _ _ e1 c)
          rw [b, hk, k, List.take_length]
        · cases e
  | n + 1, .tup xs, y, _, e, z => by
    simp only [LV.deep, Option.map_eq_some_iff] at e
    obtain ⟨ys, e1, rfl⟩ := e
    cases z with | tup a b => exact .tup a (RVs.deep r nf hF n _ _ _ e1 b)
  | n + 1, .vl xs, y, _, e, z => by
    simp only [LV.deep, Option.map_eq_some_iff] at e
    obtain ⟨ys, e1, rfl⟩ := e
    cases z with | vl a c b => exact .vl a (fun q => c (hF _ q)) (RVs.deep r nf hF n _ _ _ e1 b)
  | n + 1, .fz xs, y, _, e, z => by
    simp only [LV.deep, Option.map_eq_some_iff] at e
    obtain ⟨ys, e1, rfl⟩ := e
    cases z with | fz a b => exact .fz a (RVs.deep r nf hF n _ _ _ e1 b)
  | n + 1, .vd ks vs, y, _, e, z => by
    simp only [LV.deep] at e
    split at e
    · rename_i ks' vs' h1 h2
      cases e
      cases z with
      | vd a n2 c d e2 g i =>
        refine .vd a (fun q => n2 (hF _ q)) c d ?_ (RVs.deep r nf hF n _ _ _ h1 g) (RVs.deep r nf hF n _ _ _ h2 i)
        rw [← e2]
        exact LV.keys_deep h1 e2
    · cases e
  | n + 1, .sd kc xs, y, _, e, z => by
    simp only [LV.deep, Option.map_eq_some_iff] at e
    obtain ⟨ys, e1, rfl⟩ := e
    cases z with | sd a c b d => exact .sd a (fun q => c (hF _ q)) b (RVs.deep r nf hF n _ _ _ e1 d)
  | n + 1, .obj C xs, y, _, e, z => by
    simp only [LV.deep, Option.map_eq_some_iff] at e
    obtain ⟨ys, e1, rfl⟩ := e
    cases z with | obj a c b d => exact .obj a (fun q => c (hF _ q)) b (RVs.deep r nf hF n _ _ _ e1 d)
  | n + 1, .non, y, _, e, z => by simp only [LV.deep] at e; cases e; cases z; exact .non
  | n + 1, .bl _, y, _, e, z => by simp only [LV.deep] at e; cases e; cases z; exact .bl _
  | n + 1, .int _, y, _, e, z => by simp only [LV.deep] at e; cases e; cases z; exact .int _
  | n + 1, .str _, y, _, e, z => by simp only [LV.deep] at e; cases e; cases z; exact .str _
theorem RVs.deep {h : List LO} (r : Rep S F' ι' h H) (nf : ∀ a ∈ ι', ¬ F a) (hF : ∀ a, F a → F' a) : ∀ (n : Nat) (x y : List LV) (v : List V), LV.deeps h n x = some y → RVs S F' ι' H x v → RVs S F ι H y v
  | 0, _, _, _, e, _ => by simp [LV.deeps] at e
  | n + 1, [], y, _, e, z => by simp only [LV.deeps] at e; cases e; cases z; exact .nil
  | n + 1, x :: xs, y, _, e, z => by
    simp only [LV.deeps] at e
    split at e
    · rename_i x' xs' h1 h2
      cases e
      cases z with | cons a b => exact .cons (RV.deep r nf hF n _ _ _ h1 a) (RVs.deep r nf hF n _ _ _ h2 b)
    · cases e
end
end
end Rm
namespace Rm
open PySem PySem.Spec PyProof.Rows L2
/-! ### runs -/
inductive R (α : Type) where
  | ok (a : α) (h : List LO) | er (c : Nat) (h : List LO) | bad
def R.bind {α β : Type} : R α → (α → List LO → R β) → R β
  | .ok a h, k => k a h
  | .er c h, _ => .er c h
  | .bad, _ => .bad
abbrev Rho := List (Option LV)
abbrev ME := Rho → List LO → R LV
abbrev MA := Rho → List LO → R (List LV)
abbrev MT := Rho → List LO → R Bool
abbrev MO := Rho → List LO → R (Option Int)
inductive Fl where
  | nx | rt (v : LV) | bk | ct
abbrev MS := Rho → List LO → R (Fl × Rho)
abbrev MF := List LV → List LO → R LV
/-- the errors' classes -/
structure Se extends Sg where
  ec : Nat → Addr
def Ok {α β : Type} (rel : (Addr → Prop) → List Addr → Hp → α → β → Prop) (S : Se) (E : XK) (F : Addr → Prop) (ι : List Addr) (H : Hp) (r : R α) (Q : β → Hp → Prop) : Prop :=
  match r with
  | .ok v h' => ∀ F' ι' H' x, EX S.toSg F ι H F' ι' H' → Rep S.toSg F' ι' h' H' → rel F' ι' H' v x → Q x H'
  | .er c h' => ∀ F' ι' H', EX S.toSg F ι H F' ι' H' → Rep S.toSg F' ι' h' H' → E (.ref (S.ec c)) none H'
  | .bad => False
structure RS (S : Se) (F : Addr → Prop) (ι : List Addr) (H : Hp) (ρ : Rho) (σ : L2.St) : Prop where
  len : ρ.length = σ.length
  get : ∀ (i : Nat) (v : LV), ρ[i]? = some (some v) → ∃ x, σ[i]? = some (some x) ∧ RV S.toSg F ι H v x
def SE (S : Se) (E : XK) (te : TE) (m : ME) : Prop := ∀ F ι h H ρ σ Q, Rep S.toSg F ι h H → RS S F ι H ρ σ → Ok (RV S.toSg) S E F ι H (m ρ h) Q → te σ H Q
def SA (S : Se) (E : XK) (ta : TA) (m : MA) : Prop := ∀ F ι h H ρ σ Q, Rep S.toSg F ι h H → RS S F ι H ρ σ → Ok (RVs S.toSg) S E F ι H (m ρ h) Q → ta σ H Q
def eqB {β : Type} (_ : Addr → Prop) (_ : List Addr) (_ : Hp) (a b : β) : Prop := a = b
def ST (S : Se) (E : XK) (tt : TT) (m : MT) : Prop := ∀ F ι h H ρ σ Q, Rep S.toSg F ι h H → RS S F ι H ρ σ → Ok eqB S E F ι H (m ρ h) Q → tt σ H Q
def SO (S : Se) (E : XK) (tt : TO) (m : MO) : Prop := ∀ F ι h H ρ σ Q, Rep S.toSg F ι h H → RS S F ι H ρ σ → Ok eqB S E F ι H (m ρ h) Q → tt σ H Q
section
variable {S : Se} {E : XK} {F F1 : Addr → Prop} {ι ι1 : List Addr} {H H1 : Hp} {h h1 : List LO} {ρ : Rho} {σ : L2.St} {α β γ δ : Type}
  {rel : (Addr → Prop) → List Addr → Hp → α → β → Prop} {rel' : (Addr → Prop) → List Addr → Hp → γ → δ → Prop}
theorem Ok.shift {r : R α} {Q : β → Hp → Prop} (o : Ok rel S E F ι H r Q) (e : EX S.toSg F ι H F1 ι1 H1) : Ok rel S E F1 ι1 H1 r Q := by
  cases r with
  | ok v h' => exact fun F' ι' H' x e2 r2 q => o F' ι' H' x (e.trans e2) r2 q
  | er c h' => exact fun F' ι' H' e2 r2 => o F' ι' H' (e.trans e2) r2
  | bad => exact o
theorem Ok.seq {r : R α} {k : α → List LO → R γ} {Q : δ → Hp → Prop} {Q' : β → Hp → Prop} (o : Ok rel' S E F ι H (r.bind k) Q)
    (st : ∀ F1 ι1 H1 h1 v x, r = .ok v h1 → EX S.toSg F ι H F1 ι1 H1 → Rep S.toSg F1 ι1 h1 H1 → rel F1 ι1 H1 v x → Ok rel' S E F1 ι1 H1 (k v h1) Q → Q' x H1) : Ok rel S E F ι H r Q' := by
  cases r with
  | ok v h' => exact fun F' ι' H' x e2 r2 q => st F' ι' H' h' v x rfl e2 r2 q (Ok.shift (r := k v h') o e2)
  | er c h' => exact o
  | bad => exact o
theorem Ok.mono {r : R α} {Q Q' : β → Hp → Prop} (o : Ok rel S E F ι H r Q) (q : ∀ x H', Q x H' → Q' x H') : Ok rel S E F ι H r Q' := by
  cases r with
  | ok v h' => exact fun F' ι' H' x e2 r2 z => q _ _ (o F' ι' H' x e2 r2 z)
  | er c h' => exact o
  | bad => exact o
/-- a value now -/
theorem Ok.now {v : α} {x : β} {Q : β → Hp → Prop} (o : Ok rel S E F ι H (.ok v h) Q) (r : Rep S.toSg F ι h H) (z : rel F ι H v x) : Q x H := o F ι H x .refl r z
theorem RS.ext (s : RS S F ι H ρ σ) (r : Rep S.toSg F ι h H) (e : EX S.toSg F ι H F1 ι1 H1) : RS S F1 ι1 H1 ρ σ :=
  ⟨s.len, fun i v q => let ⟨x, a, b⟩ := s.get i v q; ⟨x, a, b.ext r e⟩⟩
/-! ### what may be new -/
/-- an untracked object is laid -/
theorem EX.new {p : Addr} {o : HO} (h : H p = none) : EX S.toSg F ι H F ι (upd H p o) := by
  refine ⟨fun a vs q => ?_, fun a u _ q => by rw [upd_ne (ne_of_none q h)]; exact q, ⟨[], by simp, fun _ z => nomatch z⟩, fun _ z => z, fun _ z n => absurd z n, fun a q => ?_⟩
  · exact Evl.ex_t (Evl.Ex.new h) q
  · by_cases e : a = p
    · subst e; exact h
    · rw [upd_ne e] at q; exact q
theorem RO.fwd {F' : Addr → Prop} {ι' : List Addr} {H' : Hp} (f : Fwd S.toSg F ι H F' ι' H') {o : LO} {a : Addr} (z : RO S.toSg F ι H o a) (k : ∀ u, H a = some u → H' a = some u) : RO S.toSg F' ι' H' o a := by
  cases z with
  | lst q b => exact .lst (k _ q) (b.fwd f _ _)
  | dic q b c d e g => exact .dic (k _ q) b c d (e.fwd f _ _) (g.fwd f _ _)
  | ins q k2 b c => exact .ins (k _ q) k2 b (c.fwd f _ _)
theorem Fwd.new (r : Rep S.toSg F ι h H) {p : Addr} {o : HO} (n : H p = none) : Fwd S.toSg F ι H F ι (upd H p o) := (EX.new (S := S) n).fwd r
theorem Rep.new (r : Rep S.toSg F ι h H) {p : Addr} {o : HO} (n : H p = none) : Rep S.toSg F ι h (upd H p o) := by
  refine ⟨r.len, r.nd, r.inF, fun a z q => ?_, fun i o a h1 h2 => ?_⟩
  · by_cases e : a = p
    · subst e; rw [upd_same] at q; cases q
    · rw [upd_ne e] at q; exact r.dom a z q
  · have z := r.obj i o a h1 h2
    refine z.fwd (Fwd.new r n) fun u q => ?_
    rw [upd_ne (ne_of_none q n)]; exact q
theorem nF_of_none (r : Rep S.toSg F ι h H) {p : Addr} (n : H p = none) : ¬ F p := fun z => r.dom p z n
end
end Rm
namespace Rm
open PySem PySem.Spec PyProof.Rows L2
/-! ### reading values -/
def LV.lst (h : List LO) : LV → Option (List LV)
  | .vl xs => some xs
  | .ref n => match h[n]? with
    | some (.lst xs) => some xs
    | _ => none
  | _ => none
def LV.lsf (h : List LO) : LV → Option (List LV)
  | .fz xs => some xs
  | x => x.lst h
section
variable {S : Sg} {F : Addr → Prop} {ι : List Addr} {H : Hp} {h : List LO}
theorem Rep.at {n : Nat} {o : LO} {a : Addr} (r : Rep S F ι h H) (e : h[n]? = some o) (q : ι[n]? = some a) : RO S F ι H o a := r.obj n o a e q
theorem lst_of (r : Rep S F ι h H) {v : LV} {x : V} {xs : List LV} (z : RV S F ι H v x) (e : v.lst h = some xs) : ∃ a vs, x = .ref a ∧ H a = some (.lst vs) ∧ RVs S F ι H xs vs := by
  cases z with
  | vl a n b => cases e; exact ⟨_, _, rfl, a, b⟩
  | @ref a n q =>
    simp only [LV.lst] at e
    split at e
    · rename_i ys hy
      cases e
      have g := r.at hy q
      cases g with
      | lst a b => exact ⟨_, _, rfl, a, b⟩
    · cases e
  | _ => cases e
theorem lsf_of (r : Rep S F ι h H) {v : LV} {x : V} {xs : List LV} (z : RV S F ι H v x) (e : v.lsf h = some xs) : ∃ a vs, x = .ref a ∧ SqL S.K H a vs ∧ RVs S F ι H xs vs := by
  cases z with
  | fz a b => cases e; exact ⟨_, _, rfl, a.sq, b⟩
  | vl a n b => cases e; exact ⟨_, _, rfl, .of a, b⟩
  | ref q =>
    obtain ⟨a, vs, e1, e2, e3⟩ := lst_of r (.ref q) (show LV.lst h _ = some xs from e)
    exact ⟨a, vs, e1, .of e2, e3⟩
  | _ => cases e
theorem RVs.at : ∀ {xs : List LV} {vs : List V} {i : Nat} {x : LV}, RVs S F ι H xs vs → xs[i]? = some x → ∃ v, vs[i]? = some v ∧ RV S F ι H x v
  | [], _, _, _, h, e => by simp at e
  | y :: xs, _, 0, x, h, e => by cases h with | cons a b => simp at e; subst e; exact ⟨_, rfl, a⟩
  | y :: xs, _, i + 1, x, h, e => by
    cases h with
    | cons a b =>
      obtain ⟨v, e1, e2⟩ := RVs.at (i := i) b (by simpa using e)
      exact ⟨v, by simpa using e1, e2⟩
theorem RVs.append : ∀ {xs ys : List LV} {vs ws : List V}, RVs S F ι H xs vs → RVs S F ι H ys ws → RVs S F ι H (xs ++ ys) (vs ++ ws)
  | [], _, _, _, a, b => by cases a; exact b
  | x :: xs, _, _, _, a, b => by cases a with | cons c d => exact .cons c (RVs.append d b)
theorem RVs.take : ∀ (n : Nat) {xs : List LV} {vs : List V}, RVs S F ι H xs vs → RVs S F ι H (xs.take n) (vs.take n)
  | 0, _, _, _ => .nil
  | _ + 1, [], _, a => by cases a; exact .nil
  | n + 1, x :: xs, _, a => by cases a with | cons c d => exact .cons c (RVs.take n d)
theorem RVs.drop : ∀ (n : Nat) {xs : List LV} {vs : List V}, RVs S F ι H xs vs → RVs S F ι H (xs.drop n) (vs.drop n)
  | 0, _, _, a => a
  | _ + 1, [], _, a => by cases a; exact .nil
  | n + 1, x :: xs, _, a => by cases a with | cons c d => exact RVs.drop n d
theorem RVs.rep {xs : List LV} {vs : List V} (a : RVs S F ι H xs vs) : ∀ k : Nat, RVs S F ι H (List.replicate k xs).flatten (List.replicate k vs).flatten
  | 0 => .nil
  | k + 1 => by
    rw [List.replicate_succ, List.replicate_succ, List.flatten_cons, List.flatten_cons]
    exact a.append (RVs.rep a k)
theorem RVs.set {v : LV} {x : V} (z : RV S F ι H v x) : ∀ (n : Nat) {xs : List LV} {vs : List V}, RVs S F ι H xs vs → RVs S F ι H (xs.set n v) (vs.set n x)
  | _, [], _, a => by cases a; exact .nil
  | 0, y :: xs, _, a => by cases a with | cons c d => exact .cons z d
  | n + 1, y :: xs, _, a => by cases a with | cons c d => exact .cons c (RVs.set z n d)
theorem RVs.strs : ∀ {zs : List (List Nat)} {vs : List V}, RVs S F ι H (zs.map LV.str) vs → vs = (zs.map fun z => (⟨z.toArray⟩ : Str)).map V.str
  | [], _, a => by cases a; rfl
  | z :: zs, _, a => by
    cases a with
    | cons c d =>
      cases c
      rw [RVs.strs d]
      rfl
theorem RVs.bls : ∀ {zs : List Bool} {vs : List V}, RVs S F ι H (zs.map LV.bl) vs → vs = zs.map V.bl
  | [], _, a => by cases a; rfl
  | z :: zs, _, a => by
    cases a with
    | cons c d =>
      cases c
      rw [RVs.bls d]
      rfl
theorem RVs.ints : ∀ {zs : List Int} {vs : List V}, RVs S F ι H (zs.map LV.int) vs → vs = zs.map V.int
  | [], _, a => by cases a; rfl
  | z :: zs, _, a => by
    cases a with
    | cons c d =>
      cases c
      rw [RVs.ints d]
      rfl
end
def LV.asStrs : List LV → Option (List (List Nat))
  | [] => some []
  | .str x :: xs => (LV.asStrs xs).map (x :: ·)
  | _ => none
def LV.asBls : List LV → Option (List Bool)
  | [] => some []
  | .bl x :: xs => (LV.asBls xs).map (x :: ·)
  | _ => none
def LV.asInts : List LV → Option (List Int)
  | [] => some []
  | .int x :: xs => (LV.asInts xs).map (x :: ·)
  | _ => none
theorem asStrs_eq : ∀ {xs : List LV} {zs : List (List Nat)}, LV.asStrs xs = some zs → xs = zs.map LV.str
  | [], _, e => by cases e; rfl
  | x :: xs, zs, e => by
    cases x <;> try (simp [LV.asStrs] at e; done)
    simp only [LV.asStrs, Option.map_eq_some_iff] at e
    obtain ⟨ys, e1, rfl⟩ := e
    rw [asStrs_eq e1]
    rfl
theorem asBls_eq : ∀ {xs : List LV} {zs : List Bool}, LV.asBls xs = some zs → xs = zs.map LV.bl
  | [], _, e => by cases e; rfl
  | x :: xs, zs, e => by
    cases x <;> try (simp [LV.asBls] at e; done)
    simp only [LV.asBls, Option.map_eq_some_iff] at e
    obtain ⟨ys, e1, rfl⟩ := e
    rw [asBls_eq e1]
    rfl
theorem asInts_eq : ∀ {xs : List LV} {zs : List Int}, LV.asInts xs = some zs → xs = zs.map LV.int
  | [], _, e => by cases e; rfl
  | x :: xs, zs, e => by
    cases x <;> try (simp [LV.asInts] at e; done)
    simp only [LV.asInts, Option.map_eq_some_iff] at e
    obtain ⟨ys, e1, rfl⟩ := e
    rw [asInts_eq e1]
    rfl
/-! ### expressions -/
def mVar (i : Nat) : ME := fun ρ h => match ρ[i]? with
  | some (some v) => .ok v h
  | _ => .bad
def mC (v : LV) : ME := fun _ h => .ok v h
def lift2 (f : LV → LV → Option LV) : LV → LV → List LO → R LV := fun v w h => match f v w with
  | some u => .ok u h
  | none => .bad
def mOp (f : LV → LV → List LO → R LV) (ma mb : ME) : ME := fun ρ h => (ma ρ h).bind fun v h1 => (mb ρ h1).bind fun w h2 => f v w h2
def mUn (f : LV → List LO → R LV) (ma : ME) : ME := fun ρ h => (ma ρ h).bind fun v h1 => f v h1
def mNil : MA := fun _ h => .ok [] h
def mCons (ma : ME) (mr : MA) : MA := fun ρ h => (ma ρ h).bind fun v h1 => (mr ρ h1).bind fun vs h2 => .ok (v :: vs) h2
def mTup (ma : MA) : ME := fun ρ h => (ma ρ h).bind fun vs h1 => if vs.length ≤ 60000 then .ok (.tup vs) h1 else .bad
def mLst (ma : MA) : ME := fun ρ h => (ma ρ h).bind fun vs h1 => if vs.length ≤ 60000 then .ok (.vl vs) h1 else .bad
/-- a list that will change -/
def mLstM (ma : MA) : ME := fun ρ h => (ma ρ h).bind fun vs h1 => if vs.length ≤ 60000 then .ok (.ref h1.length) (h1 ++ [.lst vs]) else .bad
def mB (ma : ME) : MT := fun ρ h => (ma ρ h).bind fun v h1 => match v with
  | .bl b => .ok b h1
  | _ => .bad
def mNot (mt : MT) : MT := fun ρ h => (mt ρ h).bind fun b h1 => .ok (!b) h1
def mAnd (ma mb : MT) : MT := fun ρ h => (ma ρ h).bind fun b h1 => if b = true then mb ρ h1 else .ok false h1
def mOr (ma mb : MT) : MT := fun ρ h => (ma ρ h).bind fun b h1 => if b = true then .ok true h1 else mb ρ h1
def mAndV (ma mb : ME) : ME := fun ρ h => (ma ρ h).bind fun v h1 => match v with
  | .bl b => if b = true then mb ρ h1 else .ok (.bl false) h1
  | _ => .bad
def mOrV (ma mb : ME) : ME := fun ρ h => (ma ρ h).bind fun v h1 => match v with
  | .bl b => if b = true then .ok (.bl true) h1 else mb ρ h1
  | _ => .bad
def mNotV (ma : ME) : ME := fun ρ h => (ma ρ h).bind fun v h1 => match v with
  | .bl b => .ok (.bl (!b)) h1
  | _ => .bad
def mIf (mt : MT) (ma mb : ME) : ME := fun ρ h => (mt ρ h).bind fun b h1 => if b = true then ma ρ h1 else mb ρ h1
def mChain (f g : LV → LV → List LO → R LV) (ma mb mc : ME) : ME := fun ρ h => (ma ρ h).bind fun v h1 => (mb ρ h1).bind fun w h2 => (f v w h2).bind fun u h3 => match u with
  | .bl b => if b = true then (mc ρ h3).bind fun y h4 => g w y h4 else .ok (.bl false) h3
  | _ => .bad
/-- operations by values -/
def VO (S : Se) (E : XK) (r : R2) (f : LV → LV → List LO → R LV) : Prop := ∀ F ι h H x y v w Q, Rep S.toSg F ι h H → RV S.toSg F ι H v x → RV S.toSg F ι H w y → Ok (RV S.toSg) S E F ι H (f v w h) Q → r x y H Q
def VU (S : Se) (E : XK) (r : V → Hp → VK → Prop) (f : LV → List LO → R LV) : Prop := ∀ F ι h H x v Q, Rep S.toSg F ι h H → RV S.toSg F ι H v x → Ok (RV S.toSg) S E F ι H (f v h) Q → r x H Q
section
variable {S : Se} {E : XK} {ta tb tc : TE} {ma mb mc : ME} {t u : TT} {mt mu : MT} {tA tR : TA} {mA mR : MA} {r r' : R2} {f g : LV → LV → List LO → R LV}
theorem se_var {i : Nat} : SE S E (tVar i) (mVar i) := fun F ι h H ρ σ Q rp rs o => by
  unfold mVar at o
  split at o
  · rename_i v hv
    obtain ⟨x, e1, e2⟩ := rs.get i v hv
    exact ⟨x, e1, o.now rp e2⟩
  · exact o.elim
theorem se_c {x : V} {v : LV} (z : ∀ F ι H, RV S.toSg F ι H v x) : SE S E (tC x) (mC v) := fun F ι h H ρ σ Q rp rs o => Ok.now (v := v) o rp (z F ι H)
theorem se_int {i : Int} : SE S E (tC (.int i)) (mC (.int i)) := se_c fun _ _ _ => .int i
theorem se_bl {b : Bool} : SE S E (tC (.bl b)) (mC (.bl b)) := se_c fun _ _ _ => .bl b
theorem se_non : SE S E (tC .non) (mC .non) := se_c fun _ _ _ => .non
theorem se_str {x : Str} : SE S E (tC (.str x)) (mC (.str x.cps.toList)) := se_c fun _ _ _ => RV.str x.cps.toList
theorem se_op (hr : VO S E r f) (ha : SE S E ta ma) (hb : SE S E tb mb) : SE S E (tOp r ta tb) (mOp f ma mb) := fun F ι h H ρ σ Q rp rs o =>
  ha F ι h H ρ σ _ rp rs (o.seq fun F1 ι1 H1 h1 v x _ e1 rp1 zx o1 => hb F1 ι1 h1 H1 ρ σ _ rp1 (rs.ext rp e1) (o1.seq fun F2 ι2 H2 h2 w y _ e2 rp2 zy o2 => hr F2 ι2 h2 H2 x y v w Q rp2 (zx.ext rp1 e2) zy o2))
theorem se_un {r : V → Hp → VK → Prop} {f : LV → List LO → R LV} (hr : VU S E r f) (ha : SE S E ta ma) : SE S E (tUn r ta) (mUn f ma) := fun F ι h H ρ σ Q rp rs o =>
  ha F ι h H ρ σ _ rp rs (o.seq fun F1 ι1 H1 h1 v x _ e1 rp1 zx o1 => hr F1 ι1 h1 H1 x v Q rp1 zx o1)
theorem sa_nil : SA S E tNil mNil := fun F ι h H ρ σ Q rp rs o => Ok.now (v := []) o rp .nil
theorem sa_cons (ha : SE S E ta ma) (hb : SA S E tR mR) : SA S E (tCons ta tR) (mCons ma mR) := fun F ι h H ρ σ Q rp rs o =>
  ha F ι h H ρ σ _ rp rs (o.seq fun F1 ι1 H1 h1 v x _ e1 rp1 zx o1 => hb F1 ι1 h1 H1 ρ σ _ rp1 (rs.ext rp e1) (o1.seq fun F2 ι2 H2 h2 w y _ e2 rp2 zy o2 => Ok.now (v := v :: w) o2 rp2 (.cons (zx.ext rp1 e2) zy)))
theorem le_sz {n : Nat} (h : n ≤ 60000) : n ≤ sizeLine := Nat.le_trans h (by decide)
theorem ok_tup {F : Addr → Prop} {ι : List Addr} {H : Hp} {h : List LO} {vs : List LV} {xs : List V} {Q : VK} (rp : Rep S.toSg F ι h H) (z : RVs S.toSg F ι H vs xs) (o : Ok (RV S.toSg) S E F ι H (.ok (.tup vs) h) Q) {p : Addr} (hp : H p = none) : Q (.ref p) (upd H p (.tup xs)) :=
  o F ι _ _ (EX.new hp) (rp.new hp) (.tup (.of upd_same) (z.fwd (Fwd.new rp hp) _ _))
theorem ok_vl {F : Addr → Prop} {ι : List Addr} {H : Hp} {h : List LO} {vs : List LV} {xs : List V} {Q : VK} (rp : Rep S.toSg F ι h H) (z : RVs S.toSg F ι H vs xs) (o : Ok (RV S.toSg) S E F ι H (.ok (.vl vs) h) Q) {p : Addr} (hp : H p = none) : Q (.ref p) (upd H p (.lst xs)) :=
  o F ι _ _ (EX.new hp) (rp.new hp) (.vl upd_same (nF_of_none rp hp) (z.fwd (Fwd.new rp hp) _ _))
theorem se_tup (ha : SA S E tA mA) : SE S E (tTup tA) (mTup mA) := fun F ι h H ρ σ Q rp rs o =>
  ha F ι h H ρ σ _ rp rs (o.seq fun F1 ι1 H1 h1 vs xs _ e1 rp1 z o1 => by
    split at o1
    · rename_i hl
      exact ⟨le_sz (by rw [← z.length]; exact hl), fun p hp => ok_tup rp1 z o1 hp⟩
    · exact o1.elim)
theorem se_lst (ha : SA S E tA mA) : SE S E (tLst tA) (mLst mA) := fun F ι h H ρ σ Q rp rs o =>
  ha F ι h H ρ σ _ rp rs (o.seq fun F1 ι1 H1 h1 vs xs _ e1 rp1 z o1 => by
    split at o1
    · rename_i hl
      exact ⟨le_sz (by rw [← z.length]; exact hl), fun p hp => ok_vl rp1 z o1 hp⟩
    · exact o1.elim)
/-- a changing object is laid -/
theorem EX.newM {F : Addr → Prop} {ι : List Addr} {H : Hp} {p : Addr} {o : HO} (h : H p = none) : EX S.toSg F ι H (fun a => F a ∨ a = p) (ι ++ [p]) (upd H p o) := by
  have e := EX.new (S := S) (F := F) (ι := ι) (o := o) h
  exact ⟨e.tup, e.keep, ⟨[p], rfl, fun a ha => by rw [List.mem_singleton.mp ha]; exact h⟩, fun a z => .inl z, fun a z n => z.elim (fun q => absurd q n) fun q => by rw [q]; exact h, e.dom⟩
theorem Rep.newM {F : Addr → Prop} {ι : List Addr} {H : Hp} {h : List LO} {p : Addr} {o : HO} {q : LO} (rp : Rep S.toSg F ι h H) (n : H p = none) (z : RO S.toSg (fun a => F a ∨ a = p) (ι ++ [p]) (upd H p o) q p) : Rep S.toSg (fun a => F a ∨ a = p) (ι ++ [p]) (h ++ [q]) (upd H p o) := by
  have nm : p ∉ ι := fun z => rp.dom p (rp.inF p z) n
  refine ⟨by rw [List.length_append, List.length_append, rp.len]; rfl, ?_, ?_, ?_, ?_⟩
  · rw [List.nodup_append]
    refine ⟨rp.nd, by simp, fun a ha b hb => ?_⟩
    rw [List.mem_singleton.mp hb]
    rintro rfl
    exact nm ha
  · intro a ha
    rcases List.mem_append.mp ha with z | z
    · exact .inl (rp.inF a z)
    · exact .inr (List.mem_singleton.mp z)
  · intro a ha e
    by_cases q : a = p
    · subst q; rw [upd_same] at e; cases e
    · rw [upd_ne q] at e
      exact ha.elim (fun z => rp.dom a z e) q
  · intro i u a h1 h2
    by_cases hi : i < h.length
    · rw [List.getElem?_append_left hi] at h1
      rw [List.getElem?_append_left (by rw [rp.len]; exact hi)] at h2
      refine (rp.obj i u a h1 h2).fwd ((EX.newM (S := S) n).fwd rp) fun u q => ?_
      rw [upd_ne (ne_of_none q n)]; exact q
    · have e : i = h.length := by
        have := (List.getElem?_eq_some_iff.mp h1).1
        rw [List.length_append] at this
        simp at this
        omega
      subst e
      rw [List.getElem?_append_right (Nat.le_refl _)] at h1
      rw [← rp.len, List.getElem?_append_right (Nat.le_refl _)] at h2
      simp at h1 h2
      subst h1 h2
      exact z
theorem se_lstM (ha : SA S E tA mA) : SE S E (tLst tA) (mLstM mA) := fun F ι h H ρ σ Q rp rs o =>
  ha F ι h H ρ σ _ rp rs (o.seq fun F1 ι1 H1 h1 vs xs _ e1 rp1 z o1 => by
    split at o1
    · rename_i hl
      refine ⟨le_sz (by rw [← z.length]; exact hl), fun p hp => o1 _ _ _ _ (EX.newM hp) (rp1.newM hp (.lst upd_same (z.fwd ((EX.newM (S := S) hp).fwd rp1) _ _))) (.ref ?_)⟩
      rw [← rp1.len, List.getElem?_append_right (Nat.le_refl _)]
      simp
    · exact o1.elim)
theorem st_b (ha : SE S E ta ma) : ST S E (tB ta) (mB ma) := fun F ι h H ρ σ Q rp rs o =>
  ha F ι h H ρ σ _ rp rs (o.seq fun F1 ι1 H1 h1 v x _ e1 rp1 z o1 => by
    cases z with
    | bl b => exact ⟨b, rfl, Ok.now (v := b) o1 rp1 rfl⟩
    | _ => exact o1.elim)
theorem st_test (ha : SE S E ta ma) : ST S E (tTest ta) (mB ma) := st_b ha
theorem st_not (ha : ST S E t mt) : ST S E (tNot t) (mNot mt) := fun F ι h H ρ σ Q rp rs o =>
  ha F ι h H ρ σ _ rp rs (o.seq fun F1 ι1 H1 h1 v x _ e1 rp1 z o1 => by cases z; exact Ok.now (v := !v) o1 rp1 rfl)
theorem st_and (ha : ST S E t mt) (hb : ST S E u mu) : ST S E (tAnd t u) (mAnd mt mu) := fun F ι h H ρ σ Q rp rs o =>
  ha F ι h H ρ σ _ rp rs (o.seq fun F1 ι1 H1 h1 v x _ e1 rp1 z o1 => by
    cases z
    cases v with
    | true => exact hb F1 ι1 h1 H1 ρ σ Q rp1 (rs.ext rp e1) o1
    | false => exact Ok.now (v := false) o1 rp1 rfl)
theorem st_or (ha : ST S E t mt) (hb : ST S E u mu) : ST S E (tOr t u) (mOr mt mu) := fun F ι h H ρ σ Q rp rs o =>
  ha F ι h H ρ σ _ rp rs (o.seq fun F1 ι1 H1 h1 v x _ e1 rp1 z o1 => by
    cases z
    cases v with
    | false => exact hb F1 ι1 h1 H1 ρ σ Q rp1 (rs.ext rp e1) o1
    | true => exact Ok.now (v := true) o1 rp1 rfl)
theorem se_andV (ha : SE S E ta ma) (hb : SE S E tb mb) : SE S E (tAndV ta tb) (mAndV ma mb) := fun F ι h H ρ σ Q rp rs o =>
  ha F ι h H ρ σ _ rp rs (o.seq fun F1 ι1 H1 h1 v x _ e1 rp1 z o1 => by
    cases z with
    | bl b =>
      refine ⟨b, rfl, ?_⟩
      cases b with
      | true => exact hb F1 ι1 h1 H1 ρ σ Q rp1 (rs.ext rp e1) o1
      | false => exact Ok.now (rel := RV S.toSg) (v := LV.bl false) o1 rp1 (.bl false)
    | _ => exact o1.elim)
theorem se_orV (ha : SE S E ta ma) (hb : SE S E tb mb) : SE S E (tOrV ta tb) (mOrV ma mb) := fun F ι h H ρ σ Q rp rs o =>
  ha F ι h H ρ σ _ rp rs (o.seq fun F1 ι1 H1 h1 v x _ e1 rp1 z o1 => by
    cases z with
    | bl b =>
      refine ⟨b, rfl, ?_⟩
      cases b with
      | false => exact hb F1 ι1 h1 H1 ρ σ Q rp1 (rs.ext rp e1) o1
      | true => exact Ok.now (rel := RV S.toSg) (v := LV.bl true) o1 rp1 (.bl true)
    | _ => exact o1.elim)
theorem se_notV (ha : SE S E ta ma) : SE S E (tNotV ta) (mNotV ma) := fun F ι h H ρ σ Q rp rs o =>
  ha F ι h H ρ σ _ rp rs (o.seq fun F1 ι1 H1 h1 v x _ e1 rp1 z o1 => by
    cases z with
    | bl b => exact ⟨b, rfl, Ok.now (rel := RV S.toSg) (v := LV.bl (!b)) o1 rp1 (.bl (!b))⟩
    | _ => exact o1.elim)
theorem se_if (ht : ST S E t mt) (ha : SE S E ta ma) (hb : SE S E tb mb) : SE S E (tIf t ta tb) (mIf mt ma mb) := fun F ι h H ρ σ Q rp rs o =>
  ht F ι h H ρ σ _ rp rs (o.seq fun F1 ι1 H1 h1 v x _ e1 rp1 z o1 => by
    cases z
    cases v with
    | true => exact ha F1 ι1 h1 H1 ρ σ Q rp1 (rs.ext rp e1) o1
    | false => exact hb F1 ι1 h1 H1 ρ σ Q rp1 (rs.ext rp e1) o1)
theorem se_chain (hr : VO S E r f) (hr' : VO S E r' g) (ha : SE S E ta ma) (hb : SE S E tb mb) (hc : SE S E tc mc) : SE S E (tChain r r' ta tb tc) (mChain f g ma mb mc) := fun F ι h H ρ σ Q rp rs o =>
  ha F ι h H ρ σ _ rp rs (o.seq fun F1 ι1 H1 h1 v x _ e1 rp1 zx o1 => hb F1 ι1 h1 H1 ρ σ _ rp1 (rs.ext rp e1) (o1.seq fun F2 ι2 H2 h2 w y _ e2 rp2 zy o2 =>
    hr F2 ι2 h2 H2 x y v w _ rp2 (zx.ext rp1 e2) zy (o2.seq fun F3 ι3 H3 h3 u z _ e3 rp3 zz o3 => by
      cases zz with
      | bl b =>
        refine ⟨b, rfl, ?_⟩
        cases b with
        | true => exact hc F3 ι3 h3 H3 ρ σ _ rp3 (((rs.ext rp e1).ext rp1 e2).ext rp2 e3) (Ok.seq (rel := RV S.toSg) o3 fun F4 ι4 H4 h4 y2 w2 _ e4 rp4 z4 o4 => hr' F4 ι4 h4 H4 y w2 w y2 Q rp4 ((zy.ext rp2 e3).ext rp3 e4) z4 o4)
        | false => exact Ok.now (rel := RV S.toSg) (v := LV.bl false) o3 rp3 (.bl false)
      | _ => exact o3.elim)))
theorem VO.or {f1 f2 : LV → LV → List LO → R LV} (d : LV → LV → Bool) (h1 : VO S E r f1) (h2 : VO S E r' f2) : VO S E (fun x y H Q => r x y H Q ∨ r' x y H Q) (fun v w h => if d v w = true then f1 v w h else f2 v w h) := fun F ι h H x y v w Q rp zx zy o => by
  dsimp only at o ⊢
  by_cases e : d v w = true
  · rw [if_pos e] at o; exact .inl (h1 F ι h H x y v w Q rp zx zy o)
  · rw [if_neg e] at o; exact .inr (h2 F ι h H x y v w Q rp zx zy o)
end
end Rm
namespace Rm
open PySem PySem.Spec PyProof.Rows L2
theorem ofl_app (x y : List Nat) : ((⟨x.toArray⟩ : Str) ++ (⟨y.toArray⟩ : Str)) = ⟨(x ++ y).toArray⟩ := by
  show (⟨x.toArray ++ y.toArray⟩ : Str) = ⟨(x ++ y).toArray⟩
  rw [List.append_toArray]
theorem ofl_len (l : List Nat) : (⟨l.toArray⟩ : Str).length = l.length := by
  show l.toArray.size = l.length
  exact List.size_toArray ..
theorem ofl_inj {x y : List Nat} : (⟨x.toArray⟩ : Str) = ⟨y.toArray⟩ ↔ x = y :=
  ⟨fun h => congrArg (fun z : Str => z.cps.toList) h, fun h => by rw [h]⟩
/-! ### numbers, sums -/
def fAdd (v w : LV) (h : List LO) : R LV := match v, w with
  | .int i, .int j => .ok (.int (i + j)) h
  | .str x, .str y => if x.length + y.length ≤ 60000 then .ok (.str (x ++ y)) h else .bad
  | .tup x, .tup y => if x.length + y.length ≤ 60000 then .ok (.tup (x ++ y)) h else .bad
  | v, w => match v.lst h, w.lst h with
    | some xs, some ys => if xs.length + ys.length ≤ 60000 then .ok (.vl (xs ++ ys)) h else .bad
    | _, _ => .bad
def fSub (v w : LV) (h : List LO) : R LV := match v, w with
  | .int i, .int j => .ok (.int (i - j)) h
  | _, _ => .bad
def fMul (v w : LV) (h : List LO) : R LV := match v, w with
  | .int i, .int j => if -(2 ^ 64) < i ∧ i < 2 ^ 64 ∨ -(2 ^ 64) < j ∧ j < 2 ^ 64 then .ok (.int (i * j)) h else .bad
  | .tup x, .int j => if 0 ≤ j ∧ j ≤ 1000 ∧ x.length ≤ 1000 then .ok (.tup (List.replicate j.toNat x).flatten) h else .bad
  | v, .int j => match v.lst h with
    | some xs => if 0 ≤ j ∧ j ≤ 1000 ∧ xs.length * j.toNat ≤ 60000 then .ok (.vl (List.replicate j.toNat xs).flatten) h else .bad
    | none => .bad
  | _, _ => .bad
def fMod (v w : LV) (h : List LO) : R LV := match v, w with
  | .int i, .int j => if 0 < j then .ok (.int (i % j)) h else .bad
  | _, _ => .bad
def fDiv (v w : LV) (h : List LO) : R LV := match v, w with
  | .int i, .int j => if 0 < j ∧ j < 1073741824 then .ok (.int (i / j)) h else .bad
  | _, _ => .bad
def fCmp (g : Int → Int → Bool) (v w : LV) (h : List LO) : R LV := match v, w with
  | .int i, .int j => .ok (.bl (g i j)) h
  | _, _ => .bad
/-- the library lacks t * k where nothing is doubled: a tuple, times 0 or 1 (proved below) -/
def rAddAll (K : PySem.W.Frag) : R2 := fun x y H Q => (rI0 fun i j => .int (i + j)) x y H Q ∨ (∃ i j, x = .str i ∧ y = .str j ∧ i.length + j.length ≤ sizeLine ∧ Q (.str (i ++ j)) H) ∨ rCat x y H Q ∨ rCatA K x y H Q
theorem op_addAll {X : Cx} : OpR X (binaryOp .Add) (rAddAll X.K) := op_add.or (op_add_str.or (op_cat.or op_catA))
section
variable {S : Se} {E : XK}
theorem vo_add : VO S E (rAddAll S.K) fAdd := fun F ι h H x y v w Q rp zx zy o => by
  unfold fAdd at o
  split at o
  · cases zx; cases zy
    exact .inl ⟨_, _, rfl, rfl, Ok.now (rel := RV S.toSg) o rp (.int _)⟩
  · cases zx; cases zy
    split at o
    · rename_i hl
      refine .inr (.inl ⟨_, _, rfl, rfl, le_sz (by rw [ofl_len, ofl_len]; exact hl), ?_⟩)
      rw [ofl_app]
      exact Ok.now (rel := RV S.toSg) o rp (.str _)
    · exact o.elim
  · split at o
    · rename_i hl
      cases zx with
      | tup a b =>
        cases zy with
        | tup c d =>
          refine .inr (.inr (.inr ⟨_, _, _, _, rfl, rfl, a, c, le_sz (by rw [← b.length, ← d.length]; exact hl), fun e => ?_, fun _ e => ?_, fun _ _ p hp => ok_tup rp (b.append d) o hp⟩))
          · have q := b.length
            rw [e] at q
            have e2 := List.eq_nil_of_length_eq_zero q
            subst e2
            exact Ok.now (rel := RV S.toSg) o rp (.tup c d)
          · have q := d.length
            rw [e] at q
            have e2 := List.eq_nil_of_length_eq_zero q
            subst e2
            rw [List.append_nil] at o
            exact Ok.now (rel := RV S.toSg) o rp (.tup a b)
    · exact o.elim
  · split at o
    · rename_i xs ys e1 e2
      split at o
      · rename_i hl
        obtain ⟨a, vs, rfl, h1, z1⟩ := lst_of rp zx e1
        obtain ⟨b, ws, rfl, h2, z2⟩ := lst_of rp zy e2
        exact .inr (.inr (.inl ⟨_, _, _, _, rfl, rfl, h1, h2, le_sz (by rw [← z1.length, ← z2.length]; exact hl), fun p hp => ok_vl rp (z1.append z2) o hp⟩))
      · exact o.elim
    · exact o.elim
theorem vo_sub : VO S E (rI0 fun i j => V.int (i - j)) fSub := fun F ι h H x y v w Q rp zx zy o => by
  unfold fSub at o
  split at o
  · cases zx; cases zy
    exact ⟨_, _, rfl, rfl, Ok.now (rel := RV S.toSg) o rp (.int _)⟩
  · exact o.elim
theorem vo_mod : VO S E (rI (fun _ j => 0 < j) fun i j => V.int (i % j)) fMod := fun F ι h H x y v w Q rp zx zy o => by
  unfold fMod at o
  split at o
  · cases zx; cases zy
    split at o
    · rename_i hl
      exact ⟨_, _, rfl, rfl, hl, Ok.now (rel := RV S.toSg) o rp (.int _)⟩
    · exact o.elim
  · exact o.elim
theorem vo_div : VO S E (rI CDiv fun i j => V.int (i / j)) fDiv := fun F ι h H x y v w Q rp zx zy o => by
  unfold fDiv at o
  split at o
  · cases zx; cases zy
    split at o
    · rename_i hl
      exact ⟨_, _, rfl, rfl, hl, Ok.now (rel := RV S.toSg) o rp (.int _)⟩
    · exact o.elim
  · exact o.elim
theorem vo_cmp {g : Int → Int → Bool} : VO S E (rI0 fun i j => V.bl (g i j)) (fCmp g) := fun F ι h H x y v w Q rp zx zy o => by
  unfold fCmp at o
  split at o
  · cases zx; cases zy
    exact ⟨_, _, rfl, rfl, Ok.now (rel := RV S.toSg) o rp (.bl _)⟩
  · exact o.elim
end
/-! ### t * k for every k -/
theorem tuple_mulA1 (l : Addr) (items : Array Value) (n : Nat) (dd : Option Addr) (sl : Array (Option Value)) (x : Int) (u : Tok) (c0 : (decide (x < -(2 ^ 63)) || decide (x ≥ 2 ^ 63)) = false) (c1 : (items.isEmpty || x == 1) = true) :
    Meets (Builtin.«tuple.__mul__» ⟨[.ref l, .int x u], []⟩) (fun _ R s => s.heap.get? l = some { cls := .type "tuple", dict := dd, data := .seq items n, slots := sl } ∧
      R (.ok (.ret (Value.ref l))) s) :=
  .of_wp fun prog w A R s h => by
    obtain ⟨hp, g, d, tk, os⟩ := s
    obtain ⟨hl, h⟩ := h
    have f1 := AutoSeq1.idx_int
    wp_walk using wpAny_loadPart' hl
    repeat (first
      | (refine wpAny_ite_false (decide_eq_false (by rw [c0]; exact Bool.false_ne_true)) ?_; wp_walk using wpAny_loadPart' hl)
      | (refine wpAny_ite_true (decide_eq_true c1) ?_; wp_walk using wpAny_loadPart' hl))
    exact ⟨_, rfl, h⟩
theorem tuple_mulA0 (l : Addr) (items : Array Value) (n : Nat) (dd : Option Addr) (sl : Array (Option Value)) (u : Tok) (c1 : (items.isEmpty || (0 : Int) == 1) = false) :
    Meets (Builtin.«tuple.__mul__» ⟨[.ref l, .int 0 u], []⟩) (fun _ R s => s.heap.get? l = some { cls := .type "tuple", dict := dd, data := .seq items n, slots := sl } ∧
      R (.ok (.ret (Value.ref s.heap.objs.size))) { s with heap := s.heap.push { cls := Value.type "tuple", data := Data.seq #[] }, toks := s.toks }) :=
  .of_wp fun prog w A R s h => by
    obtain ⟨hp, g, d, tk, os⟩ := s
    obtain ⟨hl, h⟩ := h
    have f1 := AutoSeq1.idx_int
    wp_walk using wpAny_loadPart' hl
    repeat (first
      | (refine wpAny_ite_false (decide_eq_false (by rw [c1]; exact Bool.false_ne_true)) ?_; wp_walk using wpAny_loadPart' hl))
    exact ⟨_, rfl, h⟩
def rRepA (K : PySem.W.Frag) : R2 := fun x y H Q => ∃ (l : Addr) (k : Nat) (xs : List V), x = .ref l ∧ y = .int (k : Int) ∧ SqT K H l xs ∧ k ≤ 1000 ∧ xs.length ≤ 1000 ∧
  ((xs = [] ∨ k = 1) → Q (.ref l) H) ∧ (¬ (xs = [] ∨ k = 1) → ∀ p, H p = none → Q (.ref p) (upd H p (.tup (List.replicate k xs).flatten)))
theorem op_repA {X : Cx} : OpR X (binaryOp .Mult) (rRepA X.K) := by
  intro pins s σ H x y v u Q I rx ry h
  obtain ⟨l, k, xs, rfl, rfl, hT, h2, h3, q1, q2⟩ := h
  by_cases hq : xs = [] ∨ k = 1
  · have q := q1 hq
    cases rx
    obtain ⟨t, rfl⟩ := ry
    obtain ⟨its, r, ⟨⟨cls, dd, data, sl⟩, ho, hc, n, hd⟩, hs⟩ := I.tuple hT
    simp only at hc hd
    subst hc hd
    refine wpAny_binaryOp_repeat_ref (T := "tuple") (U := "int") (by decide) ⟨_, ho, rfl⟩ (fun s' => typeIs_int s' _ t) noFill_tuple_mul F.fills_int_mul F.slot_int_rmul repeat_tuple F.slot_int_index.lookup
        (call_meets F.slot_int_rmul (typeIs_int s _ t) F.entry_int_rmul (F.args_int_rmul_2 _ _) (int_rmul_tuple _ t l _ n dd sl)
          ⟨ho, rfl, ⟨_, ho, rfl⟩, call_meets F.slot_tuple_mul ⟨_, ho, rfl⟩ F.entry_tuple_mul (F.args_tuple_mul_2 _ _) (tuple_mulA1 l its.toArray n dd sl (k : Int) t ?_ ?_) ⟨ho, ?_⟩⟩)
    · rw [Bool.or_eq_false_iff, decide_eq_false_iff_not, decide_eq_false_iff_not]
      omega
    · rcases hq with e | e
      · have e2 := r.length
        rw [e] at e2
        have e3 := List.eq_nil_of_length_eq_zero e2.symm
        subst e3
        rfl
      · subst e
        simp
    · exact ⟨.ref l, H, I, rfl, q⟩
  · have q := q2 hq
    have hx : xs ≠ [] := fun e => hq (.inl e)
    have hk : k ≠ 1 := fun e => hq (.inr e)
    by_cases h1 : 2 ≤ k
    · refine op_repT (X := X) pins s σ H _ _ v u Q I rx ry ⟨l, (k : Int), xs, rfl, rfl, hT, hx, by omega, by omega, h3, fun p hp => ?_⟩
      rw [Int.toNat_natCast]
      exact q p hp
    · obtain rfl : k = 0 := by omega
      cases rx
      obtain ⟨t, rfl⟩ := ry
      obtain ⟨its, r, ⟨⟨cls, dd, data, sl⟩, ho, hc, n, hd⟩, hs⟩ := I.tuple hT
      simp only at hc hd
      subst hc hd
      refine wpAny_binaryOp_repeat_ref (T := "tuple") (U := "int") (by decide) ⟨_, ho, rfl⟩ (fun s' => typeIs_int s' _ t) noFill_tuple_mul F.fills_int_mul F.slot_int_rmul repeat_tuple F.slot_int_index.lookup
        (call_meets F.slot_int_rmul (typeIs_int s _ t) F.entry_int_rmul (F.args_int_rmul_2 _ _) (int_rmul_tuple _ t l _ n dd sl)
          ⟨ho, rfl, ⟨_, ho, rfl⟩, call_meets F.slot_tuple_mul ⟨_, ho, rfl⟩ F.entry_tuple_mul (F.args_tuple_mul_2 _ _) (tuple_mulA0 l its.toArray n dd sl t ?_) ⟨ho, ?_⟩⟩)
      · cases its with
        | nil =>
          have e2 := r.length
          exact absurd (List.eq_nil_of_length_eq_zero e2) hx
        | cons a b => rfl
      · refine ⟨.ref s.heap.objs.size, _, I.laid (t' := s.toks) (o := .tup []) (fun b ob q => Heap.get?_push_of_some _ q) (Nat.le_refl _) ?_, rfl, q _ (I.hok.fresh (Nat.le_refl _))⟩
        exact ⟨Nat.zero_le _, _, .nil, IsTup.new _ _⟩
def rMulAll (K : PySem.W.Frag) : R2 := fun x y H Q => (rI CMul fun i j => .int (i * j)) x y H Q ∨ rRep x y H Q ∨ rRepA K x y H Q
theorem op_mulAll {X : Cx} : OpR X (binaryOp .Mult) (rMulAll X.K) := op_mul.or (op_rep.or op_repA)
section
variable {S : Se} {E : XK}
theorem vo_mul : VO S E (rMulAll S.K) fMul := fun F ι h H x y v w Q rp zx zy o => by
  unfold fMul at o
  split at o
  · cases zx; cases zy
    split at o
    · rename_i hl
      exact .inl ⟨_, _, rfl, rfl, hl, Ok.now (rel := RV S.toSg) o rp (.int _)⟩
    · exact o.elim
  · rename_i xs j
    cases zx with
    | @tup a _ vs hT b =>
      cases zy
      refine .inr (.inr ?_)
      split at o
      · rename_i e
        obtain ⟨k, rfl⟩ : ∃ k : Nat, j = (k : Int) := ⟨j.toNat, by omega⟩
        rw [Int.toNat_natCast] at o
        refine ⟨a, k, vs, rfl, rfl, hT, by omega, by rw [← b.length]; omega, fun q => ?_, fun q p hp => ok_tup rp (b.rep k) o hp⟩
        refine Ok.now (rel := RV S.toSg) o rp (.tup hT ?_)
        rcases q with q | q
        · subst q
          have e2 := List.eq_nil_of_length_eq_zero b.length
          subst e2
          have e3 : ∀ n : Nat, (List.replicate n ([] : List LV)).flatten = [] := fun n => by simp
          rw [e3]
          exact .nil
        · subst q
          have e3 : (List.replicate 1 xs).flatten = xs := by simp [List.replicate]
          rw [e3]
          exact b
      · exact o.elim
  · split at o
    · rename_i xs e
      split at o
      · rename_i hj
        obtain ⟨a, vs, rfl, h1, z1⟩ := lst_of rp zx e
        cases zy
        exact .inr (.inl ⟨_, _, _, rfl, rfl, h1, by omega, by omega, le_sz (by rw [← z1.length]; omega), fun p hp => ok_vl rp (z1.rep _) o hp⟩)
      · exact o.elim
    · exact o.elim
  · exact o.elim
end
end Rm
namespace Rm
open PySem PySem.Spec PyProof.Rows L2
/-! ### equality -/
def scL : LV → LV → Option Bool
  | .non, .non => some true | .non, .int _ => some false | .int _, .non => some false | .non, .bl _ => some false | .bl _, .non => some false | .non, .str _ => some false | .str _, .non => some false
  | .int a, .int b => some (decide (a = b)) | .bl a, .bl b => some (decide (a = b)) | .str a, .str b => some (decide (a = b))
  | .int _, .str _ => some false | .str _, .int _ => some false | .bl _, .str _ => some false | .str _, .bl _ => some false
  | _, _ => none
mutual
def LV.dat (h : List LO) : Nat → LV → Option PyData
  | 0, _ => none
  | _ + 1, .non => some .none
  | _ + 1, .bl b => some (.bool b)
  | _ + 1, .int i => some (.int i)
  | _ + 1, .str x => some (.str ⟨x.toArray⟩)
  | n + 1, .tup xs => (LV.dats h n xs).map .tuple
  | n + 1, .vl xs => (LV.dats h n xs).map .list
  | n + 1, .fz xs => (LV.dats h n xs).map .list
  | n + 1, .ref i => match h[i]? with
    | some (.lst xs) => (LV.dats h n xs).map .list
    | _ => none
  | _ + 1, _ => none
def LV.dats (h : List LO) : Nat → List LV → Option (List PyData)
  | 0, _ => none
  | _ + 1, [] => some []
  | n + 1, x :: xs => match LV.dat h n x, LV.dats h n xs with
    | some d, some ds => some (d :: ds)
    | _, _ => none
end
section
variable {S : Sg} {F : Addr → Prop} {ι : List Addr} {H : Hp} {h : List LO}
mutual
theorem dat_of (r : Rep S F ι h H) : ∀ (n : Nat) (v : LV) (d : PyData) (x : V), LV.dat h n v = some d → RV S F ι H v x → Dp S.K H x d
  | 0, _, _, _, e, _ => by simp [LV.dat] at e
  | n + 1, .non, d, x, e, z => by simp only [LV.dat] at e; cases e; cases z; exact .non
  | n + 1, .bl _, d, x, e, z => by simp only [LV.dat] at e; cases e; cases z; exact .bl _
  | n + 1, .int _, d, x, e, z => by simp only [LV.dat] at e; cases e; cases z; exact .int _
  | n + 1, .str _, d, x, e, z => by simp only [LV.dat] at e; cases e; cases z; exact .str _
  | n + 1, .tup xs, d, x, e, z => by
    simp only [LV.dat, Option.map_eq_some_iff] at e
    obtain ⟨ds, e1, rfl⟩ := e
    cases z with | tup a b => exact .tup a (dats_of r n xs ds _ e1 b)
  | n + 1, .vl xs, d, x, e, z => by
    simp only [LV.dat, Option.map_eq_some_iff] at e
    obtain ⟨ds, e1, rfl⟩ := e
    cases z with | vl a _ b => exact .lst (.of a) (dats_of r n xs ds _ e1 b)
  | n + 1, .fz xs, d, x, e, z => by
    simp only [LV.dat, Option.map_eq_some_iff] at e
    obtain ⟨ds, e1, rfl⟩ := e
    cases z with | fz a b => exact .lst a.sq (dats_of r n xs ds _ e1 b)
  | n + 1, .ref i, d, x, e, z => by
    simp only [LV.dat] at e
    split at e
    · rename_i xs hi
      simp only [Option.map_eq_some_iff] at e
      obtain ⟨ds, e1, rfl⟩ := e
      cases z with
      | ref q =>
        have g := r.at hi q
        cases g with
        | lst a b => exact .lst (.of a) (dats_of r n xs ds _ e1 b)
    · cases e
  | n + 1, .vd _ _, d, x, e, _ => by simp [LV.dat] at e
  | n + 1, .sd _ _, d, x, e, _ => by simp [LV.dat] at e
  | n + 1, .obj _ _, d, x, e, _ => by simp [LV.dat] at e
theorem dats_of (r : Rep S F ι h H) : ∀ (n : Nat) (v : List LV) (d : List PyData) (x : List V), LV.dats h n v = some d → RVs S F ι H v x → DpAll S.K H x d
  | 0, _, _, _, e, _ => by simp [LV.dats] at e
  | n + 1, [], d, x, e, z => by simp only [LV.dats] at e; cases e; cases z; exact .nil
  | n + 1, v :: vs, d, x, e, z => by
    simp only [LV.dats] at e
    split at e
    · rename_i d1 ds1 h1 h2
      cases e
      cases z with | cons a b => exact .cons (dat_of r n v d1 _ h1 a) (dats_of r n vs ds1 _ h2 b)
    · cases e
end
end
def fEq (neg : Bool) (v w : LV) (h : List LO) : R LV := match scL v w with
  | some b => .ok (.bl (if neg then !b else b)) h
  | none => match LV.dat h 20000 v, LV.dat h 20000 w with
    | some d, some e => if SeqAt.shaped d && SeqAt.shaped e then .ok (.bl (if neg then !PyData.eqv d e else PyData.eqv d e)) h else .bad
    | _, _ => .bad
def rEqAll (K : PySem.W.Frag) : R2 := fun x y H Q => rEq x y H Q ∨ rEqD K x y H Q
def rNeAll (K : PySem.W.Frag) : R2 := fun x y H Q => rNe x y H Q ∨ rNeD K x y H Q
theorem op_eqAll {X : Cx} (hu : X.A.units + 64 < cLine) : OpR X (compareOp .Eq) (rEqAll X.K) := op_eq.or (op_eqD hu)
theorem op_neAll {X : Cx} (hu : X.A.units + 64 < cLine) : OpR X (compareOp .NotEq) (rNeAll X.K) := op_ne.or (op_neD hu)
theorem scL_of {S : Sg} {F : Addr → Prop} {ι : List Addr} {H : Hp} {v w : LV} {x y : V} {b : Bool} (zx : RV S F ι H v x) (zy : RV S F ι H w y) (e : scL v w = some b) : scal x y = true ∧ decide (x = y) = b := by
  cases zx <;> cases zy <;> first | (cases e; exact ⟨rfl, rfl⟩) | (cases e; refine ⟨rfl, ?_⟩; simp; done) | (simp [scL] at e; done) | skip
  all_goals (cases e; refine ⟨rfl, ?_⟩)
  all_goals (simp [ofl_inj])
section
variable {S : Se} {E : XK}
theorem vo_eq : VO S E (rEqAll S.K) (fEq false) := fun F ι h H x y v w Q rp zx zy o => by
  unfold fEq at o
  split at o
  · rename_i b e
    obtain ⟨h1, h2⟩ := scL_of zx zy e
    refine .inl ⟨h1, ?_⟩
    rw [h2]
    exact Ok.now (rel := RV S.toSg) o rp (.bl _)
  · split at o
    · rename_i d e h1 h2
      split at o
      · rename_i hs
        rw [Bool.and_eq_true] at hs
        exact .inr ⟨d, e, dat_of rp _ _ _ _ h1 zx, dat_of rp _ _ _ _ h2 zy, hs.1, hs.2, Ok.now (rel := RV S.toSg) o rp (.bl _)⟩
      · exact o.elim
    · exact o.elim
theorem vo_ne : VO S E (rNeAll S.K) (fEq true) := fun F ι h H x y v w Q rp zx zy o => by
  unfold fEq at o
  split at o
  · rename_i b e
    obtain ⟨h1, h2⟩ := scL_of zx zy e
    refine .inl ⟨h1, ?_⟩
    rw [h2]
    exact Ok.now (rel := RV S.toSg) o rp (.bl _)
  · split at o
    · rename_i d e h1 h2
      split at o
      · rename_i hs
        rw [Bool.and_eq_true] at hs
        exact .inr ⟨d, e, dat_of rp _ _ _ _ h1 zx, dat_of rp _ _ _ _ h2 zy, hs.1, hs.2, Ok.now (rel := RV S.toSg) o rp (.bl _)⟩
      · exact o.elim
    · exact o.elim
end
/-! ### is -/
def fIsN (neg : Bool) (v w : LV) (h : List LO) : R LV := match w with
  | .non => match v with
    | .non => .ok (.bl (!neg)) h
    | _ => .ok (.bl neg) h
  | .bl b => match v with
    | .bl a => .ok (.bl (if neg then !decide (a = b) else decide (a = b))) h
    | .non => .ok (.bl neg) h
    | _ => .bad
  | _ => .bad
def rIsAll : R2 := fun x y H Q => (y = .non ∧ Q (.bl (decide (x = .non))) H) ∨ rIsB x y H Q ∨ (x = .non ∧ (∃ b, y = .bl b) ∧ Q (.bl false) H)
def rNotAll : R2 := fun x y H Q => (y = .non ∧ Q (.bl (!decide (x = .non))) H) ∨ rNotB x y H Q ∨ (x = .non ∧ (∃ b, y = .bl b) ∧ Q (.bl true) H)
theorem op_isNB {X : Cx} : OpR X (compareOp .Is) (fun x y H Q => x = .non ∧ (∃ b, y = .bl b) ∧ Q (.bl false) H) := by
  rintro pins s σ H x y v u Q I rx ry ⟨rfl, ⟨b, rfl⟩, q⟩
  cases rx
  cases ry
  exact wpAny_is_other rfl (fun z => nomatch z) ⟨.bl false, H, I, rfl, q⟩
theorem op_notNB {X : Cx} : OpR X (compareOp .IsNot) (fun x y H Q => x = .non ∧ (∃ b, y = .bl b) ∧ Q (.bl true) H) := by
  rintro pins s σ H x y v u Q I rx ry ⟨rfl, ⟨b, rfl⟩, q⟩
  cases rx
  cases ry
  exact wpAny_isNot_other rfl (fun z => nomatch z) ⟨.bl true, H, I, rfl, q⟩
theorem op_isAll {X : Cx} : OpR X (compareOp .Is) rIsAll := op_isN.or (op_isBl.or op_isNB)
theorem op_notAll {X : Cx} : OpR X (compareOp .IsNot) rNotAll := op_notN.or (op_notBl.or op_notNB)
section
variable {S : Se} {E : XK}
theorem vo_is : VO S E rIsAll (fIsN false) := fun F ι h H x y v w Q rp zx zy o => by
  unfold fIsN at o
  cases zy with
  | non =>
    refine .inl ⟨rfl, ?_⟩
    cases zx <;> exact Ok.now (rel := RV S.toSg) o rp (.bl _)
  | bl b =>
    cases zx with
    | bl a => exact .inr (.inl ⟨a, b, rfl, rfl, Ok.now (rel := RV S.toSg) o rp (.bl _)⟩)
    | non => exact .inr (.inr ⟨rfl, ⟨b, rfl⟩, Ok.now (rel := RV S.toSg) o rp (.bl _)⟩)
    | _ => exact o.elim
  | _ => exact o.elim
theorem vo_not : VO S E rNotAll (fIsN true) := fun F ι h H x y v w Q rp zx zy o => by
  unfold fIsN at o
  cases zy with
  | non =>
    refine .inl ⟨rfl, ?_⟩
    cases zx <;> exact Ok.now (rel := RV S.toSg) o rp (.bl _)
  | bl b =>
    cases zx with
    | bl a => exact .inr (.inl ⟨a, b, rfl, rfl, Ok.now (rel := RV S.toSg) o rp (.bl _)⟩)
    | non => exact .inr (.inr ⟨rfl, ⟨b, rfl⟩, Ok.now (rel := RV S.toSg) o rp (.bl _)⟩)
    | _ => exact o.elim
  | _ => exact o.elim
end
/-! ### written dicts: by their place -/
def KIn (K : PySem.W.Frag) (w : World) (p : Addr) (x : Str) (b : Bool) : Prop :=
  ∃ es n r, K.lookup p = some ⟨.type "dict", none, .dict es n, #[]⟩ ∧ PySem.W.KeysLit w.params es.toList ∧ (p == sysModules) = false ∧ PySem.W.nsIn K p x = some r ∧ r.isSome = b
def rInK (K : PySem.W.Frag) (w : World) : R2 := fun x y H Q => ∃ p z b, x = .str z ∧ y = .ref p ∧ KIn K w p z b ∧ Q (.bl b) H
theorem op_in_kd {X : Cx} : OpR X (compareOp .In) (rInK X.K X.w) := by
  intro pins s σ H x y v u Q I rx ry h
  obtain ⟨p, z, b, rfl, rfl, ⟨es, n, r, hl, hk, lo, e, hb⟩, q⟩ := h
  obtain ⟨t, rfl⟩ := rx
  obtain rfl : u = Value.ref p := ry
  refine wpAny_in_of (strKind_is X.prog X.w z t) lo (PySem.W.mapOf_K (prog := X.prog) (w := X.w) I.kIn hl hk) ?_
  rw [PySem.W.find_K hl e]
  exact ⟨.bl b, H, I.tok _, by rw [hb]; rfl, q⟩
/-- a table: what a written dict has at those keys that are asked for -/
abbrev KT := List (List Nat × Option LV)
structure KTab (S : Sg) (p : Addr) (t : KT) : Prop where
  has : ∀ k o, t.lookup k = some o → KIn S.K S.w p ⟨k.toArray⟩ o.isSome
  get : ∀ k v, t.lookup k = some (some v) → ∃ x, KDct S.K S.w p ⟨k.toArray⟩ x ∧ ∀ F ι H, RV S F ι H v x
def mInK (t : KT) (ma : ME) : ME := fun ρ h => (ma ρ h).bind fun v h1 => match v with
  | .str k => match t.lookup k with
    | some o => .ok (.bl o.isSome) h1
    | none => .bad
  | _ => .bad
def mIxK (t : KT) (ma : ME) : ME := fun ρ h => (ma ρ h).bind fun v h1 => match v with
  | .str k => match t.lookup k with
    | some (some v) => .ok v h1
    | _ => .bad
  | _ => .bad
section
variable {S : Se} {E : XK} {ta tb : TE} {ma mb : ME}
theorem se_inK {p : Addr} {t : KT} (T : KTab S.toSg p t) (ha : SE S E ta ma) : SE S E (tOp (rInK S.K S.w) ta (tC (.ref p))) (mInK t ma) := fun F ι h H ρ σ Q rp rs o =>
  ha F ι h H ρ σ _ rp rs (o.seq fun F1 ι1 H1 h1 v x _ e1 rp1 zx o1 => by
    cases zx with
    | str k =>
      dsimp only at o1
      split at o1
      · rename_i ov e
        exact ⟨p, _, ov.isSome, rfl, rfl, T.has k ov e, Ok.now (rel := RV S.toSg) o1 rp1 (.bl _)⟩
      · exact o1.elim
    | _ => exact o1.elim)
theorem se_ixK {p : Addr} {t : KT} (T : KTab S.toSg p t) (hb : SE S E tb mb) : SE S E (tOp (rIxD S.K S.w) (tC (.ref p)) tb) (mIxK t mb) := fun F ι h H ρ σ Q rp rs o =>
  hb F ι h H ρ σ _ rp rs (o.seq fun F1 ι1 H1 h1 v x _ e1 rp1 zx o1 => by
    cases zx with
    | str k =>
      dsimp only at o1
      split at o1
      · rename_i lv e
        obtain ⟨y, hy, zy⟩ := T.get k lv e
        exact ⟨p, _, y, rfl, rfl, hy, Ok.now (rel := RV S.toSg) o1 rp1 (zy _ _ _)⟩
      · exact o1.elim
    | _ => exact o1.elim)
end
/-! ### x in a text, a list, a tuple -/
def flatL : LV → Bool
  | .non => true | .bl _ => true | .int _ => true | .str _ => true | _ => false
def eqF : LV → LV → Bool
  | .non, .non => true
  | .bl a, .bl b => a == b
  | .bl a, .int b => (if a then 1 else 0) == b
  | .int a, .bl b => a == (if b then 1 else 0)
  | .int a, .int b => a == b
  | .str a, .str b => a == b
  | _, _ => false
def LV.seq (h : List LO) : LV → Option (List LV)
  | .tup xs => some xs
  | x => x.lsf h
def fIn (neg : Bool) (v w : LV) (h : List LO) : R LV := match v, w with
  | .str [c], .str z => .ok (.bl (if neg then !decide (c ∈ z) else decide (c ∈ z))) h
  | v, w => match w.seq h with
    | some ys => if flatL v && ys.all flatL then .ok (.bl (if neg then !(ys.any fun y => eqF y v) else ys.any fun y => eqF y v)) h else .bad
    | none => .bad
def rInAll (K : PySem.W.Frag) : R2 := fun x y H Q => (∃ (c : Nat) (z : Str), x = .str ⟨#[c]⟩ ∧ y = .str z ∧ Q (.bl (decide (c ∈ z.cps.toList))) H) ∨ rIn K false x y H Q
def rNiAll (K : PySem.W.Frag) : R2 := fun x y H Q => (∃ (c : Nat) (z : Str), x = .str ⟨#[c]⟩ ∧ y = .str z ∧ Q (.bl (!decide (c ∈ z.cps.toList))) H) ∨ rIn K true x y H Q
theorem op_inAll {X : Cx} : OpR X (compareOp .In) (rInAll X.K) := op_in_sign.or op_in_seq
theorem op_niAll {X : Cx} : OpR X (compareOp .NotIn) (rNiAll X.K) := op_notIn_sign.or op_notIn_seq
section
variable {S : Sg} {F : Addr → Prop} {ι : List Addr} {H : Hp} {h : List LO}
theorem seq_of (r : Rep S F ι h H) {v : LV} {x : V} {xs : List LV} (z : RV S F ι H v x) (e : v.seq h = some xs) : ∃ a vs, x = .ref a ∧ (SqL S.K H a vs ∨ SqT S.K H a vs) ∧ RVs S F ι H xs vs := by
  cases z with
  | tup a b => cases e; exact ⟨_, _, rfl, .inr a, b⟩
  | fz a b => cases e; exact ⟨_, _, rfl, .inl a.sq, b⟩
  | vl a n b => cases e; exact ⟨_, _, rfl, .inl (.of a), b⟩
  | ref q =>
    obtain ⟨a, vs, e1, e2, e3⟩ := lst_of r (.ref q) (show LV.lst h _ = some xs from e)
    exact ⟨a, vs, e1, .inl (.of e2), e3⟩
  | _ => cases e
theorem flat_of {v : LV} {x : V} (z : RV S F ι H v x) (f : flatL v = true) : flatV x = true := by
  cases z <;> first | rfl | (simp [flatL] at f; done)
theorem eqF_of {v w : LV} {x y : V} (z : RV S F ι H v x) (z2 : RV S F ι H w y) (f : flatL v = true) (g : flatL w = true) : eqV x y = eqF v w := by
  cases z <;> first | (simp [flatL] at f; done) | skip
  all_goals (cases z2 <;> first | (simp [flatL] at g; done) | rfl | skip)
  rename_i a b
  show ((⟨a.toArray⟩ : Str) == ⟨b.toArray⟩) = (a == b)
  rw [Bool.eq_iff_iff, beq_iff_eq, beq_iff_eq]
  exact ofl_inj
theorem flats_of : ∀ {vs : List LV} {xs : List V}, RVs S F ι H vs xs → vs.all flatL = true → xs.all flatV = true
  | [], _, z, _ => by cases z; rfl
  | v :: vs, _, z, f => by
    rw [List.all_cons, Bool.and_eq_true] at f
    cases z with
    | cons a b => rw [List.all_cons, flat_of a f.1, flats_of b f.2]; rfl
theorem inV_of {v : LV} {x : V} (z : RV S F ι H v x) (f : flatL v = true) : ∀ {vs : List LV} {xs : List V}, RVs S F ι H vs xs → vs.all flatL = true → inV x xs = vs.any fun y => eqF y v
  | [], _, z2, _ => by cases z2; rfl
  | w :: vs, _, z2, g => by
    rw [List.all_cons, Bool.and_eq_true] at g
    cases z2 with
    | cons a b =>
      have ih := inV_of z f b g.2
      unfold inV at ih ⊢
      rw [List.any_cons, List.any_cons, ih, eqF_of a z g.1 f]
end
section
variable {S : Se} {E : XK}
theorem vo_in : VO S E (rInAll S.K) (fIn false) := fun F ι h H x y v w Q rp zx zy o => by
  unfold fIn at o
  split at o
  · cases zx; cases zy
    exact .inl ⟨_, _, rfl, rfl, Ok.now (rel := RV S.toSg) o rp (.bl _)⟩
  · split at o
    · rename_i ys e
      split at o
      · rename_i hf
        rw [Bool.and_eq_true] at hf
        obtain ⟨a, vs, rfl, hs, z⟩ := seq_of rp zy e
        refine .inr ⟨a, vs, rfl, hs, flat_of zx hf.1, flats_of z hf.2, ?_⟩
        rw [inV_of zx hf.1 z hf.2]
        exact Ok.now (rel := RV S.toSg) o rp (.bl _)
      · exact o.elim
    · exact o.elim
theorem vo_ni : VO S E (rNiAll S.K) (fIn true) := fun F ι h H x y v w Q rp zx zy o => by
  unfold fIn at o
  split at o
  · cases zx; cases zy
    exact .inl ⟨_, _, rfl, rfl, Ok.now (rel := RV S.toSg) o rp (.bl _)⟩
  · split at o
    · rename_i ys e
      split at o
      · rename_i hf
        rw [Bool.and_eq_true] at hf
        obtain ⟨a, vs, rfl, hs, z⟩ := seq_of rp zy e
        refine .inr ⟨a, vs, rfl, hs, flat_of zx hf.1, flats_of z hf.2, ?_⟩
        rw [inV_of zx hf.1 z hf.2]
        exact Ok.now (rel := RV S.toSg) o rp (.bl _)
      · exact o.elim
    · exact o.elim
end
/-! ### items, slices -/
def fIx (v w : LV) (h : List LO) : R LV := match v, w with
  | .str z, .int i => if z.length ≤ 60000 then match atI z i with
    | some c => .ok (.str [c]) h
    | none => .bad else .bad
  | v, .int i => match v.seq h with
    | some ys => match atI ys i with
      | some y => .ok y h
      | none => .bad
    | none => .bad
  | _, _ => .bad
def cutL {α : Type} (xs : List α) (lo hi : Option Int) : List α := (xs.drop (HT.sIx xs.length 0 lo)).take (HT.sIx xs.length xs.length hi - HT.sIx xs.length 0 lo)
def fSl (v : LV) (lo hi : Option Int) (h : List LO) : R LV := match v with
  | .str z => if z.length ≤ 60000 then .ok (.str (cutL z lo hi)) h else .bad
  | .tup xs => .ok (.tup (cutL xs lo hi)) h
  | v => match v.lsf h with
    | some xs => .ok (.vl (cutL xs lo hi)) h
    | none => .bad
def mNoP : MO := fun _ h => .ok none h
def mPart (ma : ME) : MO := fun ρ h => (ma ρ h).bind fun v h1 => match v with
  | .int i => .ok (some i) h1
  | _ => .bad
def mSl (ma : ME) (ml mh : MO) : ME := fun ρ h => (ma ρ h).bind fun v h1 => (ml ρ h1).bind fun lo h2 => (mh ρ h2).bind fun hi h3 => fSl v lo hi h3
def rSlAll (K : PySem.W.Frag) : V → Option Int → Option Int → Hp → VK → Prop := fun x lo hi H Q => rSlS x lo hi H Q ∨ rSlA K x lo hi H Q ∨ rSlL K x lo hi H Q
theorem sl_all {X : Cx} : SlR X (rSlAll X.K) := sl_str.or (sl_tupA.or sl_list)
section
variable {S : Sg} {F : Addr → Prop} {ι : List Addr} {H : Hp} {h : List LO}
theorem atI_of {vs : List LV} {xs : List V} {i : Int} {y : LV} (z : RVs S F ι H vs xs) (e : atI vs i = some y) : ∃ x, atI xs i = some x ∧ RV S F ι H y x := by
  unfold atI at e ⊢
  rw [← z.length]
  cases q : ixN vs.length i with
  | none => rw [q] at e; cases e
  | some j =>
    rw [q] at e
    exact z.at e
theorem cut_of {vs : List LV} {xs : List V} (z : RVs S F ι H vs xs) (lo hi : Option Int) : RVs S F ι H (cutL vs lo hi) (cutV xs lo hi) := by
  unfold cutL cutV
  rw [← z.length]
  exact (z.drop _).take _
theorem cut_all {xs : List LV} {lo hi : Option Int} (h1 : HT.sIx xs.length 0 lo = 0) (h2 : HT.sIx xs.length xs.length hi = xs.length) : cutL xs lo hi = xs := by
  unfold cutL
  rw [h1, h2, List.drop_zero, Nat.sub_zero, List.take_length]
end
section
variable {S : Se} {E : XK} {te : TE} {me : ME} {tl th : TO} {ml mh : MO}
theorem vo_ix : VO S E (rIx S.K) fIx := fun F ι h H x y v w Q rp zx zy o => by
  unfold fIx at o
  split at o
  · cases zx; cases zy
    split at o
    · rename_i hl
      split at o
      · rename_i c e
        refine .inr (.inr ⟨_, _, c, rfl, rfl, le_sz (by rw [ofl_len]; exact hl), e, Ok.now (rel := RV S.toSg) o rp (RV.str [c])⟩)
      · exact o.elim
    · exact o.elim
  · split at o
    · rename_i ys e
      split at o
      · rename_i y2 e2
        obtain ⟨a, vs, rfl, hs, z⟩ := seq_of rp zx e
        obtain ⟨x2, e3, z3⟩ := atI_of z e2
        cases zy
        rcases hs with hs | hs
        · exact .inl ⟨a, vs, _, x2, rfl, rfl, hs, e3, Ok.now (rel := RV S.toSg) o rp z3⟩
        · exact .inr (.inl ⟨a, vs, _, x2, rfl, rfl, hs, e3, Ok.now (rel := RV S.toSg) o rp z3⟩)
      · exact o.elim
    · exact o.elim
  · exact o.elim
theorem so_none : SO S E tNoPart mNoP := fun F ι h H ρ σ Q rp rs o => Ok.now (v := none) o rp rfl
theorem so_some (ha : SE S E te me) : SO S E (tPart te) (mPart me) := fun F ι h H ρ σ Q rp rs o =>
  ha F ι h H ρ σ _ rp rs (o.seq fun F1 ι1 H1 h1 v x _ e1 rp1 z o1 => by
    cases z with
    | int i => exact ⟨i, rfl, Ok.now (v := some i) o1 rp1 rfl⟩
    | _ => exact o1.elim)
theorem se_sl (ha : SE S E te me) (hl : SO S E tl ml) (hh : SO S E th mh) : SE S E (tSl (rSlAll S.K) te tl th) (mSl me ml mh) := fun F ι h H ρ σ Q rp rs o =>
  ha F ι h H ρ σ _ rp rs (o.seq fun F1 ι1 H1 h1 v x _ e1 rp1 zx o1 => hl F1 ι1 h1 H1 ρ σ _ rp1 (rs.ext rp e1) (o1.seq fun F2 ι2 H2 h2 lo lo' _ e2 rp2 zl o2 =>
    hh F2 ι2 h2 H2 ρ σ _ rp2 ((rs.ext rp e1).ext rp1 e2) (o2.seq fun F3 ι3 H3 h3 hi hi' _ e3 rp3 zh o3 => by
      cases zl
      cases zh
      have zx3 := (zx.ext rp1 e2).ext rp2 e3
      unfold fSl at o3
      split at o3
      · cases zx3
        split at o3
        · rename_i hz
          refine .inl ⟨_, rfl, le_sz (by rw [ofl_len]; exact hz), ?_⟩
          refine Ok.now (rel := RV S.toSg) o3 rp3 ?_
          rename_i z _
          have e : cutS (⟨z.toArray⟩ : Str) lo hi = ⟨(cutL z lo hi).toArray⟩ := by
            unfold cutS cutL
            rw [ofl_len]
          rw [e]
          exact .str _
        · exact o3.elim
      · cases zx3 with
        | tup a b =>
          refine .inr (.inl ⟨_, _, rfl, a, fun q => ?_, fun _ p hp => ok_tup rp3 (cut_of b lo hi) o3 hp⟩)
          rw [← b.length] at q
          rw [cut_all q.1 q.2] at o3
          exact Ok.now (rel := RV S.toSg) o3 rp3 (.tup a b)
      · split at o3
        · rename_i xs e
          obtain ⟨a, vs, rfl, hs, z⟩ := lsf_of rp3 zx3 e
          exact .inr (.inr ⟨a, vs, rfl, hs, fun p hp => ok_vl rp3 (cut_of z lo hi) o3 hp⟩)
        · exact o3.elim)))
end
end Rm
namespace Rm
open PySem PySem.Spec PyProof.Rows L2
theorem join_ofl : ∀ ls : List (List Nat), Txt.join "" (ls.map fun z => (⟨z.toArray⟩ : Str)) = ⟨ls.flatten.toArray⟩ := by
  intro ls
  show Builtin.Str.glued _ _ = _
  rw [StrLaws.glued_eq_join]
  induction ls with
  | nil => rfl
  | cons x ls ih =>
    have e : (("" : Str)) = ⟨#[]⟩ := rfl
    rw [e] at ih ⊢
    rw [List.map_cons, join_nil_cons, ih, ofl_app]
    rfl
/-! ### calls of built-ins, by values -/
def VC (S : Se) (E : XK) (r : List V → Hp → VK → Prop) (f : List LV → List LO → R LV) : Prop := ∀ F ι h H xs vs Q, Rep S.toSg F ι h H → RVs S.toSg F ι H vs xs → Ok (RV S.toSg) S E F ι H (f vs h) Q → r xs H Q
def mCB (f : List LV → List LO → R LV) (ma : MA) : ME := fun ρ h => (ma ρ h).bind fun vs h1 => f vs h1
def fLen (vs : List LV) (h : List LO) : R LV := match vs with
  | [.str z] => if z.length ≤ 60000 then .ok (.int z.length) h else .bad
  | [v] => match v.seq h with
    | some xs => .ok (.int xs.length) h
    | none => .bad
  | _ => .bad
def fList (vs : List LV) (h : List LO) : R LV := match vs with
  | [v] => match v.seq h with
    | some xs => .ok (.vl xs) h
    | none => .bad
  | _ => .bad
def fTuple (vs : List LV) (h : List LO) : R LV := match vs with
  | [.tup xs] => .ok (.tup xs) h
  | [v] => match v.lsf h with
    | some xs => .ok (.tup xs) h
    | none => .bad
  | _ => .bad
def fSum (vs : List LV) (h : List LO) : R LV := match vs with
  | [v] => match v.lsf h with
    | some xs => match LV.asInts xs with
      | some ns => .ok (.int ns.sum) h
      | none => .bad
    | none => .bad
  | _ => .bad
def fAll (vs : List LV) (h : List LO) : R LV := match vs with
  | [v] => match v.lsf h with
    | some xs => match LV.asBls xs with
      | some bs => .ok (.bl (bs.all id)) h
      | none => .bad
    | none => .bad
  | _ => .bad
def fAny (vs : List LV) (h : List LO) : R LV := match vs with
  | [v] => match v.lsf h with
    | some xs => match LV.asBls xs with
      | some bs => .ok (.bl (bs.any id)) h
      | none => .bad
    | none => .bad
  | _ => .bad
def fAbs (vs : List LV) (h : List LO) : R LV := match vs with
  | [.int i] => .ok (.int (if i < 0 then -i else i)) h
  | _ => .bad
def fInt (vs : List LV) (h : List LO) : R LV := match vs with
  | [.int i] => .ok (.int i) h
  | _ => .bad
def rLenAll (K : PySem.W.Frag) : List V → Hp → VK → Prop := fun xs H Q => (∃ p ys, xs = [.ref p] ∧ (SqL K H p ys ∨ SqT K H p ys) ∧ Q (.int ys.length) H) ∨ ∃ z, xs = [.str z] ∧ z.length ≤ sizeLine ∧ Q (.int z.length) H
theorem call_lenAll {X : Cx} : CallR X (.builtin "len") (rLenAll X.K) := call_len_seq.or call_len_str
def rListOf (K : PySem.W.Frag) : List V → Hp → VK → Prop := fun xs H Q => ∃ p ys, xs = [.ref p] ∧ (SqL K H p ys ∨ SqT K H p ys) ∧ ∀ l, H l = none → Q (.ref l) (upd H l (.lst ys))
def rTupOf (K : PySem.W.Frag) : List V → Hp → VK → Prop := fun xs H Q => ∃ p ys, xs = [.ref p] ∧ ((SqL K H p ys ∧ ∀ l, H l = none → Q (.ref l) (upd H l (.tup ys))) ∨ (SqT K H p ys ∧ Q (.ref p) H))
theorem call_listOf {X : Cx} : CallR X (.type "list") (rListOf X.K) := call_list_of
theorem call_tupOf {X : Cx} : CallR X (.type "tuple") (rTupOf X.K) := call_tuple_of
def rAbs : List V → Hp → VK → Prop := fun xs H Q => ∃ i, xs = [.int i] ∧ Q (.int (if i < 0 then -i else i)) H
theorem call_absR {X : Cx} : CallR X (.builtin "abs") rAbs := call_abs
def rIntR : List V → Hp → VK → Prop := fun xs H Q => (∃ i, xs = [V.int i] ∧ Q (.int i) H) ∨ ∃ k, xs = [V.bl k] ∧ Q (.int (if k then 1 else 0)) H
theorem call_intR {X : Cx} : CallR X (.type "int") rIntR := call_int1
section
variable {S : Se} {E : XK} {tA : TA} {mA : MA} {ta : TE} {ma : ME}
theorem se_cb {r : List V → Hp → VK → Prop} {f : List LV → List LO → R LV} (hr : VC S E r f) (ha : SA S E tA mA) : SE S E (tCB r tA) (mCB f mA) := fun F ι h H ρ σ Q rp rs o =>
  ha F ι h H ρ σ _ rp rs (o.seq fun F1 ι1 H1 h1 vs xs _ e1 rp1 z o1 => hr F1 ι1 h1 H1 xs vs Q rp1 z o1)
theorem vc_len : VC S E (rLenAll S.K) fLen := fun F ι h H xs vs Q rp z o => by
  unfold fLen at o
  split at o
  · cases z with
    | cons a b =>
      cases b; cases a
      split at o
      · rename_i hz
        refine .inr ⟨_, rfl, le_sz (by rw [ofl_len]; exact hz), ?_⟩
        rw [ofl_len]
        exact Ok.now (rel := RV S.toSg) o rp (.int _)
      · exact o.elim
  · cases z with
    | cons a b =>
      cases b
      split at o
      · rename_i ys e
        obtain ⟨p, zs, rfl, hs, z⟩ := seq_of rp a e
        refine .inl ⟨p, zs, rfl, hs, ?_⟩
        rw [← z.length]
        exact Ok.now (rel := RV S.toSg) o rp (.int _)
      · exact o.elim
  · exact o.elim
theorem vc_list : VC S E (rListOf S.K) fList := fun F ι h H xs vs Q rp z o => by
  unfold fList at o
  split at o
  · cases z with
    | cons a b =>
      cases b
      split at o
      · rename_i ys e
        obtain ⟨p, zs, rfl, hs, z⟩ := seq_of rp a e
        exact ⟨p, zs, rfl, hs, fun l hl => ok_vl rp z o hl⟩
      · exact o.elim
  · exact o.elim
theorem vc_tuple : VC S E (rTupOf S.K) fTuple := fun F ι h H xs vs Q rp z o => by
  unfold fTuple at o
  split at o
  · cases z with
    | cons a b =>
      cases b
      cases a with
      | tup c d => exact ⟨_, _, rfl, .inr ⟨c, Ok.now (rel := RV S.toSg) o rp (.tup c d)⟩⟩
  · cases z with
    | cons a b =>
      cases b
      split at o
      · rename_i ys e
        obtain ⟨p, zs, rfl, hs, z⟩ := lsf_of rp a e
        exact ⟨p, zs, rfl, .inl ⟨hs, fun l hl => ok_tup rp z o hl⟩⟩
      · exact o.elim
  · exact o.elim
theorem vc_sum : VC S E (rSum S.K) fSum := fun F ι h H xs vs Q rp z o => by
  unfold fSum at o
  split at o
  · cases z with
    | cons a b =>
      cases b
      split at o
      · rename_i ys e
        split at o
        · rename_i ns e2
          obtain ⟨p, zs, rfl, hs, z⟩ := lsf_of rp a e
          rw [asInts_eq e2] at z
          rw [z.ints] at hs
          exact ⟨p, ns, rfl, hs, Ok.now (rel := RV S.toSg) o rp (.int _)⟩
        · exact o.elim
      · exact o.elim
  · exact o.elim
theorem vc_all : VC S E (rAll S.K) fAll := fun F ι h H xs vs Q rp z o => by
  unfold fAll at o
  split at o
  · cases z with
    | cons a b =>
      cases b
      split at o
      · rename_i ys e
        split at o
        · rename_i ns e2
          obtain ⟨p, zs, rfl, hs, z⟩ := lsf_of rp a e
          rw [asBls_eq e2] at z
          rw [z.bls] at hs
          exact ⟨p, ns, rfl, hs, Ok.now (rel := RV S.toSg) o rp (.bl _)⟩
        · exact o.elim
      · exact o.elim
  · exact o.elim
theorem vc_any : VC S E (rAny S.K) fAny := fun F ι h H xs vs Q rp z o => by
  unfold fAny at o
  split at o
  · cases z with
    | cons a b =>
      cases b
      split at o
      · rename_i ys e
        split at o
        · rename_i ns e2
          obtain ⟨p, zs, rfl, hs, z⟩ := lsf_of rp a e
          rw [asBls_eq e2] at z
          rw [z.bls] at hs
          exact ⟨p, ns, rfl, hs, Ok.now (rel := RV S.toSg) o rp (.bl _)⟩
        · exact o.elim
      · exact o.elim
  · exact o.elim
theorem vc_abs : VC S E rAbs fAbs := fun F ι h H xs vs Q rp z o => by
  unfold fAbs at o
  split at o
  · cases z with
    | cons a b =>
      cases b; cases a
      exact ⟨_, rfl, Ok.now (rel := RV S.toSg) o rp (.int _)⟩
  · exact o.elim
theorem vc_int : VC S E rIntR fInt := fun F ι h H xs vs Q rp z o => by
  unfold fInt at o
  split at o
  · cases z with
    | cons a b =>
      cases b; cases a
      exact .inl ⟨_, rfl, Ok.now (rel := RV S.toSg) o rp (.int _)⟩
  · exact o.elim
end
/-! ### isinstance -/
def tyN (h : List LO) : LV → Option String
  | .non => some "NoneType" | .bl _ => some "bool" | .int _ => some "int" | .str _ => some "str" | .tup _ => some "tuple" | .vl _ => some "list" | .fz _ => none
  | .ref n => match h[n]? with
    | some (.lst _) => some "list"
    | _ => none
  | _ => none
def mIsi (tb : List LO → LV → Option Bool) (ma : ME) : ME := fun ρ h => (ma ρ h).bind fun v h1 => match tb h1 v with
  | some b => .ok (.bl b) h1
  | none => .bad
structure IsT (S : Se) (u : Value) (tb : List LO → LV → Option Bool) : Prop where
  ok : ∀ F ι h H v x b, Rep S.toSg F ι h H → RV S.toSg F ι H v x → tb h v = some b → ∃ t, TyX S.K H x t ∧ PySem.W.kitOne S.K t u = some b
theorem tyN_of {S : Sg} {F : Addr → Prop} {ι : List Addr} {H : Hp} {h : List LO} (r : Rep S F ι h H) {v : LV} {x : V} {n : String} (z : RV S F ι H v x) (e : tyN h v = some n) : TyX S.K H x (.type n) := by
  cases z with
  | non => cases e; exact .base .non
  | bl b => cases e; exact .base (.bl b)
  | int b => cases e; exact .base (.int b)
  | str b => cases e; exact .base (.str _)
  | tup a b =>
    cases e
    rcases a with (a | ⟨o, a⟩) | ⟨o, its, n, l, c, _⟩
    · exact .base (.tup a)
    · exact .fTuple a
    · exact .kTuple l c
  | vl a _ b => cases e; exact .base (.lst a)
  | fz a b => cases e
  | ref q =>
    simp only [tyN] at e
    split at e
    · rename_i xs hi
      cases e
      have g := r.at hi q
      cases g with
      | lst a b => exact .base (.lst a)
    · cases e
  | vd _ _ _ _ _ _ _ => cases e
  | sd _ _ _ _ => cases e
  | obj _ _ _ _ => cases e
def tbTy (T : String) (h : List LO) (v : LV) : Option Bool := match tyN h v with
  | some n => kitB n T
  | none => none
theorem isT_ty {S : Se} {T : String} : IsT S (.type T) (tbTy T) := ⟨fun F ι h H v x b rp z e => by
  unfold tbTy at e
  split at e
  · rename_i n hn
    exact ⟨.type n, tyN_of rp z hn, kit_ty e⟩
  · cases e⟩
/-- an own class: by the class of the instance -/
structure ObjC (S : Se) (C : Nat) : Prop where
  cl : Cls S.K (S.ct C)
  ha : PySem.W.findIn S.K (.ref (S.ct C)) "__class__" = some (some (.builtin "object.__class__"))
  hn : PySem.W.specialIn S.K (.builtin "object.__class__") "__get__" = some (some (.builtin "getset_descriptor.__get__"))
  htk : PySem.W.takesIn S.K (.builtin "object.__class__") = some true
  hm : PySem.W.mroIn S.K (S.ct C) (.type "object") = some true
def tbOwn (t : List (Nat × Bool)) (ty : Option Bool) (h : List LO) (v : LV) : Option Bool := match v with
  | .obj C _ => t.lookup C
  | _ => none
theorem isT_own {S : Se} {u : Value} {t : List (Nat × Bool)} (hk : ∀ C b, t.lookup C = some b → ObjC S C ∧ PySem.W.kitOne S.K (.ref (S.ct C)) u = some b) : IsT S u (tbOwn t none) := ⟨fun F ι h H v x b rp z e => by
  cases z with
  | obj a n c d =>
    obtain ⟨oc, k⟩ := hk _ _ e
    exact ⟨_, .base (.ins a oc.cl oc.ha oc.hn oc.htk oc.hm), k⟩
  | _ => cases e⟩
section
variable {S : Se} {E : XK} {tA : TA} {mA : MA} {ta tb te : TE} {ma mb me : ME}
theorem se_isi {c : V} {u : Value} {tbl : List LO → LV → Option Bool} (k : ClsV c u) (T : IsT S u tbl) (ha : SE S E ta ma) : SE S E (tCB (rIsi S.K) (tCons ta (tCons (tC c) tNil))) (mIsi tbl ma) := fun F ι h H ρ σ Q rp rs o =>
  ha F ι h H ρ σ _ rp rs (o.seq fun F1 ι1 H1 h1 v x _ e1 rp1 z o1 => by
    split at o1
    · rename_i b e
      obtain ⟨t, ht, hk⟩ := T.ok F1 ι1 h1 H1 v x b rp1 z e
      exact ⟨x, c, t, u, b, rfl, k, ht, hk, Ok.now (rel := RV S.toSg) o1 rp1 (.bl _)⟩
    · exact o1.elim)
/-! ### methods of texts and lists -/
def mJoin0 (ma : ME) : ME := fun ρ h => (ma ρ h).bind fun v h1 => match v.seq h1 with
  | some xs => match LV.asStrs xs with
    | some zs => if zs.flatten.length ≤ 60000 then .ok (.str zs.flatten) h1 else .bad
    | none => .bad
  | none => .bad
def rJoin (K : PySem.W.Frag) : V → List V → Hp → VK → Prop := fun x xs H Q => ∃ a p, ∃ ys : List Str, x = .str a ∧ xs = [.ref p] ∧ (SqL K H p (ys.map V.str) ∨ SqT K H p (ys.map V.str)) ∧
    (ys.map (·.length)).sum + ys.length * a.length ≤ 16777216 ∧ Q (.str (Txt.join a ys)) H
theorem sum_len (zs : List (List Nat)) : ((zs.map fun z => (⟨z.toArray⟩ : Str)).map (·.length)).sum = zs.flatten.length := by
  induction zs with
  | nil => rfl
  | cons z zs ih =>
    rw [List.map_cons, List.map_cons, List.sum_cons, ih, List.flatten_cons, List.length_append, ofl_len]
theorem se_join0 (ha : SE S E ta ma) : SE S E (tM1 (rJoin S.K) (tC (.str "")) ta) (mJoin0 ma) := fun F ι h H ρ σ Q rp rs o => ⟨⟨_, rfl⟩,
  ha F ι h H ρ σ _ rp rs (o.seq fun F1 ι1 H1 h1 v x _ e1 rp1 z o1 => by
    split at o1
    · rename_i xs e
      split at o1
      · rename_i zs e2
        split at o1
        · rename_i hl
          obtain ⟨p, vs, rfl, hs, z⟩ := seq_of rp1 z e
          rw [asStrs_eq e2] at z
          rw [z.strs] at hs
          refine ⟨_, p, _, rfl, rfl, hs, ?_, ?_⟩
          · rw [sum_len]
            show _ + _ * 0 ≤ _
            omega
          · rw [join_ofl]
            exact Ok.now (rel := RV S.toSg) o1 rp1 (.str _)
        · exact o1.elim
      · exact o1.elim
    · exact o1.elim)⟩
def fCount (v w : LV) (h : List LO) : R LV := match v, w with
  | .str x, .str y => .ok (.int (Txt.count ⟨x.toArray⟩ ⟨y.toArray⟩)) h
  | _, _ => .bad
def rCountT : V → List V → Hp → VK → Prop := fun x xs H Q => ∃ a b, x = .str a ∧ xs = [.str b] ∧ Q (.int (Txt.count a b)) H
def mM1 (f : LV → LV → List LO → R LV) (ma mb : ME) : ME := fun ρ h => (ma ρ h).bind fun v h1 => match v with
  | .str a => (mb ρ h1).bind fun w h2 => f (.str a) w h2
  | _ => .bad
theorem se_m1 {r : V → List V → Hp → VK → Prop} {f : LV → LV → List LO → R LV} (hr : VO S E (fun x y H Q => r x [y] H Q) f) (ha : SE S E ta ma) (hb : SE S E tb mb) : SE S E (tM1 r ta tb) (mM1 f ma mb) := fun F ι h H ρ σ Q rp rs o =>
  ha F ι h H ρ σ _ rp rs (o.seq fun F1 ι1 H1 h1 v x _ e1 rp1 zx o1 => by
    cases zx with
    | str a => exact ⟨⟨_, rfl⟩, hb F1 ι1 h1 H1 ρ σ _ rp1 (rs.ext rp e1) (o1.seq fun F2 ι2 H2 h2 w y _ e2 rp2 zy o2 => hr F2 ι2 h2 H2 _ y _ w Q rp2 (.str a) zy o2)⟩
    | _ => exact o1.elim)
theorem vo_count : VO S E (fun x y H Q => rCountT x [y] H Q) fCount := fun F ι h H x y v w Q rp zx zy o => by
  unfold fCount at o
  split at o
  · cases zx; cases zy
    exact ⟨_, _, rfl, rfl, Ok.now (rel := RV S.toSg) o rp (.int _)⟩
  · exact o.elim
end
/-! ### changing objects -/
section
variable {S : Se} {E : XK} {F : Addr → Prop} {ι : List Addr} {H : Hp} {h : List LO}
theorem Rep.nt (r : Rep S.toSg F ι h H) {a : Addr} (ha : a ∈ ι) : ∀ xs, H a ≠ some (.tup xs) := fun xs e => by
  obtain ⟨n, hn⟩ := List.mem_iff_getElem?.mp ha
  have hlt : n < h.length := by rw [← r.len]; exact (List.getElem?_eq_some_iff.mp hn).1
  have z := r.obj n _ a (List.getElem?_eq_getElem hlt) hn
  generalize h[n] = oo at z
  cases z with
  | lst q => rw [e] at q; cases q
  | dic q => rw [e] at q; cases q
  | ins q => rw [e] at q; cases q
theorem EX.write (r : Rep S.toSg F ι h H) {a : Addr} {o : HO} (ha : a ∈ ι) : EX S.toSg F ι H F ι (upd H a o) := by
  refine ⟨fun b vs q => ?_, fun b u n q => by rw [upd_ne (fun e => n (by rw [e]; exact ha))]; exact q, ⟨[], by simp, fun _ z => nomatch z⟩, fun _ z => z, fun _ z n => absurd z n, fun b q => ?_⟩
  · rcases q with (q | ⟨u, q⟩) | q
    · exact .inl (.inl (by rw [upd_ne (fun e => r.nt ha vs (by rw [← e]; exact q))]; exact q))
    · exact .inl (.inr ⟨u, by rw [upd_ne (fun e => r.nfr q (by rw [e]; exact ha))]; exact q⟩)
    · exact .inr q
  · by_cases e : b = a
    · subst e; rw [upd_same] at q; cases q
    · rw [upd_ne e] at q; exact q
theorem Rep.write (r : Rep S.toSg F ι h H) {a : Addr} {n : Nat} {o : HO} {u : LO} (ha : ι[n]? = some a) (z : RO S.toSg F ι (upd H a o) u a) : Rep S.toSg F ι (h.set n u) (upd H a o) := by
  refine ⟨by rw [List.length_set]; exact r.len, r.nd, r.inF, fun b hb e => ?_, fun i v b h1 h2 => ?_⟩
  · by_cases q : b = a
    · subst q; rw [upd_same] at e; cases e
    · rw [upd_ne q] at e; exact r.dom b hb e
  · by_cases q : i = n
    · subst q
      rw [ha] at h2
      cases h2
      rw [List.getElem?_set_self (by rw [← r.len]; exact (List.getElem?_eq_some_iff.mp ha).1)] at h1
      cases h1
      exact z
    · rw [List.getElem?_set_ne (Ne.symm q)] at h1
      have nb : b ≠ a := fun e => by
        subst e
        exact q ((List.getElem?_inj (List.getElem?_eq_some_iff.mp h2).1 r.nd).mp (h2.trans ha.symm))
      refine (r.obj i v b h1 h2).fwd ((EX.write r (List.mem_of_getElem? ha)).fwd r) fun u q => ?_
      rw [upd_ne nb]
      exact q
/-- a list that changes: what is written, and what is given back -/
theorem ok_set {n : Nat} {a : Addr} {xs : List LV} {vs : List V} {Q : VK} {v : LV} {x : V} (r : Rep S.toSg F ι h H) (ha : ι[n]? = some a) (z : RVs S.toSg F ι H xs vs) (zx : RV S.toSg F ι H v x) (o : Ok (RV S.toSg) S E F ι H (.ok v (h.set n (.lst xs))) Q) : Q x (upd H a (.lst vs)) := by
  have f := (EX.write (S := S) (o := .lst vs) r (List.mem_of_getElem? ha)).fwd r
  exact o F ι _ x (EX.write r (List.mem_of_getElem? ha)) (r.write ha (.lst upd_same (z.fwd f _ _))) (zx.fwd f _ _)
end
def fApp (v w : LV) (h : List LO) : R LV := match v with
  | .ref n => match h[n]? with
    | some (.lst xs) => if xs.length < 60000 then .ok .non (h.set n (.lst (xs ++ [w]))) else .bad
    | _ => .bad
  | _ => .bad
def fPop (v : LV) (h : List LO) : R LV := match v with
  | .ref n => match h[n]? with
    | some (.lst xs) => match xs[xs.length - 1]? with
      | some y => .ok y (h.set n (.lst xs.dropLast))
      | none => .bad
    | _ => .bad
  | _ => .bad
section
variable {S : Se} {E : XK} {ta tb te : TE} {ma mb me : ME}
/-- o.append(e): the list is asked for first -/
def mApp (ma mb : ME) : ME := fun ρ h => (ma ρ h).bind fun v h1 => match v.lst h1 with
  | some _ => (mb ρ h1).bind fun w h2 => fApp v w h2
  | none => .bad
def mPop (ma : ME) : ME := fun ρ h => (ma ρ h).bind fun v h1 => fPop v h1
theorem se_app (ha : SE S E ta ma) (hb : SE S E tb mb) : SE S E (tBM S.K "list" rAppend ta (tCons tb tNil)) (mApp ma mb) := fun F ι h H ρ σ Q rp rs o =>
  ha F ι h H ρ σ _ rp rs (o.seq fun F1 ι1 H1 h1 v x _ e1 rp1 zx o1 => by
    split at o1
    · rename_i xs0 e0
      obtain ⟨a0, vs0, rfl, q0, _⟩ := lst_of rp1 zx e0
      refine ⟨.inl ⟨rfl, vs0, .of q0⟩, hb F1 ι1 h1 H1 ρ σ _ rp1 (rs.ext rp e1) (o1.seq fun F2 ι2 H2 h2 w y _ e2 rp2 zy o2 => ?_)⟩
      have zx2 := zx.ext rp1 e2
      unfold fApp at o2
      split at o2
      · split at o2
        · rename_i xs hx
          split at o2
          · rename_i hl
            cases zx2 with
            | ref q =>
              have g := rp2.at hx q
              cases g with
              | lst g1 g2 => exact ⟨_, _, y, rfl, rfl, g1, Nat.lt_of_lt_of_le (by rw [← g2.length]; exact hl) (by decide), ok_set rp2 q (g2.append (.cons zy .nil)) .non o2⟩
          · exact o2.elim
        · exact o2.elim
      · exact o2.elim
    · exact o1.elim)
theorem RVs.dropLast {S : Sg} {F : Addr → Prop} {ι : List Addr} {H : Hp} {xs : List LV} {vs : List V} (z : RVs S F ι H xs vs) : RVs S F ι H xs.dropLast vs.dropLast := by
  rw [List.dropLast_eq_take, List.dropLast_eq_take, z.length]
  exact z.take _
theorem se_pop (ha : SE S E ta ma) : SE S E (tBM0 S.K "list" rPop ta) (mPop ma) := fun F ι h H ρ σ Q rp rs o =>
  ha F ι h H ρ σ _ rp rs (o.seq fun F1 ι1 H1 h1 v x _ e1 rp1 zx o1 => by
    unfold fPop at o1
    split at o1
    · split at o1
      · rename_i xs hx
        split at o1
        · rename_i y hy
          cases zx with
          | ref q =>
            have g := rp1.at hx q
            cases g with
            | lst g1 g2 =>
              obtain ⟨yv, e2, zy⟩ := g2.at hy
              exact ⟨.inl ⟨rfl, _, .of g1⟩, _, _, yv, rfl, rfl, g1, by rw [← g2.length]; exact e2, ok_set rp1 q g2.dropLast zy o1⟩
        · exact o1.elim
      · exact o1.elim
    · exact o1.elim)
end
end Rm
namespace Rm
open PySem PySem.Spec PyProof.Rows L2
/-! ### statements -/
inductive FV where
  | nx (σ : L2.St) | rt (x : V) | bk (σ : L2.St) | ct (σ : L2.St)
def DQ (D : Ends) : FV → Hp → Prop
  | .nx σ, H => D.nx σ H
  | .rt x, H => D.rt x H
  | .bk σ, H => D.bk σ H
  | .ct σ, H => D.ct σ H
def relF (S : Se) (F : Addr → Prop) (ι : List Addr) (H : Hp) : Fl × Rho → FV → Prop
  | (.nx, ρ), .nx σ => RS S F ι H ρ σ
  | (.rt v, _), .rt x => RV S.toSg F ι H v x
  | (.bk, ρ), .bk σ => RS S F ι H ρ σ
  | (.ct, ρ), .ct σ => RS S F ι H ρ σ
  | _, _ => False
def SS (S : Se) (E : XK) (ts : TS) (m : MS) : Prop := ∀ F ι h H ρ σ D, Rep S.toSg F ι h H → RS S F ι H ρ σ → Ok (relF S) S E F ι H (m ρ h) (DQ D) → ts D σ H
abbrev MG := LV → Rho → List LO → R Rho
abbrev MGs := List LV → Rho → List LO → R Rho
def SG (S : Se) (E : XK) (g : TG) (m : MG) : Prop := ∀ F ι h H ρ σ v x Q, Rep S.toSg F ι h H → RS S F ι H ρ σ → RV S.toSg F ι H v x → Ok (RS S) S E F ι H (m v ρ h) Q → g x σ H Q
def SGs (S : Se) (E : XK) (g : TGs) (m : MGs) : Prop := ∀ F ι h H ρ σ v x Q, Rep S.toSg F ι h H → RS S F ι H ρ σ → RVs S.toSg F ι H v x → Ok (RS S) S E F ι H (m v ρ h) Q → g x σ H Q
def mNext : MS := fun ρ h => .ok (.nx, ρ) h
def mSeq (a b : MS) : MS := fun ρ h => (a ρ h).bind fun r h1 => match r.1 with
  | .nx => b r.2 h1
  | _ => .ok r h1
def mAsg (ma : ME) (g : MG) : MS := fun ρ h => (ma ρ h).bind fun v h1 => (g v ρ h1).bind fun ρ1 h2 => .ok (.nx, ρ1) h2
def mName (i : Nat) : MG := fun v ρ h => .ok (ρ.set i (some v)) h
def mGNil : MGs := fun vs ρ h => match vs with
  | [] => .ok ρ h
  | _ => .bad
def mGCons (g : MG) (r : MGs) : MGs := fun vs ρ h => match vs with
  | v :: vs => (g v ρ h).bind fun ρ1 h1 => r vs ρ1 h1
  | [] => .bad
def mGTup (n : Nat) (g : MGs) : MG := fun v ρ h => match v with
  | .tup xs => if xs.length = n then g xs ρ h else .bad
  | _ => .bad
def mPar (i j : Nat) (ma : MA) : MS := fun ρ h => (ma ρ h).bind fun vs h1 => match vs with
  | [v, w] => .ok (.nx, (ρ.set i (some v)).set j (some w)) h1
  | _ => .bad
def mAug (i : Nat) (ma : ME) (f : Int → Int → Int) : MS := fun ρ h => match ρ[i]? with
  | some (some (.int a)) => (ma ρ h).bind fun v h1 => match v with
    | .int b => .ok (.nx, ρ.set i (some (.int (f a b)))) h1
    | _ => .bad
  | _ => .bad
def mDrop (ma : ME) : MS := fun ρ h => (ma ρ h).bind fun _ h1 => .ok (.nx, ρ) h1
def mRet (ma : ME) : MS := fun ρ h => (ma ρ h).bind fun v h1 => .ok (.rt v, ρ) h1
def mRetN : MS := fun ρ h => .ok (.rt .non, ρ) h
def mBad : MS := fun _ _ => .bad
def mBk : MS := fun ρ h => .ok (.bk, ρ) h
def mCt : MS := fun ρ h => .ok (.ct, ρ) h
def mIfS (mt : MT) (a b : MS) : MS := fun ρ h => (mt ρ h).bind fun c h1 => if c = true then a ρ h1 else b ρ h1
def whileM (mt : MT) (mb : MS) : Nat → Rho → List LO → R (Fl × Rho)
  | 0, _, _ => .bad
  | n + 1, ρ, h => (mt ρ h).bind fun c h1 => if c = true then (mb ρ h1).bind fun r h2 => match r.1 with
      | .nx => whileM mt mb n r.2 h2
      | .ct => whileM mt mb n r.2 h2
      | .bk => .ok (.nx, r.2) h2
      | .rt v => .ok (.rt v, r.2) h2
    else .ok (.nx, ρ) h1
def mWhile (n : Nat) (mt : MT) (mb : MS) : MS := fun ρ h => whileM mt mb n ρ h
inductive Itr where
  | vals (xs : List LV) | mref (n : Nat) | rng (lo : Int) (n : Nat)
def Itr.at : Itr → Nat → List LO → Option (Option LV)
  | .vals xs, i, _ => some xs[i]?
  | .mref n, i, h => match h[n]? with
    | some (.lst xs) => some xs[i]?
    | _ => none
  | .rng lo n, i, _ => if i < n then some (some (.int (lo + i))) else some none
abbrev MI := Rho → List LO → R Itr
def WalkAt (S : Se) (F : Addr → Prop) (ι : List Addr) (H : Hp) (it : Itr) (J : It) : Prop := ∀ F' ι' h' H' i, EX S.toSg F ι H F' ι' H' → Rep S.toSg F' ι' h' H' → match it.at i h' with
  | some (some v) => J.go i H' ∧ ∀ x H'', J.yld i H' x H'' → EX S.toSg F' ι' H' F' ι' H'' ∧ Rep S.toSg F' ι' h' H'' ∧ RV S.toSg F' ι' H'' v x
  | some none => J.stop i H'
  | none => True
def SI (S : Se) (E : XK) (wi : TI) (m : MI) : Prop := ∀ F ι h H ρ σ Q, Rep S.toSg F ι h H → RS S F ι H ρ σ → Ok (WalkAt S) S E F ι H (m ρ h) Q → wi σ H Q
def forM (it : Itr) (g : MG) (mb : MS) : Nat → Nat → Rho → List LO → R (Fl × Rho)
  | 0, _, _, _ => .bad
  | n + 1, i, ρ, h => match it.at i h with
    | some (some v) => (g v ρ h).bind fun ρ1 h1 => (mb ρ1 h1).bind fun r h2 => match r.1 with
      | .nx => forM it g mb n (i + 1) r.2 h2
      | .ct => forM it g mb n (i + 1) r.2 h2
      | .bk => .ok (.nx, r.2) h2
      | .rt v => .ok (.rt v, r.2) h2
    | some none => .ok (.nx, ρ) h
    | none => .bad
def mFor (mi : MI) (g : MG) (mb : MS) : MS := fun ρ h => (mi ρ h).bind fun it h1 => forM it g mb 60000 0 ρ h1
section
variable {S : Se} {E : XK} {F : Addr → Prop} {ι : List Addr} {H : Hp} {h : List LO} {ρ : Rho} {σ : L2.St}
theorem RS.set (s : RS S F ι H ρ σ) {v : LV} {x : V} (z : RV S.toSg F ι H v x) (i : Nat) : RS S F ι H (ρ.set i (some v)) (σ.set i (some x)) := by
  refine ⟨by rw [List.length_set, List.length_set]; exact s.len, fun j w q => ?_⟩
  by_cases e : j = i
  · subst e
    have hl : j < ρ.length := by have := (List.getElem?_eq_some_iff.mp q).1; rw [List.length_set] at this; exact this
    rw [List.getElem?_set_self hl] at q
    cases q
    exact ⟨x, List.getElem?_set_self (by rw [← s.len]; exact hl), z⟩
  · rw [List.getElem?_set_ne (Ne.symm e)] at q
    rw [List.getElem?_set_ne (Ne.symm e)]
    exact s.get j w q
end
section
variable {S : Se} {E : XK} {ta tb te : TE} {ma mb me : ME} {t u : TS} {m m' : MS} {tt : TT} {mt : MT} {tA : TA} {mA : MA} {g : TG} {mg : MG} {gs : TGs} {mgs : MGs} {wi : TI} {mi : MI}
theorem ss_next : SS S E tNext mNext := fun F ι h H ρ σ D rp rs o => Ok.now (v := (Fl.nx, ρ)) (x := FV.nx σ) o rp rs
theorem ss_seq (h1 : SS S E t m) (h2 : SS S E u m') : SS S E (tSeq t u) (mSeq m m') := fun F ι h H ρ σ D rp rs o =>
  h1 F ι h H ρ σ { D with nx := u D } rp rs (o.seq fun F1 ι1 H1 hh v x _ e1 rp1 z o1 => by
    obtain ⟨f, ρ1⟩ := v
    cases f with
    | nx =>
      cases x with
      | nx σ1 => exact h2 F1 ι1 hh H1 ρ1 σ1 D rp1 z o1
      | _ => exact z.elim
    | rt v =>
      cases x with
      | rt x => exact (show DQ D (FV.rt x) H1 from Ok.now (rel := relF S) (v := (Fl.rt v, ρ1)) (x := FV.rt x) o1 rp1 z)
      | _ => exact z.elim
    | bk =>
      cases x with
      | bk x => exact (show DQ D (FV.bk x) H1 from Ok.now (rel := relF S) (v := (Fl.bk, ρ1)) (x := FV.bk x) o1 rp1 z)
      | _ => exact z.elim
    | ct =>
      cases x with
      | ct x => exact (show DQ D (FV.ct x) H1 from Ok.now (rel := relF S) (v := (Fl.ct, ρ1)) (x := FV.ct x) o1 rp1 z)
      | _ => exact z.elim)
theorem sg_name {i : Nat} : SG S E (gName i) (mName i) := fun F ι h H ρ σ v x Q rp rs z o => Ok.now (rel := RS S) o rp (rs.set z i)
theorem sgs_nil : SGs S E gNil mGNil := fun F ι h H ρ σ v x Q rp rs z o => by
  unfold mGNil at o
  cases z with
  | nil => exact ⟨rfl, Ok.now (rel := RS S) o rp rs⟩
  | cons _ _ => exact o.elim
theorem sgs_cons (h1 : SG S E g mg) (h2 : SGs S E gs mgs) : SGs S E (gCons g gs) (mGCons mg mgs) := fun F ι h H ρ σ v x Q rp rs z o => by
  cases z with
  | nil => exact o.elim
  | cons a b => exact ⟨_, _, rfl, h1 F ι h H ρ σ _ _ _ rp rs a (Ok.seq (rel := RS S) o fun F1 ι1 H1 hh w y _ e1 rp1 z1 o1 => h2 F1 ι1 hh H1 w y _ _ Q rp1 z1 (b.ext rp e1) o1)⟩
theorem sg_tup {n : Nat} (hg : SGs S E gs mgs) : SG S E (gTup S.K n gs) (mGTup n mgs) := fun F ι h H ρ σ v x Q rp rs z o => by
  unfold mGTup at o
  cases z with
  | tup a b =>
    dsimp only at o
    split at o
    · rename_i hn
      exact ⟨_, _, rfl, a, by rw [← b.length]; exact hn, hg F ι h H ρ σ _ _ Q rp rs b o⟩
    · exact o.elim
  | _ => exact o.elim
theorem ss_asg (ha : SE S E ta ma) (hg : SG S E g mg) : SS S E (tAsg ta g) (mAsg ma mg) := fun F ι h H ρ σ D rp rs o =>
  ha F ι h H ρ σ _ rp rs (o.seq fun F1 ι1 H1 h1 v x _ e1 rp1 z o1 => hg F1 ι1 h1 H1 ρ σ v x _ rp1 (rs.ext rp e1) z (o1.seq fun F2 ι2 H2 h2 ρ2 σ2 _ e2 rp2 z2 o2 =>
    Ok.now (rel := relF S) (v := (Fl.nx, ρ2)) (x := FV.nx σ2) o2 rp2 z2))
theorem ss_par {i j : Nat} (ha : SA S E tA mA) : SS S E (tPar i j tA) (mPar i j mA) := fun F ι h H ρ σ D rp rs o =>
  ha F ι h H ρ σ _ rp rs (o.seq fun F1 ι1 H1 h1 v x _ e1 rp1 z o1 => by
    cases z with
    | nil => exact o1.elim
    | cons a b =>
      cases b with
      | nil => exact o1.elim
      | cons c d =>
        cases d with
        | nil => exact ⟨_, _, rfl, Ok.now (rel := relF S) (v := (Fl.nx, _)) (x := FV.nx _) o1 rp1 (((rs.ext rp e1).set a i).set c j)⟩
        | cons _ _ => exact o1.elim)
theorem ss_aug {i : Nat} {f : Int → Int → Int} (ha : SE S E ta ma) : SS S E (tAug i ta (ipI f)) (mAug i ma f) := fun F ι h H ρ σ D rp rs o => by
  unfold mAug at o
  split at o
  · rename_i a ha0
    obtain ⟨x, hx, zx⟩ := rs.get i _ ha0
    cases zx
    refine ⟨_, hx, ha F ι h H ρ σ _ rp rs (o.seq fun F1 ι1 H1 h1 v x _ e1 rp1 z o1 => ?_)⟩
    cases z with
    | int b => exact ⟨a, b, rfl, rfl, Ok.now (rel := relF S) (v := (Fl.nx, _)) (x := FV.nx _) o1 rp1 ((rs.ext rp e1).set (.int _) i)⟩
    | _ => exact o1.elim
  · exact o.elim
theorem ss_drop (ha : SE S E ta ma) : SS S E (tDrop ta) (mDrop ma) := fun F ι h H ρ σ D rp rs o =>
  ha F ι h H ρ σ _ rp rs (o.seq fun F1 ι1 H1 h1 v x _ e1 rp1 z o1 => Ok.now (rel := relF S) (v := (Fl.nx, ρ)) (x := FV.nx σ) o1 rp1 (rs.ext rp e1))
theorem ss_ret (ha : SE S E ta ma) : SS S E (tRet ta) (mRet ma) := fun F ι h H ρ σ D rp rs o =>
  ha F ι h H ρ σ _ rp rs (o.seq fun F1 ι1 H1 h1 v x _ e1 rp1 z o1 => Ok.now (rel := relF S) (v := (Fl.rt v, ρ)) (x := FV.rt x) o1 rp1 z)
theorem ss_retN : SS S E tRetN mRetN := fun F ι h H ρ σ D rp rs o => Ok.now (rel := relF S) (v := (Fl.rt .non, ρ)) (x := FV.rt .non) o rp .non
theorem ss_bad {t : TS} : SS S E t mBad := fun F ι h H ρ σ D rp rs o => o.elim
theorem ss_bk : SS S E tBreak mBk := fun F ι h H ρ σ D rp rs o => Ok.now (rel := relF S) (v := (Fl.bk, ρ)) (x := FV.bk σ) o rp rs
theorem ss_ct : SS S E tCont mCt := fun F ι h H ρ σ D rp rs o => Ok.now (rel := relF S) (v := (Fl.ct, ρ)) (x := FV.ct σ) o rp rs
theorem ss_if (ht : ST S E tt mt) (ha : SS S E t m) (hb : SS S E u m') : SS S E (tIfS tt t u) (mIfS mt m m') := fun F ι h H ρ σ D rp rs o =>
  ht F ι h H ρ σ _ rp rs (o.seq fun F1 ι1 H1 h1 v x _ e1 rp1 z o1 => by
    cases z
    cases v with
    | true => exact ha F1 ι1 h1 H1 ρ σ D rp1 (rs.ext rp e1) o1
    | false => exact hb F1 ι1 h1 H1 ρ σ D rp1 (rs.ext rp e1) o1)
theorem ss_while {n : Nat} (ht : ST S E tt mt) (hb : SS S E t m) : SS S E (tWhile tt t) (mWhile n mt m) := fun F ι h H ρ σ D rp rs o => by
  refine ⟨fun k σ H => ∃ F ι h ρ, Rep S.toSg F ι h H ∧ RS S F ι H ρ σ ∧ Ok (relF S) S E F ι H (whileM mt m k ρ h) (DQ D), ⟨n, F, ι, h, ρ, rp, rs, o⟩, ?_⟩
  rintro k σ H ⟨F, ι, h, ρ, rp, rs, o⟩
  cases k with
  | zero => exact o.elim
  | succ k =>
    refine ht F ι h H ρ σ _ rp rs (Ok.seq (rel := eqB) o fun F1 ι1 H1 h1 v x _ e1 rp1 z o1 => ?_)
    cases z
    cases v with
    | false => exact Ok.now (rel := relF S) (v := (Fl.nx, ρ)) (x := FV.nx σ) o1 rp1 (rs.ext rp e1)
    | true =>
      refine ⟨fun σ' H' => ∃ F ι h ρ, Rep S.toSg F ι h H' ∧ RS S F ι H' ρ σ' ∧ Ok (relF S) S E F ι H' (whileM mt m k ρ h) (DQ D), fun σ' H' w => ⟨k, Nat.lt_succ_self k, w⟩, ?_⟩
      refine hb F1 ι1 h1 H1 ρ σ _ rp1 (rs.ext rp e1) (Ok.seq (rel := relF S) o1 fun F2 ι2 H2 h2 v2 x2 _ e2 rp2 z2 o2 => ?_)
      obtain ⟨f, ρ2⟩ := v2
      cases f with
      | nx =>
        cases x2 with
        | nx σ2 => exact ⟨F2, ι2, h2, ρ2, rp2, z2, o2⟩
        | _ => exact z2.elim
      | ct =>
        cases x2 with
        | ct σ2 => exact ⟨F2, ι2, h2, ρ2, rp2, z2, o2⟩
        | _ => exact z2.elim
      | rt v =>
        cases x2 with
        | rt x => exact (show DQ D (FV.rt x) H2 from Ok.now (rel := relF S) (v := (Fl.rt v, ρ2)) (x := FV.rt x) o2 rp2 z2)
        | _ => exact z2.elim
      | bk =>
        cases x2 with
        | bk σ2 => exact (show DQ D (FV.nx σ2) H2 from Ok.now (rel := relF S) (v := (Fl.nx, ρ2)) (x := FV.nx σ2) o2 rp2 z2)
        | _ => exact z2.elim
theorem ss_for (hi : SI S E wi mi) (hg : SG S E g mg) (hb : SS S E t m) : SS S E (tFor wi g t) (mFor mi mg m) := fun F ι h H ρ σ D rp rs o => by
  refine hi F ι h H ρ σ _ rp rs (Ok.seq (rel := WalkAt S) o fun F1 ι1 H1 h1 it J _ e1 rp1 wk o1 => ?_)
  refine ⟨fun i k σ H => ∃ F ι h ρ, EX S.toSg F1 ι1 H1 F ι H ∧ Rep S.toSg F ι h H ∧ RS S F ι H ρ σ ∧ Ok (relF S) S E F ι H (forM it mg m k i ρ h) (DQ D), ⟨60000, F1, ι1, h1, ρ, .refl, rp1, rs.ext rp e1, o1⟩, ?_⟩
  rintro i k σ H ⟨F, ι, h, ρ, ex, rp, rs, o⟩
  cases k with
  | zero => exact o.elim
  | succ k =>
    have w := wk F ι h H i ex rp
    simp only [forM] at o
    split at o
    · rename_i v hv
      rw [hv] at w
      refine .inr ⟨w.1, fun σ' H' => ∃ F ι h ρ, EX S.toSg F1 ι1 H1 F ι H' ∧ Rep S.toSg F ι h H' ∧ RS S F ι H' ρ σ' ∧ Ok (relF S) S E F ι H' (forM it mg m k (i + 1) ρ h) (DQ D), fun σ' H' w => ⟨k, Nat.lt_succ_self k, w⟩, fun x H' hy => ?_⟩
      obtain ⟨e2, rp2, z2⟩ := w.2 x H' hy
      refine hg F ι h H' ρ σ v x _ rp2 (rs.ext rp e2) z2 (Ok.seq (rel := RS S) (o.shift e2) fun F3 ι3 H3 h3 ρ3 σ3 _ e3 rp3 z3 o3 => ?_)
      refine hb F3 ι3 h3 H3 ρ3 σ3 _ rp3 z3 (Ok.seq (rel := relF S) o3 fun F4 ι4 H4 h4 v4 x4 _ e4 rp4 z4 o4 => ?_)
      have ex4 := ex.trans (e2.trans (e3.trans e4))
      obtain ⟨f, ρ4⟩ := v4
      cases f with
      | nx =>
        cases x4 with
        | nx σ2 => exact ⟨F4, ι4, h4, ρ4, ex4, rp4, z4, o4⟩
        | _ => exact z4.elim
      | ct =>
        cases x4 with
        | ct σ2 => exact ⟨F4, ι4, h4, ρ4, ex4, rp4, z4, o4⟩
        | _ => exact z4.elim
      | rt v =>
        cases x4 with
        | rt x => exact (show DQ D (FV.rt x) H4 from Ok.now (rel := relF S) (v := (Fl.rt v, ρ4)) (x := FV.rt x) o4 rp4 z4)
        | _ => exact z4.elim
      | bk =>
        cases x4 with
        | bk σ2 => exact (show DQ D (FV.nx σ2) H4 from Ok.now (rel := relF S) (v := (Fl.nx, ρ4)) (x := FV.nx σ2) o4 rp4 z4)
        | _ => exact z4.elim
    · rename_i hv
      rw [hv] at w
      exact .inl ⟨w, Ok.now (rel := relF S) (v := (Fl.nx, ρ)) (x := FV.nx σ) o rp rs⟩
    · exact o.elim
end
end Rm
namespace Rm
open PySem PySem.Spec PyProof.Rows L2 RZ
/-! ### what is walked -/
theorem PI.or {X : Cx} {tg e : Expr} {w1 w2 : TI} (h1 : PI X tg e w1) (h2 : PI X tg e w2) : PI X tg e (fun σ H R => w1 σ H R ∨ w2 σ H R) :=
  ⟨fun pins s σ H R I h => h.elim (h1.run pins s σ H R I) (h2.run pins s σ H R I)⟩
def iSeq (K : PySem.W.Frag) (te : TE) : TI := fun σ H R => iList K te σ H R ∨ iTup K te σ H R ∨ iStr te σ H R
theorem pi_seq {X : Cx} {tg e : Expr} {te : TE} (he : PE X e te) : PI X tg e (iSeq X.K te) := PI.or (pi_list he) (PI.or (pi_tup he) (pi_str he))
def itOf (h : List LO) : LV → Option Itr
  | .tup xs => some (.vals xs)
  | .vl xs => some (.vals xs)
  | .fz xs => some (.vals xs)
  | .str x => some (.vals (x.map fun c => .str [c]))
  | .ref n => match h[n]? with
    | some (.lst _) => some (.mref n)
    | _ => none
  | _ => none
def mSeqI (ma : ME) : MI := fun ρ h => (ma ρ h).bind fun v h1 => match itOf h1 v with
  | some it => .ok it h1
  | none => .bad
section
variable {S : Se} {E : XK} {F : Addr → Prop} {ι : List Addr} {H : Hp} {h : List LO}
theorem walk_L {a : Addr} {it : Itr} (hk : ∀ F' ι' h' H' i, EX S.toSg F ι H F' ι' H' → Rep S.toSg F' ι' h' H' → match it.at i h' with
    | some o => ∃ xs vs, SqL S.K H' a vs ∧ RVs S.toSg F' ι' H' xs vs ∧ o = xs[i]?
    | none => True) : WalkAt S F ι H it (Itl S.K a) := fun F' ι' h' H' i e r => by
  have q := hk F' ι' h' H' i e r
  split at q
  · rename_i o ho
    obtain ⟨xs, vs, hs, z, rfl⟩ := q
    rw [ho]
    cases hx : xs[i]? with
    | none => exact ⟨vs, hs, by rw [← z.length]; exact List.getElem?_eq_none_iff.mp hx⟩
    | some v =>
      obtain ⟨x, e1, e2⟩ := z.at hx
      refine ⟨⟨vs, x, hs, e1⟩, fun y H'' hy => ?_⟩
      obtain ⟨rfl, hy⟩ := hy
      have := hy vs hs
      rw [e1] at this
      cases this
      exact ⟨.refl, r, e2⟩
  · rename_i ho
    rw [ho]
    trivial
theorem walk_T {a : Addr} {xs : List LV} {vs : List V} (hs : SqT S.K H a vs) (z : RVs S.toSg F ι H xs vs) (r0 : Rep S.toSg F ι h H) : WalkAt S F ι H (.vals xs) (Itt S.K a) := fun F' ι' h' H' i e r => by
  have hs' := e.tup _ _ hs
  have z' := z.ext r0 e
  show match some xs[i]? with | some (some v) => _ | some none => _ | none => _
  cases hx : xs[i]? with
  | none => exact ⟨vs, hs', by rw [← z.length]; exact List.getElem?_eq_none_iff.mp hx⟩
  | some v =>
    obtain ⟨x, e1, e2⟩ := z'.at hx
    refine ⟨⟨vs, x, hs', e1⟩, fun y H'' hy => ?_⟩
    obtain ⟨rfl, hy⟩ := hy
    have := hy vs hs'
    rw [e1] at this
    cases this
    exact ⟨.refl, r, e2⟩
theorem walk_S {x : List Nat} : WalkAt S F ι H (.vals (x.map fun c => .str [c])) (Its ⟨x.toArray⟩) := fun F' ι' h' H' i e r => by
  show match some (x.map fun c => LV.str [c])[i]? with | some (some v) => _ | some none => _ | none => _
  rw [List.getElem?_map]
  cases hx : x[i]? with
  | none =>
    show (⟨x.toArray⟩ : Str).cps.size ≤ i
    have := List.getElem?_eq_none_iff.mp hx
    simpa using this
  | some c =>
    have hi := (List.getElem?_eq_some_iff.mp hx).1
    refine ⟨show i < (⟨x.toArray⟩ : Str).cps.size by simpa using hi, fun y H'' hy => ?_⟩
    obtain ⟨rfl, c2, hc, rfl⟩ := hy
    have : c2 = c := by
      simp at hc
      rw [hx] at hc
      exact (Option.some.inj hc).symm
    subst this
    exact ⟨.refl, r, RV.str [c2]⟩
theorem si_seq {ta : TE} {ma : ME} (ha : SE S E ta ma) : SI S E (iSeq S.K ta) (mSeqI ma) := fun F ι h H ρ σ Q rp rs o => by
  -- the run of ta is the same for all three
  cases hm : ma ρ h with
  | bad =>
    simp only [mSeqI, hm, R.bind] at o
    exact o.elim
  | er c h' =>
    simp only [mSeqI, hm, R.bind] at o
    exact .inl (ha F ι h H ρ σ _ rp rs (by rw [hm]; exact o))
  | ok v h1 =>
    simp only [mSeqI, hm, R.bind] at o
    cases hit : itOf h1 v with
    | none => rw [hit] at o; exact o.elim
    | some it =>
      rw [hit] at o
      have fin : ∀ F1 ι1 H1 J, EX S.toSg F ι H F1 ι1 H1 → Rep S.toSg F1 ι1 h1 H1 → WalkAt S F1 ι1 H1 it J → Q J H1 := fun F1 ι1 H1 J e r wk => o F1 ι1 H1 J e r wk
      have run : ∀ Q' : VK, (∀ F' ι' H' x, EX S.toSg F ι H F' ι' H' → Rep S.toSg F' ι' h1 H' → RV S.toSg F' ι' H' v x → Q' x H') → ta σ H Q' := fun Q' q => ha F ι h H ρ σ Q' rp rs (by rw [hm]; exact q)
      cases v with
      | tup xs =>
        refine .inr (.inl (run _ fun F1 ι1 H1 x e r z => ?_))
        cases hit
        cases z with
        | tup a b => exact ⟨_, rfl, ⟨_, a⟩, fin F1 ι1 H1 _ e r (walk_T a b r)⟩
      | str xs =>
        refine .inr (.inr (run _ fun F1 ι1 H1 x e r z => ?_))
        cases hit
        cases z
        exact ⟨_, rfl, fin F1 ι1 H1 _ e r walk_S⟩
      | vl xs =>
        refine .inl (run _ fun F1 ι1 H1 x e r z => ?_)
        cases hit
        cases z with
        | @vl a xs vs hH nF b => exact ⟨a, rfl, ⟨vs, .of hH⟩, fin F1 ι1 H1 _ e r (walk_L fun F' ι' h' H' i e r2 => ⟨xs, vs, .of (e.keep a _ (fun z => nF (r.inF a z)) hH), b.ext r e, rfl⟩)⟩
      | fz xs =>
        refine .inl (run _ fun F1 ι1 H1 x e r z => ?_)
        cases hit
        cases z with
        | @fz a xs vs hH b => exact ⟨a, rfl, ⟨vs, hH.sq⟩, fin F1 ι1 H1 _ e r (walk_L fun F' ι' h' H' i e r2 => ⟨xs, vs, (hH.mono fun o q => e.keep a _ (r.nfr q) q).sq, b.ext r e, rfl⟩)⟩
      | ref n =>
        refine .inl (run _ fun F1 ι1 H1 x e r z => ?_)
        simp only [itOf] at hit
        split at hit
        · rename_i xs hx
          cases hit
          cases z with
          | @ref a n q =>
            have g := r.at hx q
            cases g with
            | lst g1 g2 =>
              refine ⟨a, rfl, ⟨_, .of g1⟩, fin F1 ι1 H1 _ e r (walk_L fun F' ι' h' H' i e r => ?_)⟩
              show match (match h'[n]? with | some (.lst xs) => some xs[i]? | _ => none) with | some o => _ | none => True
              cases hn : h'[n]? with
              | none => trivial
              | some o =>
                obtain ⟨m, rfl, _⟩ := e.grow
                have g' := r.at hn (by rw [List.getElem?_append_left (List.getElem?_eq_some_iff.mp q).1]; exact q)
                cases g' with
                | lst g3 g4 => exact ⟨_, _, .of g3, g4, rfl⟩
                | _ => trivial
        · cases hit
      | _ => cases hit
end
/-! ### ranges, pairs of two sequences, numbered items -/
def mRng1 (ma : MA) : MI := fun ρ h => (ma ρ h).bind fun vs h1 => match vs with
  | [.int j] => if -1000000 ≤ j ∧ j ≤ 1000000 then .ok (.rng 0 j.toNat) h1 else .bad
  | _ => .bad
def zipL : List LV → List LV → List LV
  | x :: xs, y :: ys => .tup [x, y] :: zipL xs ys
  | _, _ => []
def mZip (ma : MA) : MI := fun ρ h => (ma ρ h).bind fun vs h1 => match vs with
  | [.tup xs, .tup ys] => .ok (.vals (zipL xs ys)) h1
  | [.vl xs, .vl ys] => .ok (.vals (zipL xs ys)) h1
  | _ => .bad
def enumL : Nat → List LV → List LV
  | n, x :: xs => .tup [.int (n : Nat), x] :: enumL (n + 1) xs
  | _, [] => []
def mEnum (ma : MA) : MI := fun ρ h => (ma ρ h).bind fun vs h1 => match vs with
  | [.vl xs] => .ok (.vals (enumL 0 xs)) h1
  | _ => .bad
theorem zipL_get : ∀ {xs ys : List LV} {i : Nat}, (zipL xs ys)[i]? = match xs[i]?, ys[i]? with
    | some x, some y => some (.tup [x, y])
    | _, _ => none
  | [], _, i => by simp [zipL]
  | _ :: _, [], i => by
    simp only [zipL]
    cases h : (‹LV› :: ‹List LV›)[i]? <;> simp
  | x :: xs, y :: ys, 0 => by simp [zipL]
  | x :: xs, y :: ys, i + 1 => by
    simp only [zipL, List.getElem?_cons_succ]
    exact zipL_get
theorem enumL_get : ∀ {xs : List LV} {n i : Nat}, (enumL n xs)[i]? = (xs[i]?).map fun x => .tup [.int ((n + i : Nat) : Int), x]
  | [], n, i => by simp [enumL]
  | x :: xs, n, 0 => by simp [enumL]
  | x :: xs, n, i + 1 => by
    simp only [enumL, List.getElem?_cons_succ]
    rw [enumL_get, show n + 1 + i = n + (i + 1) by omega]
section
variable {S : Se} {E : XK} {tA : TA} {mA : MA}
theorem si_rng1 (ha : SA S E tA mA) : SI S E (iRng1 tA) (mRng1 mA) := fun F ι h H ρ σ Q rp rs o =>
  ha F ι h H ρ σ _ rp rs (o.seq fun F1 ι1 H1 h1 vs xs _ e1 rp1 z o1 => by
    split at o1
    · cases z with
      | cons a b =>
        cases b; cases a
        split at o1
        · rename_i hj
          refine ⟨_, rfl, by omega, by omega, Ok.now (rel := WalkAt S) o1 rp1 fun F' ι' h' H' i e r => ?_⟩
          simp only [Itr.at]
          split
          · rename_i v hv
            split at hv
            · rename_i hi
              cases hv
              exact ⟨hi, fun x H'' hy => by obtain ⟨rfl, rfl⟩ := hy; exact ⟨.refl, r, .int _⟩⟩
            · cases hv
          · rename_i hv
            split at hv
            · cases hv
            · rename_i hi
              exact Nat.le_of_not_lt hi
          · trivial
        · exact o1.elim
    · exact o1.elim)
theorem new_pair {F : Addr → Prop} {ι : List Addr} {H : Hp} {h : List LO} {x y : LV} {vx vy : V} {T : Addr} (r : Rep S.toSg F ι h H) (hT : H T = none) (zx : RV S.toSg F ι H x vx) (zy : RV S.toSg F ι H y vy) :
    EX S.toSg F ι H F ι (upd H T (.tup [vx, vy])) ∧ Rep S.toSg F ι h (upd H T (.tup [vx, vy])) ∧ RV S.toSg F ι (upd H T (.tup [vx, vy])) (.tup [x, y]) (.ref T) :=
  ⟨EX.new hT, r.new hT, .tup (.of upd_same) (RVs.fwd (Fwd.new r hT) _ _ (.cons zx (.cons zy .nil)))⟩
theorem si_zip (ha : SA S E tA mA) : SI S E (iZipA S.K tA) (mZip mA) := fun F ι h H ρ σ Q rp rs o =>
  ha F ι h H ρ σ _ rp rs (o.seq fun F1 ι1 H1 h1 vs xs0 q0 e1 rp1 z o1 => by
    clear q0
    split at o1
    · rename_i xs ys
      cases z with
      | cons a b =>
        cases b with
        | cons b c =>
          cases c
          cases a with
          | tup ta ra =>
            cases b with
            | tup tb rb =>
              refine ⟨_, _, _, _, rfl, .inr ⟨ta, tb, Ok.now (rel := WalkAt S) o1 rp1 fun F' ι' h' H' i e r => ?_⟩⟩
              have ta' := e.tup _ _ ta
              have tb' := e.tup _ _ tb
              have ra' := ra.ext rp1 e
              have rb' := rb.ext rp1 e
              show match some (zipL xs ys)[i]? with | some (some v) => _ | some none => _ | none => _
              rw [zipL_get]
              cases hx : xs[i]? with
              | none => exact ⟨_, _, ta', tb', .inl (by rw [← ra'.length]; exact List.getElem?_eq_none_iff.mp hx)⟩
              | some x =>
                cases hy : ys[i]? with
                | none => exact ⟨_, _, ta', tb', .inr (by rw [← rb'.length]; exact List.getElem?_eq_none_iff.mp hy)⟩
                | some y =>
                  obtain ⟨vx, ex, zx⟩ := ra'.at hx
                  obtain ⟨vy, ey, zy⟩ := rb'.at hy
                  refine ⟨⟨_, _, vx, vy, ta', tb', ex, ey⟩, fun v H'' hv => ?_⟩
                  obtain ⟨T, x2, y2, rfl, hT, rfl, q1, q2⟩ := hv
                  have w1 := q1 _ ta'
                  have w2 := q2 _ tb'
                  rw [ex] at w1
                  rw [ey] at w2
                  cases w1; cases w2
                  exact new_pair r hT zx zy
    · rename_i xs ys
      cases z with
      | cons a b =>
        cases b with
        | cons b c =>
          cases c
          cases a with
          | vl ta na ra =>
            cases b with
            | vl tb nb rb =>
              refine ⟨_, _, _, _, rfl, .inl ⟨.of ta, .of tb, Ok.now (rel := WalkAt S) o1 rp1 fun F' ι' h' H' i e r => ?_⟩⟩
              have ta' : SqL S.K H' _ _ := .of (e.keep _ _ (fun z => na (rp1.inF _ z)) ta)
              have tb' : SqL S.K H' _ _ := .of (e.keep _ _ (fun z => nb (rp1.inF _ z)) tb)
              have ra' := ra.ext rp1 e
              have rb' := rb.ext rp1 e
              show match some (zipL xs ys)[i]? with | some (some v) => _ | some none => _ | none => _
              rw [zipL_get]
              cases hx : xs[i]? with
              | none => exact ⟨_, _, ta', tb', .inl (by rw [← ra'.length]; exact List.getElem?_eq_none_iff.mp hx)⟩
              | some x =>
                cases hy : ys[i]? with
                | none => exact ⟨_, _, ta', tb', .inr (by rw [← rb'.length]; exact List.getElem?_eq_none_iff.mp hy)⟩
                | some y =>
                  obtain ⟨vx, ex, zx⟩ := ra'.at hx
                  obtain ⟨vy, ey, zy⟩ := rb'.at hy
                  refine ⟨⟨_, _, vx, vy, ta', tb', ex, ey⟩, fun v H'' hv => ?_⟩
                  obtain ⟨T, x2, y2, rfl, hT, rfl, q1, q2⟩ := hv
                  have w1 := q1 _ ta'
                  have w2 := q2 _ tb'
                  rw [ex] at w1
                  rw [ey] at w2
                  cases w1; cases w2
                  exact new_pair r hT zx zy
    · exact o1.elim)
theorem si_enum (ha : SA S E tA mA) : SI S E (iEnum S.K tA) (mEnum mA) := fun F ι h H ρ σ Q rp rs o =>
  ha F ι h H ρ σ _ rp rs (o.seq fun F1 ι1 H1 h1 vs xs0 q0 e1 rp1 z o1 => by
    clear q0
    split at o1
    · rename_i xs
      cases z with
      | cons a b =>
        cases b
        cases a with
        | vl ta na ra =>
          refine ⟨_, _, rfl, .of ta, Ok.now (rel := WalkAt S) o1 rp1 fun F' ι' h' H' i e r => ?_⟩
          have ta' : SqL S.K H' _ _ := .of (e.keep _ _ (fun z => na (rp1.inF _ z)) ta)
          have ra' := ra.ext rp1 e
          show match some (enumL 0 xs)[i]? with | some (some v) => _ | some none => _ | none => _
          rw [enumL_get]
          cases hx : xs[i]? with
          | none => exact ⟨_, ta', by rw [← ra'.length]; exact List.getElem?_eq_none_iff.mp hx⟩
          | some x =>
            obtain ⟨vx, ex, zx⟩ := ra'.at hx
            refine ⟨⟨_, vx, ta', ex⟩, fun v H'' hv => ?_⟩
            obtain ⟨T, x2, rfl, hT, rfl, q1⟩ := hv
            have w1 := q1 _ ta'
            rw [ex] at w1
            cases w1
            rw [Nat.zero_add]
            exact new_pair r hT (.int _) zx
    · exact o1.elim)
end
end Rm
namespace Rm
open PySem PySem.Spec PyProof.Rows L2 RZ
/-! ### comprehensions -/
def wipeR (ρ : Rho) : List Nat → Rho
  | [] => ρ
  | v :: vs => (wipeR ρ vs).set v none
def R.safe {α : Type} : R α → R α
  | .er _ _ => .bad
  | r => r
def lcM (it : Itr) (g : MG) (mt : MT) (me : ME) (ρ : Rho) : Nat → Nat → List LO → List LV → R LV
  | 0, _, _, _ => .bad
  | n + 1, i, h, acc => match it.at i h with
    | some (some v) => (g v ρ h).safe.bind fun ρ1 h1 => (mt ρ1 h1).safe.bind fun b h2 => if b = true then (me ρ1 h2).safe.bind fun y h3 => lcM it g mt me ρ n (i + 1) h3 (y :: acc) else lcM it g mt me ρ n (i + 1) h2 acc
    | some none => .ok (.vl acc.reverse) h
    | none => .bad
def mLc (mi : MI) (g : MG) (mt : MT) (me : ME) (vs : List Nat) : ME := fun ρ h => (mi ρ h).bind fun it h1 => lcM it g mt me (wipeR ρ vs) 60000 0 h1 []
def mYes : MT := fun _ h => .ok true h
/-- the target stores names of the block alone -/
def GW (g : TG) (vs : List Nat) : Prop := ∀ v σ H Q, g v σ H Q → g v σ H (fun σ2 H2 => wipe σ2 vs = wipe σ vs ∧ Q σ2 H2)
def GWs (g : TGs) (vs : List Nat) : Prop := ∀ v σ H Q, g v σ H Q → g v σ H (fun σ2 H2 => wipe σ2 vs = wipe σ vs ∧ Q σ2 H2)
theorem wipe_set (σ : L2.St) (i : Nat) (x : Option V) : ∀ {vs : List Nat}, i ∈ vs → wipe (σ.set i x) vs = wipe σ vs
  | [], h => nomatch h
  | v :: vs, h => by
    simp only [wipe]
    by_cases e : i ∈ vs
    · rw [wipe_set σ i x e]
    · have e2 : i = v := by
        rcases List.mem_cons.mp h with q | q
        · exact q
        · exact absurd q e
      subst e2
      have e3 : wipe (σ.set i x) vs = (wipe σ vs).set i x := by
        clear h
        induction vs with
        | nil => rfl
        | cons w vs ih =>
          have nw : i ≠ w := fun q => e (by rw [q]; exact List.mem_cons_self)
          simp only [wipe]
          rw [ih (fun q => e (List.mem_cons_of_mem _ q)), List.set_comm _ _ nw]
      rw [e3, List.set_set]
theorem wipe_wipe (σ : L2.St) : ∀ vs : List Nat, wipe (wipe σ vs) vs = wipe σ vs := fun vs => by
  have h : ∀ ws : List Nat, (∀ w ∈ ws, w ∈ vs) → wipe (wipe σ ws) vs = wipe σ vs := by
    intro ws
    induction ws with
    | nil => intro _; rfl
    | cons w ws ih =>
      intro hw
      simp only [wipe]
      rw [wipe_set _ _ _ (hw w List.mem_cons_self), ih fun q hq => hw q (List.mem_cons_of_mem _ hq)]
  exact h vs fun _ z => z
theorem gw_name {i : Nat} {vs : List Nat} (h : i ∈ vs) : GW (gName i) vs := fun v σ H Q q => ⟨wipe_set σ i _ h, q⟩
theorem gws_nil {vs : List Nat} : GWs gNil vs := fun v σ H Q q => ⟨q.1, rfl, q.2⟩
theorem gws_cons {g : TG} {gs : TGs} {vs : List Nat} (mono : ∀ v σ H Q Q', (∀ a b, Q a b → Q' a b) → g v σ H Q → g v σ H Q') (monos : ∀ v σ H Q Q', (∀ a b, Q a b → Q' a b) → gs v σ H Q → gs v σ H Q') (h1 : GW g vs) (h2 : GWs gs vs) : GWs (gCons g gs) vs := fun v σ H Q q => by
  obtain ⟨x, r, rfl, q⟩ := q
  refine ⟨x, r, rfl, ?_⟩
  refine mono _ _ _ _ _ ?_ (h1 _ _ _ _ q)
  rintro σ2 H2 ⟨e, q2⟩
  refine monos _ _ _ _ _ ?_ (h2 _ _ _ _ q2)
  rintro σ3 H3 ⟨e3, q3⟩
  exact ⟨e3.trans e, q3⟩
theorem gw_tup {K : PySem.W.Frag} {n : Nat} {gs : TGs} {vs : List Nat} (h : GWs gs vs) : GW (gTup K n gs) vs := fun v σ H Q q => by
  obtain ⟨a, xs, rfl, hs, hn, q⟩ := q
  exact ⟨a, xs, rfl, hs, hn, h _ _ _ _ q⟩
/-- names alone -/
def gNames : List Nat → TGs
  | [] => gNil
  | i :: is => gCons (gName i) (gNames is)
theorem gNames_mono : ∀ (is : List Nat) v σ H (Q Q' : L2.St → Hp → Prop), (∀ a b, Q a b → Q' a b) → gNames is v σ H Q → gNames is v σ H Q'
  | [], v, σ, H, Q, Q', m, q => ⟨q.1, m _ _ q.2⟩
  | i :: is, v, σ, H, Q, Q', m, q => by
    obtain ⟨x, r, rfl, q⟩ := q
    exact ⟨x, r, rfl, gNames_mono is _ _ _ _ _ m q⟩
theorem gws_names {vs : List Nat} : ∀ (is : List Nat), (∀ i ∈ is, i ∈ vs) → GWs (gNames is) vs
  | [], _ => gws_nil
  | i :: is, h => gws_cons (fun _ _ _ _ _ m q => m _ _ q) (gNames_mono is) (gw_name (h i List.mem_cons_self)) (gws_names is fun j hj => h j (List.mem_cons_of_mem _ hj))
section
variable {S : Se} {E : XK} {F F1 : Addr → Prop} {ι ι1 : List Addr} {H H1 : Hp} {h : List LO} {ρ : Rho} {σ : L2.St} {α β γ δ : Type}
  {rel : (Addr → Prop) → List Addr → Hp → α → β → Prop} {rel' : (Addr → Prop) → List Addr → Hp → γ → δ → Prop}
theorem Ok.seqB {r : R α} {k : α → List LO → R γ} {Q : δ → Hp → Prop} {Q' : β → Hp → Prop} (o : Ok rel' S E F1 ι1 H1 (r.safe.bind k) Q)
    (st : ∀ F2 ι2 H2 h2 v x, r = .ok v h2 → EX S.toSg F ι H F2 ι2 H2 → Rep S.toSg F2 ι2 h2 H2 → rel F2 ι2 H2 v x → Ok rel' S E F1 ι1 H1 (k v h2) Q → Q' x H2) : Ok rel S E0 F ι H r Q' := by
  cases r with
  | ok v h' => exact fun F' ι' H' x e2 r2 q => st F' ι' H' h' v x rfl e2 r2 q o
  | er c h' => exact o.elim
  | bad => exact o.elim
theorem wipeR_length (ρ : Rho) : ∀ vs : List Nat, (wipeR ρ vs).length = ρ.length
  | [] => rfl
  | v :: vs => by unfold wipeR; rw [List.length_set, wipeR_length ρ vs]
theorem wipeR_some {i : Nat} {x : LV} : ∀ {vs : List Nat}, (wipeR ρ vs)[i]? = some (some x) → ρ[i]? = some (some x) ∧ i ∉ vs
  | [], h => ⟨h, by simp⟩
  | v :: vs, h => by
    unfold wipeR at h
    by_cases hi : v = i
    · subst hi
      by_cases hv : v < (wipeR ρ vs).length
      · rw [List.getElem?_set_self hv] at h; cases h
      · rw [List.getElem?_eq_none (by simpa using hv)] at h; cases h
    · rw [List.getElem?_set_ne hi] at h
      obtain ⟨h1, h2⟩ := wipeR_some h
      exact ⟨h1, by simp only [List.mem_cons, not_or]; exact ⟨fun e => hi e.symm, h2⟩⟩
theorem RS.wipe (s : RS S F ι H ρ σ) (vs : List Nat) : RS S F ι H (wipeR ρ vs) (wipe σ vs) := by
  refine ⟨by rw [wipeR_length, wipe_length]; exact s.len, fun i v q => ?_⟩
  obtain ⟨q1, q2⟩ := wipeR_some q
  obtain ⟨x, e1, e2⟩ := s.get i v q1
  exact ⟨x, by rw [wipe_out q2]; exact e1, e2⟩
end
section
variable {S : Se} {E : XK} {te : TE} {me : ME} {tt : TT} {mt : MT} {g : TG} {mg : MG} {wi : TI} {mi : MI}
theorem st_yes : ST S E tYes mYes := fun F ι h H ρ σ Q rp rs o => Ok.now (v := true) o rp rfl
/-- how far a comprehension is -/
structure Lc (S : Se) (F1 : Addr → Prop) (ι1 : List Addr) (H1 : Hp) (D : Addr) (F : Addr → Prop) (ι : List Addr) (h : List LO) (H : Hp) (acc : List LV) (i : Nat) : Prop where
  ex : EX S.toSg F1 ι1 H1 F ι H
  rp : Rep S.toSg F ι h H
  FD : F D
  nD : D ∉ ι
  at' : ∃ vs, H D = some (.lst vs) ∧ RVs S.toSg F ι H acc.reverse vs
  le : acc.length ≤ i
theorem EX.updD {F1 F : Addr → Prop} {ι1 ι : List Addr} {H1 H : Hp} {D : Addr} {vs ws : List V} (e : EX S.toSg F1 ι1 H1 F ι H) (hD : H1 D = none) (hq : H D = some (.lst vs)) : EX S.toSg F1 ι1 H1 F ι (upd H D (.lst ws)) := by
  refine ⟨fun a xs q => ?_, fun a o n q => ?_, e.grow, e.more, e.fresh, fun a q => ?_⟩
  · rcases e.tup a xs q with (z | ⟨u, z⟩) | z
    · exact .inl (.inl (by rw [upd_ne (fun c => by subst c; rw [hq] at z; cases z)]; exact z))
    · exact .inl (.inr ⟨u, by rw [upd_ne (fun c => by subst c; rw [hq] at z; cases z)]; exact z⟩)
    · exact .inr z
  · rw [upd_ne (ne_of_none q hD)]; exact e.keep a o n q
  · by_cases c : a = D
    · subst c; exact hD
    · rw [upd_ne c] at q; exact e.dom a q
theorem Fwd.updD {F : Addr → Prop} {ι : List Addr} {H : Hp} {D : Addr} {vs ws : List V} (FD : F D) (hq : H D = some (.lst vs)) : Fwd S.toSg F ι H F ι (upd H D (.lst ws)) := by
  refine ⟨fun a xs q => ?_, fun a o n q => ?_, fun a o us q => ?_, fun a o n _ => n, fun _ _ q => q⟩
  · rcases q with (z | ⟨u, z⟩) | z
    · exact .inl (.inl (by rw [upd_ne (fun c => by subst c; rw [hq] at z; cases z)]; exact z))
    · exact .inl (.inr ⟨u, by rw [upd_ne (fun c => by subst c; rw [hq] at z; cases z)]; exact z⟩)
    · exact .inr z
  · rw [upd_ne (fun c => n (by rw [c]; exact FD))]; exact q
  · rw [upd_ne (fun c => by subst c; rw [hq] at q; cases q)]; exact q
theorem Rep.updD {F : Addr → Prop} {ι : List Addr} {H : Hp} {h : List LO} {D : Addr} {vs ws : List V} (r : Rep S.toSg F ι h H) (FD : F D) (nD : D ∉ ι) (hq : H D = some (.lst vs)) : Rep S.toSg F ι h (upd H D (.lst ws)) := by
  refine ⟨r.len, r.nd, r.inF, fun a ha e => ?_, fun i o a h1 h2 => ?_⟩
  · by_cases c : a = D
    · subst c; rw [upd_same] at e; cases e
    · rw [upd_ne c] at e; exact r.dom a ha e
  · refine (r.obj i o a h1 h2).fwd (Fwd.updD FD hq) fun u q => ?_
    rw [upd_ne (fun c => nD (by rw [← c]; exact List.mem_of_getElem? h2))]
    exact q
theorem Lc.step {F1 F F2 : Addr → Prop} {ι1 ι ι2 : List Addr} {H1 H H2 : Hp} {D : Addr} {h h2 : List LO} {acc : List LV} {i : Nat} (L : Lc S F1 ι1 H1 D F ι h H acc i) (e : EX S.toSg F ι H F2 ι2 H2) (r : Rep S.toSg F2 ι2 h2 H2) : Lc S F1 ι1 H1 D F2 ι2 h2 H2 acc i := by
  obtain ⟨vs, q, z⟩ := L.at'
  refine ⟨L.ex.trans e, r, e.more _ L.FD, fun m => ?_, ⟨vs, e.keep _ _ L.nD q, z.ext L.rp e⟩, L.le⟩
  obtain ⟨more, rfl, n⟩ := e.grow
  rcases List.mem_append.mp m with m | m
  · exact L.nD m
  · have := n _ m
    rw [q] at this
    cases this
theorem se_lc {vs : List Nat} (hi : SI S E wi mi) (hg : SG S E0 g mg) (gw : GW g vs) (ht : ST S E0 tt mt) (he : SE S E0 te me) : SE S E (tLc wi g tt te vs) (mLc mi mg mt me vs) := fun F ι h H ρ σ Q rp rs o => by
  refine hi F ι h H ρ σ _ rp rs (Ok.seq (rel := WalkAt S) o fun F1 ι1 H1 h1 it J _ e1 rp1 wk o1 => ?_)
  have rs1 := (rs.ext rp e1).wipe vs
  intro D hD
  refine ⟨fun i k H => ∃ F ι h acc, Lc S F1 ι1 H1 D F ι h H acc i ∧ i + k = 60000 ∧ Ok (RV S.toSg) S E F1 ι1 H1 (lcM it mg mt me (wipeR ρ vs) k i h acc) Q, ⟨60000, fun a => F1 a ∨ a = D, ι1, h1, [], ⟨?_, ?_, .inr rfl, fun m => rp1.dom D (rp1.inF D m) hD, ⟨[], upd_same, .nil⟩, Nat.le_refl _⟩, rfl, o1⟩, ?_⟩
  · have e := EX.new (S := S) (F := F1) (ι := ι1) (o := .lst []) hD
    exact ⟨e.tup, e.keep, e.grow, fun a z => .inl z, fun a z n => z.elim (fun q => absurd q n) fun q => by rw [q]; exact hD, e.dom⟩
  · have nm : D ∉ ι1 := fun m => rp1.dom D (rp1.inF D m) hD
    have e := EX.new (S := S) (F := F1) (ι := ι1) (o := .lst []) hD
    refine ⟨rp1.len, rp1.nd, fun a m => .inl (rp1.inF a m), fun a z q => ?_, fun i o a q1 q2 => ?_⟩
    · by_cases c : a = D
      · subst c; rw [upd_same] at q; cases q
      · rw [upd_ne c] at q
        exact z.elim (fun z => rp1.dom a z q) c
    · refine (rp1.obj i o a q1 q2).fwd ⟨fun a vs q => e.tup a vs q, fun a o n q => e.keep a o (fun m => n (rp1.inF a m)) q, fun a o us q => e.keep a _ (rp1.nfr q) q, fun a o n q z => ?_, fun _ _ q => q⟩ fun u q => ?_
      · rcases z with z | z
        · exact n z
        · rw [z, hD] at q; cases q
      · rw [upd_ne (ne_of_none q hD)]; exact q
  · rintro i k H2 ⟨F2, ι2, h2, acc, L, hk, o2⟩
    cases k with
    | zero => exact o2.elim
    | succ k =>
      have w := wk F2 ι2 h2 H2 i L.ex L.rp
      simp only [lcM] at o2
      split at o2
      · rename_i v hv
        rw [hv] at w
        refine .inr ⟨w.1, fun H' => ∃ F ι h acc, Lc S F1 ι1 H1 D F ι h H' acc (i + 1) ∧ (i + 1) + k = 60000 ∧ Ok (RV S.toSg) S E F1 ι1 H1 (lcM it mg mt me (wipeR ρ vs) k (i + 1) h acc) Q, fun H' w => ⟨k, Nat.lt_succ_self k, w⟩, fun x H' hy => ?_⟩
        obtain ⟨e3, rp3, z3⟩ := w.2 x H' hy
        have L3 := L.step e3 rp3
        have gg := gw x (wipe σ vs) H' (fun σ2 H2 => tt σ2 H2 fun b H3 => if b = true then te σ2 H3 fun y H4 => ∃ acc, H4 D = some (.lst acc) ∧ acc.length < sizeLine ∧ (∃ F ι h ac, Lc S F1 ι1 H1 D F ι h (upd H4 D (.lst (acc ++ [y]))) ac (i + 1) ∧ (i + 1) + k = 60000 ∧ Ok (RV S.toSg) S E F1 ι1 H1 (lcM it mg mt me (wipeR ρ vs) k (i + 1) h ac) Q)
          else (∃ F ι h ac, Lc S F1 ι1 H1 D F ι h H3 ac (i + 1) ∧ (i + 1) + k = 60000 ∧ Ok (RV S.toSg) S E F1 ι1 H1 (lcM it mg mt me (wipeR ρ vs) k (i + 1) h ac) Q))
        rw [wipe_wipe] at gg
        refine gg ?_
        have rs3 := ((rs1.ext rp1 L.ex).ext L.rp e3)
        refine hg F2 ι2 h2 H' (wipeR ρ vs) (wipe σ vs) v x _ rp3 rs3 z3 (Ok.seqB (rel := RS S) o2 fun F4 ι4 H4 h4 ρ4 σ4 _ e4 rp4 rs4 o4 => ?_)
        have L4 := L3.step e4 rp4
        refine ht F4 ι4 h4 H4 ρ4 σ4 _ rp4 rs4 (Ok.seqB (rel := eqB) o4 fun F5 ι5 H5 h5 b b' _ e5 rp5 zb o5 => ?_)
        cases zb
        have L5 := L4.step e5 rp5
        cases b with
        | false => exact ⟨F5, ι5, h5, acc, ⟨L5.ex, L5.rp, L5.FD, L5.nD, L5.at', Nat.le_succ_of_le L5.le⟩, by omega, o5⟩
        | true =>
          refine he F5 ι5 h5 H5 ρ4 σ4 _ rp5 (rs4.ext rp4 e5) (Ok.seqB (rel := RV S.toSg) o5 fun F6 ι6 H6 h6 y yv _ e6 rp6 zy o6 => ?_)
          have L6 := L5.step e6 rp6
          obtain ⟨us, q, zs⟩ := L6.at'
          have hl : us.length ≤ i := by rw [← zs.length, List.length_reverse]; exact L6.le
          have fw := Fwd.updD (S := S) (ι := ι6) (ws := us ++ [yv]) L6.FD q
          refine ⟨us, q, Nat.lt_of_le_of_lt hl (Nat.lt_of_lt_of_le (show i < 60000 by omega) (by decide)), F6, ι6, h6, y :: acc, ⟨L6.ex.updD hD q, rp6.updD L6.FD L6.nD q, L6.FD, L6.nD, ⟨us ++ [yv], upd_same, ?_⟩, ?_⟩, by omega, o6⟩
          · rw [List.reverse_cons]
            exact (zs.fwd fw _ _).append (.cons (zy.fwd fw _ _) .nil)
          · rw [List.length_cons]
            exact Nat.succ_le_succ L6.le
      · rename_i hv
        rw [hv] at w
        refine .inl ⟨w, ?_⟩
        obtain ⟨us, q, zs⟩ := L.at'
        -- the list stays from now on
        have n1 : ∀ a, F1 a → a ≠ D := fun a z c => rp1.dom a z (by rw [c]; exact hD)
        have fw : Fwd S.toSg F2 ι2 H2 (fun a => F2 a ∧ a ≠ D) ι2 H2 := ⟨fun _ _ q => q, fun _ _ _ q => q, fun _ _ _ q => q, fun _ _ n _ z => n z.1, fun _ _ q => q⟩
        refine o2 (fun a => F2 a ∧ a ≠ D) ι2 H2 (.ref D) ⟨L.ex.tup, L.ex.keep, L.ex.grow, fun a z => ⟨L.ex.more a z, n1 a z⟩, fun a z n => L.ex.fresh a z.1 n, L.ex.dom⟩ ?_ (.vl q (fun z => z.2 rfl) (zs.fwd fw _ _))
        exact ⟨L.rp.len, L.rp.nd, fun a m => ⟨L.rp.inF a m, fun c => L.nD (by rw [← c]; exact m)⟩, fun a z => L.rp.dom a z.1, fun j o a q1 q2 => (L.rp.obj j o a q1 q2).fwd fw fun _ q => q⟩
      · exact o2.elim
end
end Rm
namespace Rm
open PySem PySem.Spec PyProof.Rows L2 RZ
/-! ### defs -/
def mFn (n : Nat) (body : MS) : MF := fun args h => (body (args.map some ++ List.replicate (n - args.length) none) h).bind fun r h1 => match r.1 with
  | .rt v => .ok v h1
  | .nx => .ok .non h1
  | _ => .bad
def spM (S : Se) (n : Nat) (m : MF) : Sp := fun vs H Q _ => vs.length = n ∧ ∃ F ι h lvs, Rep S.toSg F ι h H ∧ RVs S.toSg F ι H lvs vs ∧ Ok (RV S.toSg) S E0 F ι H (m lvs h) Q
section
variable {S : Se} {E : XK} {F F' : Addr → Prop} {ι ι' : List Addr} {H : Hp} {h : List LO}
theorem RS.start {lvs : List LV} {vs : List V} {N : List Str} (z : RVs S.toSg F ι H lvs vs) : RS S F ι H (lvs.map some ++ List.replicate (N.length - lvs.length) none) (L2.start N vs) := by
  unfold L2.start
  refine ⟨by simp [z.length], fun i v q => ?_⟩
  by_cases hi : i < lvs.length
  · rw [List.getElem?_append_left (by simpa using hi), List.getElem?_map] at q
    cases e : lvs[i]? with
    | none => rw [e] at q; cases q
    | some w =>
      rw [e] at q
      cases q
      obtain ⟨x, e1, e2⟩ := z.at e
      exact ⟨x, by rw [List.getElem?_append_left (by rw [List.length_map, ← z.length]; exact hi), List.getElem?_map, e1]; rfl, e2⟩
  · rw [List.getElem?_append_right (by simpa using hi)] at q
    have := List.mem_of_getElem? q
    rw [List.mem_replicate] at this
    cases this.2
/-- a body's run is the def's -/
theorem fn_run {N : List Str} {m : MS} {t : TS} {n : Nat} {vs : List V} {H : Hp} {Q : VK} {E : XK} (b : SS S E0 t m) (sp : spM S n (mFn N.length m) vs H Q E) : t { nx := fun _ H' => Q .non H', rt := Q } (L2.start N vs) H := by
  obtain ⟨_, F, ι, h, lvs, rp, rv, o⟩ := sp
  refine b F ι h H _ _ _ rp (RS.start (N := N) rv) (Ok.seq (rel := relF S) o fun F1 ι1 H1 h1 v x _ e1 rp1 z o1 => ?_)
  obtain ⟨f, ρ1⟩ := v
  cases f with
  | nx =>
    cases x with
    | nx σ1 => exact Ok.now (rel := RV S.toSg) (v := .non) o1 rp1 .non
    | _ => exact z.elim
  | rt v =>
    cases x with
    | rt x => exact Ok.now (rel := RV S.toSg) o1 rp1 z
    | _ => exact z.elim
  | _ => exact o1.elim
/-! ### a value alone -/
mutual
theorem RV.unF (hF : ∀ a, F a → F' a) : ∀ (x : LV) (v : V), x.pure = true → RV S.toSg F' ι' H x v → RV S.toSg F ι H x v
  | .non, _, _, h => by cases h; exact .non
  | .bl _, _, _, h => by cases h; exact .bl _
  | .int _, _, _, h => by cases h; exact .int _
  | .str _, _, _, h => by cases h; exact .str _
  | .tup xs, _, p, h => by cases h with | tup a b => exact .tup a (RVs.unF hF xs _ (by simpa [LV.pure] using p) b)
  | .vl xs, _, p, h => by cases h with | vl a n b => exact .vl a (fun q => n (hF _ q)) (RVs.unF hF xs _ (by simpa [LV.pure] using p) b)
  | .fz xs, _, p, h => by cases h with | fz a b => exact .fz a (RVs.unF hF xs _ (by simpa [LV.pure] using p) b)
  | .vd ks vs, _, p, h => by
    have p' : LV.pures ks = true ∧ LV.pures vs = true := by simpa [LV.pure] using p
    cases h with | vd a n c d e g i => exact .vd a (fun q => n (hF _ q)) c d e (RVs.unF hF ks _ p'.1 g) (RVs.unF hF vs _ p'.2 i)
  | .sd kc vs, _, p, h => by cases h with | sd a n c i => exact .sd a (fun q => n (hF _ q)) c (RVs.unF hF vs _ (by simpa [LV.pure] using p) i)
  | .obj C xs, _, p, h => by cases h with | obj a n c d => exact .obj a (fun q => n (hF _ q)) c (RVs.unF hF xs _ (by simpa [LV.pure] using p) d)
  | .ref _, _, p, _ => by simp [LV.pure] at p
theorem RVs.unF (hF : ∀ a, F a → F' a) : ∀ (xs : List LV) (vs : List V), LV.pures xs = true → RVs S.toSg F' ι' H xs vs → RVs S.toSg F ι H xs vs
  | [], _, _, h => by cases h; exact .nil
  | x :: xs, _, p, h => by
    have p' : x.pure = true ∧ LV.pures xs = true := by simpa [LV.pures] using p
    cases h with | cons a b => exact .cons (RV.unF hF x _ p'.1 a) (RVs.unF hF xs _ p'.2 b)
end
def outV (h : List LO) (v : LV) : Option LV := if v.pure = true then some v else LV.deep h 100000 v
theorem outV_of {h' : List LO} {v w : LV} {x : V} (r : Rep S.toSg F' ι' h' H) (nf : ∀ a ∈ ι', ¬ F a) (hF : ∀ a, F a → F' a) (e : outV h' v = some w) (z : RV S.toSg F' ι' H v x) : RV S.toSg F ι H w x := by
  unfold outV at e
  split at e
  · rename_i p
    cases e
    exact z.unF hF v x p
  · exact RV.deep r nf hF _ v w x e z
/-- with no object of its own at the start, a run leaves all that stood -/
theorem Rep.nil (r : Rep S.toSg F ι h H) : Rep S.toSg F [] [] H := ⟨rfl, .nil, fun _ m => (nomatch m), r.dom, fun n o a q => by simp at q⟩
theorem iso_back {H' : Hp} (r : Rep S.toSg F ι h H) (e : EX S.toSg F [] H F' ι' H') : EX S.toSg F ι H F ι H' ∧ Rep S.toSg F ι h H' ∧ (∀ a ∈ ι', ¬ F a) := by
  have k : ∀ a o, H a = some o → H' a = some o := fun a o q => e.keep a o (fun m => nomatch m) q
  have ex : EX S.toSg F ι H F ι H' := ⟨e.tup, fun a o _ q => k a o q, ⟨[], by simp, fun _ m => nomatch m⟩, fun _ z => z, fun _ z n => absurd z n, e.dom⟩
  refine ⟨ex, ⟨r.len, r.nd, r.inF, fun a z q => r.dom a z (e.dom a q), fun n o a q1 q2 => (r.obj n o a q1 q2).fwd (ex.fwd r) fun u q => k a u q⟩, fun a m z => ?_⟩
  obtain ⟨more, rfl, n⟩ := e.grow
  exact r.dom a z (n a m)
end
/-- a call, all alone -/
def mCall (n : Nat) (f : MF) (ma : MA) : ME := fun ρ h => (ma ρ h).bind fun vs h1 => if vs.length = n then (if LV.pures vs = true then match f vs [] with
    | .ok v h' => match outV h' v with
      | some w => .ok w h1
      | none => .bad
    | _ => .bad
  else .bad) else .bad
/-- a call that may change our objects -/
def mCallS (n : Nat) (f : MF) (ma : MA) : ME := fun ρ h => (ma ρ h).bind fun vs h1 => if vs.length = n then (f vs h1).safe else .bad
section
variable {S : Se} {E E' : XK} {tA : TA} {mA : MA} {ta tv : TE} {ma mv : ME} {n : Nat} {f : MF}
theorem Ok.unsafe {F : Addr → Prop} {ι : List Addr} {H : Hp} {r : R LV} {Q : VK} (o : Ok (RV S.toSg) S E F ι H r.safe Q) : Ok (RV S.toSg) S E0 F ι H r Q := by
  cases r with
  | ok v h => exact o
  | er c h => exact o.elim
  | bad => exact o.elim
theorem iso_run {F : Addr → Prop} {ι : List Addr} {H : Hp} {h : List LO} {vs : List LV} {xs : List V} {Q : VK} (rp : Rep S.toSg F ι h H) (z : RVs S.toSg F ι H vs xs) (hn : vs.length = n) (hp : LV.pures vs = true)
    (o : Ok (RV S.toSg) S E F ι H (match f vs [] with
    | .ok v h' => match outV h' v with
      | some w => .ok w h
      | none => .bad
    | _ => .bad) Q) : spM S n f xs H Q E' := by
  refine ⟨by rw [← z.length]; exact hn, F, [], [], vs, rp.nil, RVs.pure [] vs xs hp z, ?_⟩
  cases q : f vs [] with
  | ok v h' =>
    rw [q] at o
    dsimp only at o
    split at o
    · rename_i w hw
      intro F' ι' H' x e r2 z2
      obtain ⟨ex, rp2, nf⟩ := iso_back rp e
      exact o F ι H' x ex rp2 (outV_of r2 nf e.more hw z2)
    · exact o.elim
  | er c h' => rw [q] at o; exact o.elim
  | bad => rw [q] at o; exact o.elim
theorem se_call (ha : SA S E tA mA) : SE S E (tCall (spM S n f) [] E' tA) (mCall n f mA) := fun F ι h H ρ σ Q rp rs o =>
  ha F ι h H ρ σ _ rp rs (o.seq fun F1 ι1 H1 h1 vs xs _ e1 rp1 z o1 => by
    rw [List.append_nil]
    split at o1
    · rename_i hn
      split at o1
      · rename_i hp
        exact iso_run rp1 z hn hp o1
      · exact o1.elim
    · exact o1.elim)
theorem se_callS (ha : SA S E tA mA) : SE S E (tCall (spM S n f) [] E' tA) (mCallS n f mA) := fun F ι h H ρ σ Q rp rs o =>
  ha F ι h H ρ σ _ rp rs (o.seq fun F1 ι1 H1 h1 vs xs _ e1 rp1 z o1 => by
    rw [List.append_nil]
    split at o1
    · rename_i hn
      exact ⟨by rw [← z.length]; exact hn, F1, ι1, h1, vs, rp1, z, o1.unsafe⟩
    · exact o1.elim)
/-! ### methods and fields of instances that stay -/
def mMeth (C n : Nat) (f : MF) (ma : ME) (mr : MA) : ME := fun ρ h => (ma ρ h).bind fun v h1 => match v with
  | .obj C' fs => if C' = C then (mr ρ h1).bind fun vs h2 => (if (LV.obj C' fs :: vs).length = n then (if LV.pures (LV.obj C' fs :: vs) = true then match f (LV.obj C' fs :: vs) [] with
      | .ok v h' => match outV h' v with
        | some w => .ok w h2
        | none => .bad
      | _ => .bad
    else .bad) else .bad) else .bad
  | _ => .bad
theorem lookup_none {fs : List (Str × V)} {m : Str} (h : m ∉ fs.map (·.1)) : fs.lookup m = none := by
  induction fs with
  | nil => rfl
  | cons p fs ih =>
    obtain ⟨g, v⟩ := p
    have h1 : m ≠ g := fun e => h (by rw [e]; simp)
    have h2 : m ∉ fs.map (·.1) := fun e => h (by simp only [List.map_cons, List.mem_cons]; exact .inr e)
    rw [List.lookup_cons, beq_eq_false_iff_ne.mpr h1]
    exact ih h2
theorem se_meth {C : Nat} {m : Str} (nm : m ∉ S.nm C) (ha : SE S E ta ma) (hr : SA S E tA mA) : SE S E (tMeth (S.ct C) m (spM S n f) [] E' ta tA) (mMeth C n f ma mA) := fun F ι h H ρ σ Q rp rs o =>
  ha F ι h H ρ σ _ rp rs (o.seq fun F1 ι1 H1 h1 v x _ e1 rp1 z o1 => by
    cases z with
    | @obj a C' dx fs xs q nF hnm hfs =>
      dsimp only at o1
      split at o1
      · rename_i hC
        subst hC
        refine ⟨a, dx, fs, rfl, q, lookup_none (by rw [hnm]; exact nm), hr F1 ι1 h1 H1 ρ σ _ rp1 (rs.ext rp e1) (o1.seq fun F2 ι2 H2 h2 vs ys _ e2 rp2 zs o2 => ?_)⟩
        rw [List.append_nil]
        have z0 : RV S.toSg F1 ι1 H1 (.obj C' xs) (.ref a) := .obj q nF hnm hfs
        have zz : RVs S.toSg F2 ι2 H2 (.obj C' xs :: vs) (.ref a :: ys) := .cons (z0.ext rp1 e2) zs
        split at o2
        · rename_i hn
          split at o2
          · rename_i hp
            exact iso_run rp2 zz hn hp o2
          · exact o2.elim
        · exact o2.elim
      · exact o1.elim
    | _ => exact o1.elim)
theorem se_or {te1 te2 : TE} {m1 m2 : ME} (d : Rho → Bool) (h1 : SE S E te1 m1) (h2 : SE S E te2 m2) : SE S E (fun σ H Q => te1 σ H Q ∨ te2 σ H Q) (fun ρ h => if d ρ = true then m1 ρ h else m2 ρ h) := fun F ι h H ρ σ Q rp rs o => by
  dsimp only at o ⊢
  by_cases e : d ρ = true
  · rw [if_pos e] at o; exact .inl (h1 F ι h H ρ σ Q rp rs o)
  · rw [if_neg e] at o; exact .inr (h2 F ι h H ρ σ Q rp rs o)
theorem PE.or {X : Cx} {e : Expr} {t1 t2 : TE} (h1 : PE X e t1) (h2 : PE X e t2) : PE X e (fun σ H Q => t1 σ H Q ∨ t2 σ H Q) := ⟨fun pins s σ H Q I h => h.elim (h1.run pins s σ H Q I) (h2.run pins s σ H Q I)⟩
def isCls (i C : Nat) (ρ : Rho) : Bool := match ρ[i]? with
  | some (some (.obj C' _)) => decide (C' = C)
  | _ => false
/-- a field: where it stands, class by class -/
structure Fld (S : Se) (f : Str) (t : List (Nat × Nat)) : Prop where
  ok : ∀ C i, t.lookup C = some i → Cls S.K (S.ct C) ∧ NoAttr S.K (S.ct C) f ∧ (S.nm C).idxOf f = i ∧ i < (S.nm C).length ∧ (S.nm C).length < 1000
def mFld (t : List (Nat × Nat)) (ma : ME) : ME := fun ρ h => (ma ρ h).bind fun v h1 => match v with
  | .obj C xs => match t.lookup C with
    | some i => match xs[i]? with
      | some y => .ok y h1
      | none => .bad
    | none => .bad
  | .ref n => match h1[n]? with
    | some (.ins C _ xs) => match t.lookup C with
      | some i => match xs[i]? with
        | some y => .ok y h1
        | none => .bad
      | none => .bad
    | _ => .bad
  | _ => .bad
theorem lookup_idx {f : Str} : ∀ {fs : List (Str × V)} {i : Nat}, (fs.map (·.1)).idxOf f = i → i < fs.length → fs.lookup f = (fs.map (·.2))[i]?
  | [], _, _, h => by simp at h
  | (g, v) :: fs, i, e, h => by
    simp only [List.map_cons, List.idxOf_cons] at e
    by_cases c : g = f
    · subst c
      simp only [beq_self_eq_true, cond_true] at e
      subst e
      simp
    · rw [beq_eq_false_iff_ne.mpr c] at e
      simp only [cond_false] at e
      subst e
      rw [List.lookup_cons, beq_eq_false_iff_ne.mpr (Ne.symm c)]
      rw [List.map_cons, List.getElem?_cons_succ]
      exact lookup_idx rfl (by simpa using h)
theorem idxOf_take {α : Type} [BEq α] [LawfulBEq α] {f : α} : ∀ {l : List α} {k : Nat}, l.idxOf f < k → (l.take k).idxOf f = l.idxOf f
  | [], k, _ => by simp
  | x :: l, 0, h => absurd h (Nat.not_lt_zero _)
  | x :: l, k + 1, h => by
    simp only [List.take_succ_cons, List.idxOf_cons] at h ⊢
    by_cases c : x == f
    · rw [c]; rfl
    · rw [Bool.eq_false_iff.mpr c] at h ⊢
      simp only [cond_false] at h ⊢
      rw [idxOf_take (by omega)]
theorem mem_take_idx {α : Type} [BEq α] [LawfulBEq α] {f : α} : ∀ {l : List α} {k : Nat}, f ∈ l.take k → l.idxOf f < k
  | [], k, h => by simp at h
  | x :: l, 0, h => by simp at h
  | x :: l, k + 1, h => by
    rw [List.idxOf_cons]
    by_cases c : x == f
    · rw [c]; exact Nat.succ_pos _
    · rw [Bool.eq_false_iff.mpr c]
      rw [List.take_succ_cons, List.mem_cons] at h
      rcases h with h | h
      · exact absurd (beq_iff_eq.mpr h.symm) c
      · exact Nat.succ_lt_succ (mem_take_idx h)
theorem se_fld {f : Str} {t : List (Nat × Nat)} (T : Fld S f t) (ha : SE S E ta ma) : SE S E (tFld S.K ta f) (mFld t ma) := fun F ι h H ρ σ Q rp rs o =>
  ha F ι h H ρ σ _ rp rs (o.seq fun F1 ι1 H1 h1 v x _ e1 rp1 z o1 => by
    cases z with
    | @obj a C dx fs xs q nF hnm hfs =>
      dsimp only at o1
      split at o1
      · rename_i i hi
        split at o1
        · rename_i y hy
          obtain ⟨c, na, ix, lt, _⟩ := T.ok _ _ hi
          obtain ⟨yv, e2, z2⟩ := hfs.at hy
          refine ⟨a, _, dx, fs, yv, rfl, q, c, na, ?_, Ok.now (rel := RV S.toSg) o1 rp1 z2⟩
          rw [lookup_idx (i := i) (by rw [hnm]; exact ix) (by have := congrArg List.length hnm; rw [List.length_map] at this; omega)]
          exact e2
        · exact o1.elim
      · exact o1.elim
    | @ref a n q0 =>
      dsimp only at o1
      split at o1
      · rename_i C k xs hx
        have g := rp1.at hx q0
        cases g with
        | @ins _ _ _ dx fs _ q hk hnm hfs =>
          split at o1
          · rename_i i hi
            split at o1
            · rename_i y hy
              obtain ⟨c, na, ix, lt, _⟩ := T.ok _ _ hi
              obtain ⟨yv, e2, z2⟩ := hfs.at hy
              refine ⟨a, _, dx, fs, yv, rfl, q, c, na, ?_, Ok.now (rel := RV S.toSg) o1 rp1 z2⟩
              have hl : fs.length = xs.length := by have := hfs.length; rw [List.length_map] at this; exact this.symm
              have hi2 : i < xs.length := (List.getElem?_eq_some_iff.mp hy).1
              rw [lookup_idx (i := i) (by rw [hnm, idxOf_take (by omega)]; exact ix) (by omega)]
              exact e2
            · exact o1.elim
          · exact o1.elim
      · exact o1.elim
    | _ => exact o1.elim)
/-- self.f = e while the instance is made -/
def mFldSet (t : List (Nat × Nat)) (ma mv : ME) : MS := fun ρ h => (mv ρ h).bind fun y h1 => (ma ρ h1).bind fun v h2 => match v with
  | .ref n => match h2[n]? with
    | some (.ins C k xs) => match t.lookup C with
      | some i => if i = xs.length then .ok (.nx, ρ) (h2.set n (.ins C k (xs ++ [y]))) else if i < xs.length then .ok (.nx, ρ) (h2.set n (.ins C k (xs.set i y))) else .bad
      | none => .bad
    | _ => .bad
  | _ => .bad
theorem putF_new {f : Str} {v : V} : ∀ {fs : List (Str × V)}, f ∉ fs.map (·.1) → putF f v fs = fs ++ [(f, v)]
  | [], _ => rfl
  | (g, x) :: r, h => by
    have h1 : g ≠ f := fun e => h (by rw [e]; simp)
    have h2 : f ∉ r.map (·.1) := fun e => h (by simp only [List.map_cons, List.mem_cons]; exact .inr e)
    show (if g = f then _ else _) = _
    rw [if_neg h1, putF_new h2]
    rfl
theorem putF_old {f : Str} {v : V} : ∀ {fs : List (Str × V)} {i : Nat}, (fs.map (·.1)).idxOf f = i → i < fs.length → (putF f v fs).map (·.1) = fs.map (·.1) ∧ (putF f v fs).map (·.2) = (fs.map (·.2)).set i v
  | [], _, _, h => by simp at h
  | (g, x) :: r, i, e, h => by
    simp only [List.map_cons, List.idxOf_cons] at e
    by_cases c : g = f
    · subst c
      simp only [beq_self_eq_true, cond_true] at e
      subst e
      show (if g = g then _ else _ : List (Str × V)).map _ = _ ∧ (if g = g then _ else _ : List (Str × V)).map _ = _
      rw [if_pos rfl]
      exact ⟨rfl, rfl⟩
    · rw [beq_eq_false_iff_ne.mpr c] at e
      simp only [cond_false] at e
      subst e
      obtain ⟨h1, h2⟩ := putF_old (f := f) (v := v) (fs := r) rfl (by simpa using h)
      show (if g = f then _ else _ : List (Str × V)).map _ = _ ∧ (if g = f then _ else _ : List (Str × V)).map _ = _
      rw [if_neg c]
      simp only [List.map_cons, h1, h2, List.set_cons_succ]
      exact ⟨trivial, trivial⟩
theorem ss_fld {f : Str} {t : List (Nat × Nat)} (T : Fld S f t) (ha : SE S E ta ma) (hv : SE S E tv mv) : SS S E (sFld S.K ta tv f) (mFldSet t ma mv) := fun F ι h H ρ σ D rp rs o =>
  hv F ι h H ρ σ _ rp rs (o.seq fun F1 ι1 H1 h1 y yv _ e1 rp1 zy o1 => ha F1 ι1 h1 H1 ρ σ _ rp1 (rs.ext rp e1) (o1.seq fun F2 ι2 H2 h2 v x _ e2 rp2 z o2 => by
    have rs2 := (rs.ext rp e1).ext rp1 e2
    have zy2 := zy.ext rp1 e2
    cases z with
    | @ref a n q0 =>
      dsimp only at o2
      split at o2
      · rename_i C k xs hx
        have g := rp2.at hx q0
        cases g with
        | @ins _ _ _ dx fs _ q hk hnm hfs =>
          split at o2
          · rename_i i hi
            obtain ⟨c, na, ix, lt, lt2⟩ := T.ok _ _ hi
            have hl : fs.length = xs.length := by have := hfs.length; rw [List.length_map] at this; exact this.symm
            have fw := (EX.write (S := S) (o := .ins (S.ct C) dx (putF f yv fs)) rp2 (List.mem_of_getElem? q0)).fwd rp2
            have hle : xs.length ≤ (S.nm C).length := by
              have := congrArg List.length hnm
              rw [List.length_map, List.length_take] at this
              omega
            refine ⟨a, _, dx, fs, rfl, q, c, na, by omega, ?_⟩
            split at o2
            · rename_i hi2
              subst hi2
              have hnot : f ∉ fs.map (·.1) := by
                rw [hnm]
                intro hm
                have := mem_take_idx hm
                omega
              refine (show DQ D (.nx σ) _ from Ok.now (rel := relF S) (v := (Fl.nx, ρ)) (x := FV.nx σ) (o2.shift (EX.write rp2 (List.mem_of_getElem? q0))) (rp2.write q0 (.ins upd_same hk ?_ ?_)) (rs2.ext rp2 (EX.write rp2 (List.mem_of_getElem? q0))))
              · rw [putF_new hnot, List.map_append, hnm, List.length_append]
                show _ ++ [f] = _
                rw [List.length_singleton, List.take_add_one]
                congr 1
                rw [← ix, List.getElem?_eq_getElem (by rw [ix]; exact lt)]
                simp
              · have e : (putF f yv fs).map (·.2) = fs.map (·.2) ++ [yv] := by
                  rw [putF_new hnot, List.map_append]
                  rfl
                rw [e]
                exact (hfs.fwd fw _ _).append (.cons (zy2.fwd fw _ _) .nil)
            · split at o2
              · rename_i _ hi2
                have pf := putF_old (f := f) (v := yv) (fs := fs) (i := i) (by rw [hnm, idxOf_take (by omega)]; exact ix) (by omega)
                refine (show DQ D (.nx σ) _ from Ok.now (rel := relF S) (v := (Fl.nx, ρ)) (x := FV.nx σ) (o2.shift (EX.write rp2 (List.mem_of_getElem? q0))) (rp2.write q0 (.ins upd_same hk ?_ ?_)) (rs2.ext rp2 (EX.write rp2 (List.mem_of_getElem? q0))))
                · rw [pf.1, hnm, List.length_set]
                · rw [pf.2]
                  exact RVs.set (zy2.fwd fw _ _) i (hfs.fwd fw _ _)
              · exact o2.elim
          · exact o2.elim
      · exact o2.elim
    | _ => exact o2.elim))
/-- a new instance: made alone, it stays -/
def mMake (C k n : Nat) (f : MF) (ma : MA) : ME := fun ρ h => (ma ρ h).bind fun vs h1 => if vs.length + 1 = n ∧ LV.pures vs = true then match f (.ref 0 :: vs) [.ins C k []] with
    | .ok .non h' => match LV.deep h' 100000 (.ref 0) with
      | some w => .ok w h1
      | none => .bad
    | _ => .bad
  else .bad
/-- .. that changes, among our objects -/
def mMakeS (C k n : Nat) (f : MF) (ma : MA) : ME := fun ρ h => (ma ρ h).bind fun vs h1 => if vs.length + 1 = n then match f (.ref h1.length :: vs) (h1 ++ [.ins C k []]) with
    | .ok .non h' => .ok (.ref h1.length) h'
    | _ => .bad
  else .bad
theorem two_new {F : Addr → Prop} {ι : List Addr} {H : Hp} {h : List LO} {C : Nat} {x dx : Addr} (rp : Rep S.toSg F ι h H) (hx : H x = none) (hdx : H dx = none) (hne : dx ≠ x) :
    EX S.toSg F ι H (fun a => F a ∨ a = x) (ι ++ [x]) (upd (upd H dx (.own x)) x (.ins (S.ct C) dx [])) ∧ Rep S.toSg (fun a => F a ∨ a = x) (ι ++ [x]) (h ++ [.ins C (S.nm C).length []]) (upd (upd H dx (.own x)) x (.ins (S.ct C) dx [])) := by
  have hx2 : upd H dx (.own x) x = none := by rw [upd_ne (Ne.symm hne)]; exact hx
  have r1 := rp.new (o := .own x) hdx
  exact ⟨(EX.new hdx).trans (EX.newM hx2), r1.newM hx2 (.ins upd_same rfl rfl .nil)⟩
theorem se_makeS {C k : Nat} (hk : k = (S.nm C).length) (ha : SA S E tA mA) : SE S E (tMake (S.ct C) (spM S n f) [] E' tA) (mMakeS C k n f mA) := fun F ι h H ρ σ Q rp rs o =>
  ha F ι h H ρ σ _ rp rs (o.seq fun F1 ι1 H1 h1 vs xs _ e1 rp1 z o1 x dx hx hdx hne => by
    subst hk
    rw [List.append_nil]
    split at o1
    · rename_i hn
      obtain ⟨ex, r2⟩ := two_new (C := C) rp1 hx hdx hne
      have q0 : (ι1 ++ [x])[h1.length]? = some x := by rw [← rp1.len, List.getElem?_append_right (Nat.le_refl _)]; simp
      refine ⟨by rw [List.length_cons, ← z.length]; exact hn, _, _, _, .ref h1.length :: vs, r2, .cons (.ref q0) (z.ext rp1 ex), ?_⟩
      split at o1
      · rename_i h' hf
        rw [hf]
        intro F' ι' H' y e2 r3 z3
        cases z3
        refine ⟨rfl, o1 F' ι' H' (.ref x) (ex.trans e2) r3 (.ref ?_)⟩
        obtain ⟨more, rfl, _⟩ := e2.grow
        rw [List.getElem?_append_left (List.getElem?_eq_some_iff.mp q0).1]
        exact q0
      · exact o1.elim
    · exact o1.elim)
theorem se_make {C k : Nat} (hk : k = (S.nm C).length) (ha : SA S E tA mA) : SE S E (tMake (S.ct C) (spM S n f) [] E' tA) (mMake C k n f mA) := fun F ι h H ρ σ Q rp rs o =>
  ha F ι h H ρ σ _ rp rs (o.seq fun F1 ι1 H1 h1 vs xs _ e1 rp1 z o1 x dx hx hdx hne => by
    subst hk
    rw [List.append_nil]
    split at o1
    · rename_i hn
      obtain ⟨ex, r2⟩ := two_new (C := C) rp1.nil hx hdx hne
      have q0 : ([] ++ [x])[0]? = some x := rfl
      refine ⟨by rw [List.length_cons, ← z.length]; exact hn.1, _, _, _, .ref 0 :: vs, r2, .cons (.ref q0) ((RVs.pure [] vs xs hn.2 z).ext rp1.nil ex), ?_⟩
      split at o1
      · rename_i h' hf
        change Ok _ S E0 _ _ _ (f (.ref 0 :: vs) [.ins C (S.nm C).length []]) _
        rw [hf]
        split at o1
        · rename_i w hw
          intro F' ι' H' y e2 r3 z3
          cases z3
          have e3 := ex.trans e2
          obtain ⟨ex4, rp4, nf⟩ := iso_back rp1 e3
          refine ⟨rfl, o1 F1 ι1 H' (.ref x) ex4 rp4 (RV.deep r3 nf e3.more _ _ _ _ hw (.ref ?_))⟩
          obtain ⟨more, rfl, _⟩ := e2.grow
          rw [List.getElem?_append_left (by simp)]
          exact q0
        · exact o1.elim
      · exact o1.elim
    · exact o1.elim)
end
end Rm
namespace Rm
open PySem PySem.Spec PyProof.Rows L2 RZ PpSet
/-! ### keys of any depth, by the heap -/
mutual
inductive Nk (K : PySem.W.Frag) (H : Hp) : V → NestedKey → Prop
  | non : Nk K H .non .none
  | bl (b : Bool) : Nk K H (.bl b) (.num (if b = true then 1 else 0))
  | int (i : Int) : Nk K H (.int i) (.num i)
  | str (x : Str) : Nk K H (.str x) (.text x)
  | tup {a : Addr} {xs : List V} {ks : List NestedKey} : SqT K H a xs → NkAll K H xs ks → Nk K H (.ref a) (.tup ks)
inductive NkAll (K : PySem.W.Frag) (H : Hp) : List V → List NestedKey → Prop
  | nil : NkAll K H [] []
  | cons {v : V} {vs : List V} {k : NestedKey} {ks : List NestedKey} : Nk K H v k → NkAll K H vs ks → NkAll K H (v :: vs) (k :: ks)
end
section
variable {X : Cx} {pins : List (Addr × Obj)} {σ : L2.St} {H : Hp} {s : Shared}
mutual
theorem Nk.is (I : Inv X pins σ H s) : ∀ (k : NestedKey) (v : V) (u : Value), Nk X.K H v k → RelV v u → NestedIs s.heap k u
  | .none, _, _, h, r => by
    cases h
    cases r
    exact .none
  | .num _, _, _, h, r => by
    cases h with
    | bl b => cases r; exact .bool rfl
    | int =>
      obtain ⟨t, rfl⟩ := r
      exact .int _ _
  | .text _, _, _, h, r => by
    cases h
    obtain ⟨t, rfl⟩ := r
    exact .text _ _
  | .tup ks, _, _, h, r => by
    cases h with
    | tup hs ha =>
      cases r
      obtain ⟨its, rv, ⟨o, ho, hc, n, hd⟩, _⟩ := I.tuple hs
      exact .tup ho hc hd (NkAll.is I ks _ _ ha rv)
theorem NkAll.is (I : Inv X pins σ H s) : ∀ (ks : List NestedKey) (vs : List V) (us : List Value), NkAll X.K H vs ks → Vals vs us → NestedAll s.heap ks us
  | [], _, _, h, r => by
    cases h
    cases r
    exact .nil
  | k :: ks, _, _, h, r => by
    cases h with
    | cons h1 h2 =>
      cases r with
      | cons r1 r2 => exact .cons (Nk.is I k _ _ h1 r1) (NkAll.is I ks _ _ h2 r2)
end
end
section
variable {S : Sg} {F : Addr → Prop} {ι : List Addr} {H : Hp}
mutual
theorem nk_of : ∀ (x : LV) (v : V) (k : NestedKey), RV S F ι H x v → x.key = some k → Nk S.K H v k
  | .non, _, _, z, e => by cases z; cases e; exact .non
  | .bl b, _, _, z, e => by cases z; cases e; exact .bl b
  | .int i, _, _, z, e => by cases z; cases e; exact .int i
  | .str x, _, _, z, e => by cases z; cases e; exact .str _
  | .tup xs, _, _, z, e => by
    simp only [LV.key, Option.map_eq_some_iff] at e
    obtain ⟨ks, e1, rfl⟩ := e
    cases z with | tup a b => exact .tup a (nks_of xs _ ks b e1)
  | .ref _, _, _, _, e => by simp [LV.key] at e
  | .vl _, _, _, _, e => by simp [LV.key] at e
  | .fz _, _, _, _, e => by simp [LV.key] at e
  | .vd _ _, _, _, _, e => by simp [LV.key] at e
  | .sd _ _, _, _, _, e => by simp [LV.key] at e
  | .obj _ _, _, _, _, e => by simp [LV.key] at e
theorem nks_of : ∀ (x : List LV) (v : List V) (k : List NestedKey), RVs S F ι H x v → LV.keys x = some k → NkAll S.K H v k
  | [], _, _, z, e => by cases z; cases e; exact .nil
  | x :: xs, _, _, z, e => by
    simp only [LV.keys] at e
    split at e
    · rename_i k1 ks1 h1 h2
      cases e
      cases z with | cons a b => exact .cons (nk_of x _ k1 a h1) (nks_of xs _ ks1 b h2)
    · cases e
end
end
/-! ### a dict by its object -/
def entL (kas : List (NestedKey × Addr)) (us : List Value) : List (NestedKey × Addr × Value) := List.zipWith (fun (x : NestedKey × Addr) (u : Value) => (x.1, x.2, u)) kas us
theorem entL_keys : ∀ {kas : List (NestedKey × Addr)} {us : List Value}, kas.length = us.length → (entL kas us).map (·.1) = kas.map (·.1)
  | [], [], _ => rfl
  | _ :: _, [], h => by simp at h
  | [], _ :: _, h => by simp at h
  | k :: kas, u :: us, h => by
    show k.1 :: (entL kas us).map (·.1) = k.1 :: kas.map (·.1)
    rw [entL_keys (by simpa using h)]
theorem entL_mem : ∀ {kas : List (NestedKey × Addr)} {us : List Value} {x : NestedKey × Addr × Value}, x ∈ entL kas us → (x.1, x.2.1) ∈ kas
  | [], _, _, h => by simp [entL] at h
  | _ :: _, [], _, h => by simp [entL] at h
  | k :: kas, u :: us, x, h => by
    rcases List.mem_cons.mp (show x ∈ (k.1, k.2, u) :: entL kas us from h) with e | e
    · rw [e]; exact List.mem_cons_self
    · exact List.mem_cons_of_mem _ (entL_mem e)
theorem entL_len : ∀ {kas : List (NestedKey × Addr)} {us : List Value}, kas.length = us.length → (entL kas us).length = kas.length := fun h => by
  unfold entL
  rw [List.length_zipWith, h, Nat.min_self]
theorem entL_app {kas kbs : List (NestedKey × Addr)} {us ws : List Value} (h : kas.length = us.length) : entL (kas ++ kbs) (us ++ ws) = entL kas us ++ entL kbs ws := List.zipWith_append h
theorem entL_get : ∀ {kas : List (NestedKey × Addr)} {us : List Value} {i : Nat}, (entL kas us)[i]? = match kas[i]?, us[i]? with
    | some k, some u => some (k.1, k.2, u)
    | _, _ => none
  | [], us, i => by simp [entL]
  | k :: kas, [], i => by
    show ([] : List (NestedKey × Addr × Value))[i]? = _
    cases h : (k :: kas)[i]? <;> simp
  | k :: kas, u :: us, 0 => rfl
  | k :: kas, u :: us, i + 1 => by
    show (entL kas us)[i]? = _
    rw [entL_get]
    rfl
/-- at d stands the dict of these keys and values; the keys stand as they should -/
structure DN (P : Program) (w : World) (K : PySem.W.Frag) (H : Hp) (d : Addr) (o : Obj) (kas : List (NestedKey × Addr)) (xs : List V) : Prop where
  here : H d = some (.ext (dvF P w d o kas xs))
  low : (d == sysModules) = false
  ok : keysOk kas xs
  keys : ∀ k ∈ kas, Nk K H (.ref k.2) k.1
theorem dvF_obj {P : Program} {w : World} {H : Hp} {h : Heap} {d : Addr} {o : Obj} {kas : List (NestedKey × Addr)} {xs : List V} (f : dvF P w d o kas xs h) : ObjOk P w H h d (.ext (dvF P w d o kas xs)) :=
  ⟨f, ⟨o, f.1⟩, fun h1 h2 q k => ⟨k o q.1, q.2⟩⟩
section
variable {X : Cx} {pins : List (Addr × Obj)} {σ : L2.St} {H : Hp} {s : Shared} {d : Addr} {o : Obj} {kas : List (NestedKey × Addr)} {xs : List V}
theorem key_is {q : Addr} {k : NestedKey} (I : Inv X pins σ H s) (h : Nk X.K H (.ref q) k) (hd : k.depth ≤ 8) : (tkN X.prog X.w).is s.heap k q := ⟨Nk.is I k _ _ h rfl, hd⟩
theorem DN.dict (I : Inv X pins σ H s) (D : DN X.prog X.w X.K H d o kas xs) : s.heap.get? d = some o ∧ ∃ es ep us, o.ExactDict ∧ o.data = .dict es ep ∧ Vals xs us ∧ kas.length = us.length ∧ es.toList = (entL kas us).map (entryOfKey (tkN X.prog X.w)) ∧ s.heap.DictOfH (tkN X.prog X.w) d (entL kas us) := by
  obtain ⟨⟨ho, es, ep, us, hx, hdt, hv, he⟩, _⟩ := (show ObjOk X.prog X.w H s.heap d (.ext (dvF X.prog X.w d o kas xs)) from I.hok d _ D.here)
  have hl : kas.length = us.length := by rw [D.ok.2.1, hv.length]
  refine ⟨ho, es, ep, us, hx, hdt, hv, hl, he, o, es, ep, ho, hx, hdt, he, fun x hm => ?_, by rw [entL_keys hl]; exact D.ok.1⟩
  have hm2 := entL_mem hm
  exact key_is I (D.keys _ hm2) (D.ok.2.2.2 _ hm2)
theorem at_entL {us : List Value} (hl : kas.length = us.length) (k : NestedKey) : (atKey (entL kas us) k).isSome = decide (k ∈ kas.map (·.1)) := by
  unfold atKey
  rw [Option.isSome_map, Bool.eq_iff_iff, List.find?_isSome, decide_eq_true_eq]
  constructor
  · rintro ⟨x, hx, hk⟩
    rw [← entL_keys hl]
    exact List.mem_map.mpr ⟨x, hx, of_decide_eq_true hk⟩
  · intro h
    rw [← entL_keys hl] at h
    obtain ⟨x, hx, hk⟩ := List.mem_map.mp h
    exact ⟨x, hx, decide_eq_true hk⟩
theorem room_inN {X : Cx} (hu : X.A.units + 9 < cLine) : (tkN X.prog X.w).room X.A.in1 := by
  show X.A.units + 1 + 8 < cLine
  omega
def rInN (P : Program) (w : World) (K : PySem.W.Frag) (neg : Bool) : R2 := fun x y H Q => ∃ (d q : Addr) (o : Obj) (kas : List (NestedKey × Addr)) (xs : List V) (k : NestedKey), x = .ref q ∧ y = .ref d ∧ DN P w K H d o kas xs ∧ Nk K H (.ref q) k ∧ k.depth ≤ 8 ∧
  Q (.bl (if neg then !decide (k ∈ kas.map (·.1)) else decide (k ∈ kas.map (·.1)))) H
theorem op_niN (hu : X.A.units + 9 < cLine) : OpR X (compareOp .NotIn) (rInN X.prog X.w X.K true) := by
  rintro pins s σ H x y v u Q I rx ry ⟨d, q, o, kas, xs, k, rfl, rfl, D, hq, hd, hQ⟩
  cases rx
  cases ry
  obtain ⟨_, es, ep, us, _, _, _, hl, _, dd⟩ := D.dict I
  refine wpAny_notIn_heap (knd := tkN X.prog X.w) (room_inN hu) (key_is I hq hd) D.low dd ?_
  rw [at_entL hl]
  exact ⟨.bl _, H, I.tok _, rfl, hQ⟩
theorem op_inN (hu : X.A.units + 9 < cLine) : OpR X (compareOp .In) (rInN X.prog X.w X.K false) := by
  rintro pins s σ H x y v u Q I rx ry ⟨d, q, o, kas, xs, k, rfl, rfl, D, hq, hd, hQ⟩
  cases rx
  cases ry
  obtain ⟨_, es, ep, us, _, _, _, hl, _, dd⟩ := D.dict I
  refine wpAny_in_heap (knd := tkN X.prog X.w) (room_inN hu) (key_is I hq hd) D.low dd ?_
  rw [at_entL hl]
  exact ⟨.bl _, H, I.tok _, rfl, hQ⟩
/-- d[k] -/
def rIxN (P : Program) (w : World) (K : PySem.W.Frag) : R2 := fun x y H Q => ∃ (d q : Addr) (o : Obj) (kas : List (NestedKey × Addr)) (xs : List V) (k : NestedKey) (i : Nat) (v : V), x = .ref d ∧ y = .ref q ∧ DN P w K H d o kas xs ∧ Nk K H (.ref q) k ∧ k.depth ≤ 8 ∧
  (kas.map (·.1))[i]? = some k ∧ xs[i]? = some v ∧ Q v H
theorem nodup_find {α : Type} {f : α → NestedKey} {l : List α} (hn : (l.map f).Nodup) {i : Nat} {x : α} {k : NestedKey} (hx : l[i]? = some x) (hk : f x = k) : l.find? (fun y => decide (f y = k)) = some x := by
  induction l generalizing i with
  | nil => simp at hx
  | cons y l ih =>
    rw [List.map_cons, List.nodup_cons] at hn
    cases i with
    | zero =>
      simp at hx
      subst hx
      rw [List.find?_cons, decide_eq_true hk]
    | succ i =>
      have hx' : l[i]? = some x := by simpa using hx
      have hne : f y ≠ k := fun e => hn.1 (by rw [e, ← hk]; exact List.mem_map.mpr ⟨x, List.mem_of_getElem? hx', rfl⟩)
      rw [List.find?_cons, decide_eq_false hne]
      exact ih hn.2 hx'
theorem at_entI {us : List Value} (hl : kas.length = us.length) (hn : (kas.map (·.1)).Nodup) {i : Nat} {k : NestedKey} {q : Addr} {u : Value} (h1 : kas[i]? = some (k, q)) (h2 : us[i]? = some u) : atKey (entL kas us) k = some (q, u) := by
  unfold atKey
  rw [nodup_find (f := fun x => x.1) (i := i) (x := (k, q, u)) (by rw [entL_keys hl]; exact hn) (by rw [entL_get, h1, h2]) rfl]
  rfl
theorem ix_N (hu : X.A.units + 9 < cLine) : IxR X (rIxN X.prog X.w X.K) := by
  rintro ea eb pins s σ H x y v u Q I rx ry ⟨d, q, o, kas, xs, k, i, z, rfl, rfl, D, hq, hd, hk, hz, hQ⟩ hs
  cases rx
  cases ry
  obtain ⟨_, es, ep, us, _, _, hv, hl, _, dd⟩ := D.dict I
  obtain ⟨⟨k2, q2⟩, hkq, e2⟩ : ∃ p, kas[i]? = some p ∧ p.1 = k := by
    rw [List.getElem?_map] at hk
    cases e : kas[i]? with
    | none => rw [e] at hk; cases hk
    | some p => rw [e] at hk; exact ⟨p, rfl, Option.some.inj hk⟩
  obtain rfl : k2 = k := e2
  obtain ⟨uz, hu2, ru⟩ := hv.get hz
  refine tail_any dd.typeIs slot_dict_getitem.lookup (wpAny_getItem_heap (knd := tkN X.prog X.w) (room_inN hu) (key_is I hq hd) dd (at_entI hl D.ok.1 hkq hu2) ?_) hs
  exact ⟨z, H, I.tok _, ru, hQ⟩
/-- d[k] = v -/
def rSetN (P : Program) (w : World) (K : PySem.W.Frag) : TSet := fun y i v H Q => ∃ (d q : Addr) (o : Obj) (kas : List (NestedKey × Addr)) (xs : List V) (k : NestedKey), y = .ref d ∧ i = .ref q ∧ DN P w K H d o kas xs ∧ Nk K H (.ref q) k ∧ k.depth ≤ 8 ∧ kas.length < 60000 ∧
  ((k ∉ kas.map (·.1) ∧ ∀ o', Q (upd H d (.ext (dvF P w d o' (kas ++ [(k, q)]) (xs ++ [v]))))) ∨ ∃ j : Nat, (kas.map (·.1))[j]? = some k ∧ ∀ o', Q (upd H d (.ext (dvF P w d o' kas (xs.set j v)))))
theorem putAt_ent : ∀ {kas : List (NestedKey × Addr)} {us : List Value} {j : Nat} {k : NestedKey} {u : Value}, (kas.map (·.1)).Nodup → kas.length = us.length → (kas.map (·.1))[j]? = some k → (entL kas us).map (putAt k u) = entL kas (us.set j u)
  | [], _, j, k, u, _, _, h => by simp at h
  | _ :: _, [], _, _, _, _, h, _ => by simp at h
  | a :: kas, b :: us, 0, k, u, hn, hl, h => by
    rw [List.map_cons, List.nodup_cons] at hn
    have e : a.1 = k := by simpa using h
    subst e
    show putAt a.1 u (a.1, a.2, b) :: (entL kas us).map (putAt a.1 u) = (a.1, a.2, u) :: entL kas us
    have e1 : (entL kas us).map (putAt a.1 u) = entL kas us := by
      conv => rhs; rw [← List.map_id (entL kas us)]
      refine List.map_congr_left fun x hx => ?_
      have hne : x.1 ≠ a.1 := fun e => hn.1 (by rw [← e]; exact List.mem_map.mpr ⟨_, entL_mem hx, rfl⟩)
      unfold putAt
      rw [if_neg hne]
      rfl
    rw [e1]
    unfold putAt
    rw [if_pos rfl]
  | a :: kas, b :: us, j + 1, k, u, hn, hl, h => by
    rw [List.map_cons, List.nodup_cons] at hn
    have h' : (kas.map (·.1))[j]? = some k := by simpa using h
    have hne : a.1 ≠ k := fun e => hn.1 (by rw [e]; exact List.mem_of_getElem? h')
    show putAt k u (a.1, a.2, b) :: (entL kas us).map (putAt k u) = (a.1, a.2, b) :: entL kas (us.set j u)
    rw [putAt_ent hn.2 (by simpa using hl) h']
    unfold putAt
    rw [if_neg hne]
theorem set_core {q : Addr} {k : NestedKey} {v : V} {u : Value} {us : List Value} {Q : Hp → Prop} (I : Inv X pins σ H s) (D : DN X.prog X.w X.K H d o kas xs) (hv : Vals xs us) (hl : kas.length = us.length) (rv : RelV v u)
    (hQ : (k ∉ kas.map (·.1) ∧ ∀ o', Q (upd H d (.ext (dvF X.prog X.w d o' (kas ++ [(k, q)]) (xs ++ [v]))))) ∨ ∃ j : Nat, (kas.map (·.1))[j]? = some k ∧ ∀ o', Q (upd H d (.ext (dvF X.prog X.w d o' kas (xs.set j v)))))
    {h' : Heap} {tk : Nat} (hd' : h'.DictOfH (tkN X.prog X.w) d (storedH (entL kas us) k q u)) (hs : Heap.SameBut d s.heap h') : ∃ H', Inv X pins σ H' { s with heap := h', toks := tk } ∧ Q H' := by
  have mu : Mut (H d) := by rw [D.here]; exact True.intro
  rcases hQ with ⟨hk, hQ⟩ | ⟨j, hj, hQ⟩
  · have hn : atKey (entL kas us) k = none := by
      have z := at_entL hl k
      rw [decide_eq_false hk] at z
      cases e : atKey (entL kas us) k with
      | none => rfl
      | some p => rw [e] at z; cases z
    rw [storedH_new hn] at hd'
    obtain ⟨o', es', ep', ho', hx', hdt', he', _, _⟩ := hd'
    have f : dvF X.prog X.w d o' (kas ++ [(k, q)]) (xs ++ [v]) h' := ⟨ho', es', ep', us ++ [u], hx', hdt', hv.append (.cons rv .nil), by rw [he']; exact congrArg _ (show entL kas us ++ [(k, q, u)] = entL (kas ++ [(k, q)]) (us ++ [u]) from (entL_app (kbs := [(k, q)]) (ws := [u]) hl).symm)⟩
    exact ⟨_, I.write (x := d) (e := d) mu (.inl rfl) (fun b w n z => (hs.2 b n).trans z) ⟨o', ho'⟩ (dvF_obj f), hQ o'⟩
  · obtain ⟨⟨k2, q2⟩, hkq, e2⟩ : ∃ p, kas[j]? = some p ∧ p.1 = k := by
      rw [List.getElem?_map] at hj
      cases e : kas[j]? with
      | none => rw [e] at hj; cases hj
      | some p => rw [e] at hj; exact ⟨p, rfl, Option.some.inj hj⟩
    obtain rfl : k2 = k := e2
    have hj2 : j < us.length := by rw [← hl]; exact (List.getElem?_eq_some_iff.mp hkq).1
    rw [storedH_old (at_entI hl D.ok.1 hkq (List.getElem?_eq_getElem hj2)), putAt_ent D.ok.1 hl hj] at hd'
    obtain ⟨o', es', ep', ho', hx', hdt', he', _, _⟩ := hd'
    have f : dvF X.prog X.w d o' kas (xs.set j v) h' := ⟨ho', es', ep', us.set j u, hx', hdt', Vals.set rv j hv, he'⟩
    exact ⟨_, I.write (x := d) (e := d) mu (.inl rfl) (fun b w n z => (hs.2 b n).trans z) ⟨o', ho'⟩ (dvF_obj f), hQ o'⟩
theorem set_N (hu : X.A.units + 9 < cLine) : PSet X (rSetN X.prog X.w X.K) := by
  rintro pins s σ H y i v ov iv u Q I ry ri rv ⟨d, q, o, kas, xs, k, rfl, rfl, D, hq, hd, hlen, hQ⟩
  cases ry
  cases ri
  obtain ⟨ho, es, ep, us, _, _, hv, hl, _, dd⟩ := D.dict I
  exact wpAny_setItem_heap (knd := tkN X.prog X.w) (room_inN hu) (key_is I hq hd) dd (fun h' hd' hs => set_core I D hv hl rv hQ hd' hs) (le_sz (by rw [entL_len hl]; omega))
theorem dictSet_N {Q : Unit → Shared → Prop} {E : Value → Shared → Prop} {y v : V} {iv u : Value} {Nx : Hp → Prop} (hu : X.A.units + 8 < cLine) (I : Inv X pins σ H s) (ri : RelV y iv) (rv : RelV v u) (h : rSetN X.prog X.w X.K (.ref d) y v H Nx)
    (hQ : ∀ s' H', Inv X pins σ H' s' → Nx H' → Q () s') : wpAny (model X.prog X.w) X.A (dictSet d iv u) Q E s := by
  obtain ⟨d, q, o, kas, xs, k, ed, rfl, D, hq, hd, hlen, hN⟩ := h
  cases ed
  cases ri
  obtain ⟨ho, es, ep, us, _, _, hv, hl, _, dd⟩ := D.dict I
  exact wpAny_dictSet_heap (knd := tkN X.prog X.w) (show X.A.units + 8 < cLine from hu) (key_is I hq hd) dd (fun h' hd' hs => by
    obtain ⟨H', I', n⟩ := set_core (tk := s.toks + (tkN X.prog X.w).draws k) I D hv hl rv hN hd' hs
    exact hQ _ H' I' n) (le_sz (by rw [entL_len hl]; omega))
/-- list(d) -/
def rListN (P : Program) (w : World) (K : PySem.W.Frag) : List V → Hp → VK → Prop := fun vs H Q => ∃ (d : Addr) (o : Obj) (kas : List (NestedKey × Addr)) (xs : List V), vs = [.ref d] ∧ DN P w K H d o kas xs ∧ ∀ p, H p = none → Q (.ref p) (upd H p (.lst (kas.map fun x => .ref x.2)))
theorem call_list_N (hc : X.calm = true) : CallR X (.type "list") (rListN X.prog X.w X.K) := by
  rintro pins s σ H vs us Q I r ⟨d, o, kas, xs, rfl, D, hQ⟩
  obtain ⟨u, rfl, rx⟩ := vals1 r
  cases rx
  obtain ⟨ho, es, ep, us, hx, hdt, _, hl, he, _⟩ := D.dict I
  have sz : es.size = kas.length := by rw [size_of_entries he, entL_len hl]
  have few := D.ok.2.2.1
  refine PySem.W.kdl_call (L2.kdl_raw D.low hx hdt) (I.ok.hd hc) ho (le_sz (by omega)) ?_
  intro h' tk acc c' kp e it
  have rv : Vals (kas.map fun x => V.ref x.2) acc.toList := by
    refine vals_of_idx _ _ (by rw [Array.length_toList, it.1, List.length_map]; exact sz) ?_
    intro j v hj
    obtain ⟨en, hen, hv⟩ := it.2 j v (by rw [← Array.getElem?_toList]; exact hj)
    have qe := entry_at he j
    rw [hen, entL_get] at qe
    cases hb : kas[j]? with
    | none => rw [hb] at qe; cases qe
    | some b =>
      cases hb2 : us[j]? with
      | none =>
        have h1 := List.getElem?_eq_none_iff.mp hb2
        have h2 := (List.getElem?_eq_some_iff.mp hb).1
        omega
      | some uu =>
        rw [hb, hb2] at qe
        have e2 := Option.some.inj qe
        refine ⟨.ref b.2, by rw [List.getElem?_map, hb]; rfl, ?_⟩
        rw [hv, e2]
        rfl
  refine ⟨.ref s.heap.objs.size, _, I.laid (t' := tk) (o := .lst (kas.map fun x => V.ref x.2)) kp (Nat.le_refl _) ⟨le_sz (by rw [List.length_map]; omega), acc.toList, c', rv, by rw [Array.toArray_toList]; exact e⟩, rfl, hQ _ (I.hok.fresh (Nat.le_refl _))⟩
/-- {} -/
def tNewN (P : Program) (w : World) : TE := fun _ H Q => ∀ p o, H p = none → (p == sysModules) = false → Q (.ref p) (upd H p (.ext (dvF P w p o [] [])))
theorem low_newN (I : Inv X pins σ H s) : (s.heap.objs.size == sysModules) = false := beq_eq_false_iff_ne.mpr (Ne.symm (Nat.ne_of_lt I.big))
theorem dvF_new {P : Program} {w : World} {h : Heap} : dvF P w h.objs.size { cls := .type "dict", data := .dict #[] } [] [] (h.push { cls := .type "dict", data := .dict #[] }) := ⟨Heap.get?_push_size _ rfl, #[], 0, [], ⟨rfl, rfl, rfl⟩, rfl, .nil, rfl⟩
theorem pe_newN {pos : Pos} : PE X (.Dict [] [] pos) (tNewN X.prog X.w) := by
  constructor
  intro pins s σ H Q I h
  exact wpAny_Dict_empty ⟨.ref s.heap.objs.size, _, I.laid (a := s.heap.objs.size) (t' := s.toks) (fun _ _ q => Heap.get?_push_of_some _ q) (Nat.le_refl _) (dvF_obj dvF_new), rfl, h _ _ (I.hok.fresh (Nat.le_refl _)) (low_newN I)⟩
/-! ### walking a dict -/
def ItkN (P : Program) (w : World) (d : Addr) (o : Obj) (kas : List (NestedKey × Addr)) : It :=
  ⟨fun i H => (∃ xs, H d = some (.ext (dvF P w d o kas xs)) ∧ kas.length = xs.length) ∧ i < kas.length, fun i H x H' => H' = H ∧ ∃ k, kas[i]? = some k ∧ x = .ref k.2, fun i H => (∃ xs, H d = some (.ext (dvF P w d o kas xs)) ∧ kas.length = xs.length) ∧ kas.length ≤ i⟩
theorem dv_at (I : Inv X pins σ H s) (hh : H d = some (.ext (dvF X.prog X.w d o kas xs))) (hl : kas.length = xs.length) : s.heap.get? d = some o ∧ ∃ es ep, o.data = .dict es ep ∧ es.size = kas.length ∧ ∀ (i : Nat) (k : NestedKey × Addr), kas[i]? = some k → ∃ en, es[i]? = some en ∧ en.key = .ref k.2 := by
  obtain ⟨⟨ho, es, ep, us, _, hdt, hv, he⟩, _⟩ := (show ObjOk X.prog X.w H s.heap d (.ext (dvF X.prog X.w d o kas xs)) from I.hok d _ hh)
  have he' : es.toList = (entL kas us).map (entryOfKey (tkN X.prog X.w)) := he
  have hl2 : kas.length = us.length := hl.trans hv.length
  refine ⟨ho, es, ep, hdt, by rw [size_of_entries he', entL_len hl2], fun i k hk => ?_⟩
  have hi : i < us.length := by rw [← hl2]; exact (List.getElem?_eq_some_iff.mp hk).1
  exact ⟨_, by rw [entry_at he' i, entL_get, hk, List.getElem?_eq_getElem hi]; rfl, rfl⟩
theorem turn_keysN {P : Program} {w : World} {K : PySem.W.Frag} {tg : Expr} {d : Addr} {o : Obj} {kas : List (NestedKey × Addr)} {es0 : Array DictEntry} {ep0 : Nat} (it : Addr) (h0 : o.data = .dict es0 ep0) :
    Turn P w K tg (ItkN P w d o kas) [it] it (fun i h => h.IsKeyIter it d i kas.length ep0) := by
  have only : ∀ b ∈ [it], b = it := fun b hb => List.mem_singleton.mp hb
  refine ⟨List.mem_singleton.mpr rfl, ?_, fun i h h' st k => st.at fun oi e => k it (List.mem_singleton.mpr rfl) oi e, ?_, ?_, ?_⟩
  · rintro i h ⟨oi, e, c, dd⟩ b hb
    rw [only b hb]
    refine ⟨oi, e, fun v z => ?_⟩
    rw [dd] at z
    cases z
  · rintro X rfl rfl rfl hc i pins s σ H E I hf st ⟨⟨xs, hH, hl⟩, hi⟩
    obtain ⟨p0, p1, p2, p3, p4, p5⟩ := hf it (List.mem_singleton.mpr rfl)
    obtain ⟨ho, es, ep, hdt, hsz, hen⟩ := dv_at I hH hl
    obtain ⟨e1, e2⟩ := dict_ep h0 hdt
    subst e1 e2
    obtain ⟨en, g1, g2⟩ := hen i _ (List.getElem?_eq_getElem hi)
    refine next_key_item st ho hdt hsz g1 fun h' st2 sb => ⟨en.key, rfl, ?_⟩
    obtain ⟨oi, q1, q2, q3⟩ := id st2
    have I2 : Inv X pins σ H { s with heap := h' } := I.turned (t' := s.toks) (fun b ob hb e => (sb.2 b hb).trans e) p0 p1 p3 p4 p5
    refine go_of (s := { s with heap := h' }) q1 q2 q3 (by decide) ⟨.ref kas[i].2, H, I2, ?_, ⟨rfl, _, List.getElem?_eq_getElem hi, rfl⟩, st2, fun b hb => (hf b hb).1⟩
    rw [g2]
    rfl
  · rintro X rfl rfl rfl hc i pins s σ H E I hf st ⟨⟨xs, hH, hl⟩, hi⟩
    obtain ⟨p0, p1, p2, p3, p4, p5⟩ := hf it (List.mem_singleton.mpr rfl)
    obtain ⟨ho, es, ep, hdt, hsz, hen⟩ := dv_at I hH hl
    obtain ⟨e1, e2⟩ := dict_ep h0 hdt
    subst e1 e2
    exact next_key_end (I.ok.hd hc) st ho hdt hsz hi fun h' eb => ⟨rfl, I.turned (t' := s.toks) eb p0 p1 p3 p4 p5⟩
  · exact fun A i s Q E st h => wpAny_pyIter_keyiter st h
def iKeysN (P : Program) (w : World) (td : TE) : TI := fun σ H R => td σ H fun x H1 => ∃ (d : Addr) (o : Obj) (kas : List (NestedKey × Addr)) (xs : List V), x = .ref d ∧ (d == sysModules) = false ∧ H1 d = some (.ext (dvF P w d o kas xs)) ∧ kas.length = xs.length ∧ R (ItkN P w d o kas) H1
theorem pi_keysN {tg e : Expr} {td : TE} (he : PE X e td) : PI X tg e (iKeysN X.prog X.w td) := ⟨fun pins s σ H R I h => by
  refine thn (he.run pins s σ H _ I h) fun u s1 ⟨x, H1, I1, rx, d, o, kas, xs, ex, low, hH, hl, q⟩ => ?_
  subst ex
  obtain rfl : u = Value.ref d := rx
  obtain ⟨⟨ho, es, ep, us, hx, hdt, _, _⟩, _⟩ := (show ObjOk X.prog X.w H1 s1.heap d (.ext (dvF X.prog X.w d o kas xs)) from I1.hok d _ hH)
  obtain ⟨_, es', ep', hdt', hsz, _⟩ := dv_at I1 hH hl
  obtain ⟨e1, e2⟩ := dict_ep hdt hdt'
  subst e1 e2
  refine iter_keys low ho hx hdt (pi_one (tk := s1.toks) I1 _ (turn_keysN _ hdt) ⟨_, Heap.get?_push_size _ rfl, rfl, ?_⟩ q)
  rw [hsz] <;> rfl⟩
end
end Rm
namespace Rm
open PySem PySem.Spec PyProof.Rows L2 RZ PpSet
section
variable {X : Cx}
/-- {k: v for ..} with tuples as keys -/
def tDcN (P : Program) (w : World) (K : PySem.W.Frag) (wi : TI) (g : TG) (tt : TT) (tk tv : TE) (vs : List Nat) : TE := fun σ H Q => wi σ H fun J H1 => ∀ D o, H1 D = none → (D == sysModules) = false →
  ∃ W : Nat → Nat → Hp → Prop, (∃ m, W 0 m (upd H1 D (.ext (dvF P w D o [] [])))) ∧ ∀ i m H, W i m H → (J.stop i H ∧ Q (.ref D) H) ∨ (J.go i H ∧ ∃ Nx : Hp → Prop, (∀ H', Nx H' → ∃ m', m' < m ∧ W (i + 1) m' H') ∧
    ∀ x H', J.yld i H x H' → g x (wipe σ vs) H' fun σ2 H2 => wipe σ2 vs = wipe σ vs ∧ tt σ2 H2 fun b H3 => if b = true then tk σ2 H3 fun y H4 => tv σ2 H4 fun z H5 => rSetN P w K (.ref D) y z H5 Nx else Nx H3)
theorem dcN_core {kx vx tg iter : Expr} {ifs : List Expr} {scope : Scope} {own : List (Str × Nat)} {pos pos' : Pos} {wi : TI} {g : TG} {tt : TT} {tk tv : TE} {use : Option (Value → Sem Unit)} {Qf : Value → Shared → Prop} {pins : List (Addr × Obj)} {s : Shared} {σ : L2.St} {H : Hp} {Q : VK} (hu : X.A.units + 9 < cLine) (calm : X.calm = true) (nd : X.N.Nodup) (I : Inv X pins σ H s) (src : PI X tg iter wi) (blk : BlkOk X.N X.env.scope scope own)
    (tgt : ∀ s H C cl fp, PG (X.blk s H scope (compEnvC scope cl C X.env) fp) tg g) (tst : ∀ s H C cl fp, PTs (X.blk s H scope (compEnvC scope cl C X.env) fp) ifs tt)
    (key : ∀ s H C cl fp, PE (X.blk s H scope (compEnvC scope cl C X.env) fp) kx tk) (val : ∀ s H C cl fp, PE (X.blk s H scope (compEnvC scope cl C X.env) fp) vx tv) (plain : ∀ x, foldedSetIterable iter X.env x = pure x)
    (h : tDcN X.prog X.w X.K wi g tt tk tv (own.map (·.2)) σ H Q)
    (behind : ∀ D C s' m H', Inv X pins σ H' s' → Q (.ref D) H' → s'.heap.Ns C m → FpOk X pins H' C → compPost (model X.prog X.w) X.A X.xe use Qf (.ref D) C (.ok .next) s') :
    wpAny (model X.prog X.w) X.A (comprehension (.DictComp kx vx [⟨tg, iter, ifs, 0⟩] scope pos) scope X.env pos' newDict false (eval iter X.env) use) Qf X.xe s := by
  have frees : ∀ y ∈ scope.names, y.2 = .free → ∃ c, X.env.cells.lookup y.1 = some c := fun y hy e => (blk.free y hy e).elim (fun k => I.ok.has _ (.inl k)) fun k => I.ok.has _ (.inr k)
  refine wpAny_comprehension_free (use := use) rfl plain (closure_ok frees) blk.kind (fun y hy e => (blk.uniq y hy).trans (congrArg some e)) (thn (src.run pins s σ H _ I h) fun xv sa ha => thn ha fun itv sb hb => ?_)
  obtain ⟨it, fp, tn, J, Hb, rfl, Ib, T, stb, fpb, q⟩ := hb
  refine wpAny_newObj_type (newEnv_comp ?_)
  obtain ⟨W, ⟨m0, w0⟩, turn⟩ := q sb.heap.objs.size { cls := .type "dict", data := .dict #[] } (Ib.hok.fresh (Nat.le_refl _)) (low_newN Ib)
  -- the dict is there
  have Ic : Inv X pins σ _ { sb with heap := sb.heap.push { cls := .type "dict", data := .dict #[] } } := Ib.laid (a := sb.heap.objs.size) (t' := sb.toks) (fun _ _ e => Heap.get?_push_of_some _ e) (Nat.le_refl _) (dvF_obj dvF_new)
  have small : ∀ b ∈ fp, b < sb.heap.objs.size := fun b hb => let ⟨_, e, _⟩ := T.obj _ _ stb b hb; Heap.lt_size e
  have fpc : ∀ b ∈ fp, FpOk X pins (upd Hb sb.heap.objs.size (.ext (dvF X.prog X.w sb.heap.objs.size { cls := .type "dict", data := .dict #[] } [] []))) b ∧ b < (sb.heap.push { cls := .type "dict", data := .dict #[] }).objs.size := fun b hb =>
    ⟨⟨by rw [upd_ne (Nat.ne_of_lt (small b hb))]; exact (fpb b hb).1, (fpb b hb).2⟩, by rw [Heap.size_push]; exact Nat.lt_succ_of_lt (small b hb)⟩
  have stc : tn 0 (sb.heap.push { cls := .type "dict", data := .dict #[] }) := T.keep _ _ _ stb fun b _ o e => Heap.get?_push_of_some _ e
  generalize sb.heap.objs.size = D at *
  generalize upd Hb D (.ext (dvF X.prog X.w D { cls := .type "dict", data := .dict #[] } [] [])) = Hc at *
  generalize hsc : ({ sb with heap := sb.heap.push { cls := .type "dict", data := .dict #[] } } : Shared) = sc at *
  have hsc2 : sb.heap.push { cls := .type "dict", data := .dict #[] } = sc.heap := by rw [← hsc]
  rw [hsc2] at fpc stc
  have Id := block_start Ic blk nd fpc
  generalize hce : compEnvC scope (cellsFrom (sc.heap.objs.size + 1) scope.names (cloFrom X.env.cells scope.names [])) sc.heap.objs.size X.env = ce at Id
  have loc : ce.locals = sc.heap.objs.size := by rw [← hce]; rfl
  change codeAny _ _ (.compStart _ _ _ _ (compEnvC scope (cellsFrom (sc.heap.objs.size + 1) scope.names (cloFrom X.env.cells scope.names [])) sc.heap.objs.size X.env)) (compPost _ _ _ use Qf (.ref D) sc.heap.objs.size) _
  rw [hce]
  have pg := tgt sc Hc sc.heap.objs.size (cellsFrom (sc.heap.objs.size + 1) scope.names (cloFrom X.env.cells scope.names [])) fp
  have pt := tst sc Hc sc.heap.objs.size (cellsFrom (sc.heap.objs.size + 1) scope.names (cloFrom X.env.cells scope.names [])) fp
  have pk := key sc Hc sc.heap.objs.size (cellsFrom (sc.heap.objs.size + 1) scope.names (cloFrom X.env.cells scope.names [])) fp
  have pv := val sc Hc sc.heap.objs.size (cellsFrom (sc.heap.objs.size + 1) scope.names (cloFrom X.env.cells scope.names [])) fp
  rw [hce] at pg pt pk pv
  have ready : ∀ {σ' : L2.St} {H' : Hp} {s' : Shared}, Inv (X.blk sc Hc scope ce fp) [] σ' H' s' → (∀ b ∈ fp, H' b = none) → ∀ b ∈ fp, FpOk (X.blk sc Hc scope ce fp) [] H' b := fun J' n b hb =>
    ⟨n b hb, (J'.ok.exf b hb).1, J'.ok.exfs b hb, .inl hb, fun x c e => (J'.ok.exf b hb).2 x c e, fun p hp => nomatch hp⟩
  have std : tn 0 (pushCells (sc.heap.push { cls := .type "dict", data := .dict #[] }) scope.names) := T.keep _ _ _ stc fun b _ o e => pushCells_keeps _ _ _ _ (Heap.get?_push_of_some _ e)
  refine codeAny_compStart_dict (env := ce) ?loop (T.self X.A 0 _ _ _ std ?loop)
  refine compLoop_anyD (fun n s' => ∃ i H', Inv (X.blk sc Hc scope ce fp) [] (wipe σ (own.map (·.2))) H' s' ∧ tn i s'.heap ∧ (∀ b ∈ fp, H' b = none) ∧ W i n H') ?_ m0 ⟨0, Hc, Id, std, fun b hb => (fpc b hb).1.1, w0⟩
  rintro n se ⟨i, He, Ie, ste, ne, we⟩
  rcases turn i n He we with ⟨stop, fin⟩ | ⟨go, Nx, less, step⟩
  · refine thnF (T.done (X.blk sc Hc scope ce fp) rfl rfl rfl calm i [] se _ He (fun _ _ => False) Ie (ready Ie ne) ste stop) ?_
    rintro r sf ⟨rfl, If⟩
    have Ig : Inv X pins σ He sf := Ic.call' (ch := fp) If.os If.base If.hok If.bare fun b hb => ⟨(fpc b hb).1.2.2.2.1, (fpc b hb).1.2.1, (fpc b hb).1.2.2.2.2.1, (fpc b hb).1.2.2.2.2.2⟩
    have none' : He sc.heap.objs.size = none := by rw [← loc]; exact If.free
    obtain ⟨m, hn, _⟩ := If.loc
    have hn2 : sf.heap.Ns sc.heap.objs.size m := by rw [← loc]; exact hn
    exact behind D _ sf m He Ig fin hn2 (Ic.fpOk (b := sc.heap.objs.size) (Nat.le_refl _) none')
  · refine thnF (T.item (X.blk sc Hc scope ce fp) rfl rfl rfl calm i [] se _ He (fun _ _ => False) Ie (ready Ie ne) ste go) ?_
    rintro r sf ⟨u, rfl, hf⟩
    refine thnF hf fun _ sg ⟨x, Hg, Ig, rg, yg, stg, ng⟩ => ?_
    have Ig2 := Ig.pinned (ready Ig ng) (T.obj _ _ stg)
    refine thnF (pg.run _ sg _ Hg x u _ Ig2 rg (step x Hg yg)) fun _ sh ⟨σh, Hh, Ih, wh, qh⟩ => ?_
    have next : ∀ {s' : Shared} {H' : Hp}, Inv (X.blk sc Hc scope ce fp) ([] ++ pinsAt fp sg.heap) σh H' s' → Nx H' → ∃ m, m < n ∧ ∃ i H', Inv (X.blk sc Hc scope ce fp) [] (wipe σ (own.map (·.2))) H' s' ∧ tn i s'.heap ∧ (∀ b ∈ fp, H' b = none) ∧ W i m H' := fun {s' H'} J' nx => by
      obtain ⟨m', hm, w'⟩ := less H' nx
      have pinned : ∀ b ∈ fp, ∀ o, sg.heap.get? b = some o → s'.heap.get? b = some o ∧ H' b = none := fun b hb o e => by
        have z := J'.pin (b, o) (List.mem_append_right _ (List.mem_append_right _ (mem_pinsAt hb e)))
        exact ⟨z.1, z.2.1⟩
      have hl : (wipe σ (own.map (·.2))).length = σh.length := (congrArg List.length wh).symm.trans (wipe_length σh _)
      refine ⟨m', hm, i + 1, H', (J'.unpinned (pins := [])).weak hl (fun j v e => ?_), T.keep _ _ _ stg fun b hb o e => (pinned b hb o e).1, fun b hb => ?_, w'⟩
      · rw [← wh] at e
        exact (wipe_some e).1
      · obtain ⟨o, e, _⟩ := T.obj _ _ stg b hb
        exact (pinned b hb o e).2
    refine thnF (pt.run _ sh σh Hh _ Ih qh) fun b si ⟨Hi, Ii, qi⟩ => ?_
    cases b with
    | false => exact next Ii qi
    | true =>
      refine thnF (pk.run _ si σh Hi _ Ii qi) fun ku sj ⟨kv, Hj, Ij, rj, qj⟩ => ?_
      refine thnF (pv.run _ sj σh Hj _ Ij qj) fun vu sk ⟨vv, Hk, Ik, rk, qk⟩ => ?_
      exact dictSet_N (X := X.blk sc Hc scope ce fp) (show X.A.units + 8 < cLine by omega) Ik rj rk qk fun sl Hl Il nl => next Il nl
theorem pe_dcN {kx vx tg iter : Expr} {ifs : List Expr} {scope : Scope} {own : List (Str × Nat)} {pos : Pos} {wi : TI} {g : TG} {tt : TT} {tk tv : TE} (hu : X.A.units + 9 < cLine) (calm : X.calm = true) (nd : X.N.Nodup) (src : PI X tg iter wi) (blk : BlkOk X.N X.env.scope scope own)
    (tgt : ∀ s H C cl fp, PG (X.blk s H scope (compEnvC scope cl C X.env) fp) tg g) (tst : ∀ s H C cl fp, PTs (X.blk s H scope (compEnvC scope cl C X.env) fp) ifs tt)
    (key : ∀ s H C cl fp, PE (X.blk s H scope (compEnvC scope cl C X.env) fp) kx tk) (val : ∀ s H C cl fp, PE (X.blk s H scope (compEnvC scope cl C X.env) fp) vx tv) (plain : ∀ x, foldedSetIterable iter X.env x = pure x := by intro _; rfl) :
    PE X (.DictComp kx vx [⟨tg, iter, ifs, 0⟩] scope pos) (tDcN X.prog X.w X.K wi g tt tk tv (own.map (·.2))) := ⟨fun pins s σ H Q I h => by
  rw [arm_eval_DictComp]
  refine dcN_core hu calm nd I src blk tgt tst key val plain h fun D C s' m H' I' q hn f => ⟨m, hn, fun h'' but => ?_⟩
  obtain ⟨f0, f1, f2, f3, f4, f5⟩ := f
  exact ⟨.ref D, H', I'.turned (t' := s'.toks) (fun b o hb e => (but.2 b hb).trans e) f0 f1 f3 f4 f5, rfl, q⟩⟩
/-- name = {k: v for ..} -/
theorem ps_setDcN {i : Nat} {y : Str} {py spos : Pos} {kx vx tg iter : Expr} {ifs : List Expr} {scope : Scope} {own : List (Str × Nat)} {pos : Pos} {wi : TI} {g : TG} {tt : TT} {tk tv : TE} (hu : X.A.units + 9 < cLine) (calm : X.calm = true) (nd : X.N.Nodup) (at_ : X.N[i]? = some y) (lo : X.env.scope.names.lookup y = some .local)
    (hsw : swapsWith (.DictComp kx vx [⟨tg, iter, ifs, 0⟩] scope pos) (some (.Name y py)) spos.line X.env = pure true) (src : PI X tg iter wi) (blk : BlkOk X.N X.env.scope scope own)
    (tgt : ∀ s H C cl fp, PG (X.blk s H scope (compEnvC scope cl C X.env) fp) tg g) (tst : ∀ s H C cl fp, PTs (X.blk s H scope (compEnvC scope cl C X.env) fp) ifs tt)
    (key : ∀ s H C cl fp, PE (X.blk s H scope (compEnvC scope cl C X.env) fp) kx tk) (val : ∀ s H C cl fp, PE (X.blk s H scope (compEnvC scope cl C X.env) fp) vx tv) (plain : ∀ x, foldedSetIterable iter X.env x = pure x := by intro _; rfl) :
    PS X (.Assign [.Name y py] (.DictComp kx vx [⟨tg, iter, ifs, 0⟩] scope pos) spos) (tAsg (tDcN X.prog X.w X.K wi g tt tk tv (own.map (·.2))) (gName i)) := ⟨fun pins s σ H D I h => by
  rw [exec_Assign_Name_used _ _ _ _ hsw]
  refine wpAny_bind (wpAny_standAt (wpAny_bind ?_))
  change wpAny _ X.A (do let _ ← comprehension (.DictComp kx vx [⟨tg, iter, ifs, 0⟩] scope pos) scope X.env (firstIterPos [⟨tg, iter, ifs, 0⟩] pos) newDict false (eval iter X.env) (some (assign (.Name y py) X.env))) _ _ s
  have h2 : tDcN X.prog X.w X.K wi g tt tk tv (own.map (·.2)) σ H (fun x H1 => D.nx (σ.set i (some x)) H1) := h
  refine wpAny_bind (thn (dcN_core (Qf := fun _ s' => SP X pins D .next s') hu calm nd I src blk tgt tst key val plain h2 fun L C s' m H' I' q hn f => ?_) fun _ s' hq => wpAny_pure (wpAny_pure hq))
  obtain ⟨f0, f1, f2, f3, f4, f5⟩ := f
  refine wpAny_assign_Name (store_ok2 (v := V.ref L) I' nd at_ (.inl lo) rfl (fun s2 I2 w => ?_) (.inr lo))
  obtain ⟨a, sb, ha⟩ := w
  have apartC : C ≠ a := by
    rcases ha with z | z
    · rw [z]; exact f1
    · exact fun e => f4 y a z e.symm
  exact ⟨m, hn.sameBut sb apartC, fun h3 sb3 => ⟨_, H', I2.turned (t' := s2.toks) (fun b o hb e => (sb3.2 b hb).trans e) f0 f1 f3 f4 f5, q⟩⟩⟩
theorem sw_trueD {kx vx : Expr} {gs : List Comprehension} {scope : Scope} {pos py : Pos} {y : Str} {l : Nat} {env : Env} (hk : env.scope.kind = .function) (hy : env.scope.names.lookup y = some .local) (hl : (py.line == pos.line) = true)
    (ha : (scope.names.any fun (n, k) => n == y && (k == .local || k == .cell)) = false) : swapsWith (.DictComp kx vx gs scope pos) (some (.Name y py)) l env = pure true := by
  have k1 : env.kindOf y = some .local := hy
  have k2 : env.blockKind = .function := by
    unfold Env.blockKind
    rw [hk]
    rfl
  unfold swapsWith
  simp only [k2, k1, ha, Expr.pos, hl]
  rfl
/-- {k: v}, one pair -/
def tDispN (P : Program) (w : World) (K : PySem.W.Frag) (tk tv : TE) : TE := fun σ H Q => ∀ p o, H p = none → (p == sysModules) = false → tk σ (upd H p (.ext (dvF P w p o [] []))) fun x H1 => tv σ H1 fun v H2 => ∃ (q : Addr) (k : NestedKey) (z : V), [(x, v)] = [(V.ref q, z)] ∧ H2 p = some (.ext (dvF P w p o [] [])) ∧ Nk K H2 (.ref q) k ∧ k.depth ≤ 8 ∧
  ∀ o', Q (.ref p) (upd H2 p (.ext (dvF P w p o' [(k, q)] [z])))
theorem pe_dispN {e f : Expr} {pos : Pos} {tk tv : TE} (hu : X.A.units + 9 < cLine) (he : PE X e tk) (hf : PE X f tv) : PE X (.Dict [some e] [f] pos) (tDispN X.prog X.w X.K tk tv) := by
  constructor
  intro pins s σ H Q I h
  have I1 := I.laid (a := s.heap.objs.size) (h' := s.heap.push { cls := .type "dict", data := .dict #[] }) (t' := s.toks) (fun _ _ q => Heap.get?_push_of_some _ q) (Nat.le_refl _) (dvF_obj (P := X.prog) (w := X.w) dvF_new)
  rw [arm_eval_Dict, zip_pairTrees [some e] [f] X.env pos rfl rfl, dictDisplay_pairs (pairTrees [some e] [f] X.env pos) (by intro z; cases z) (show (1 : Nat) < 17 from by decide)]
  refine wpAny_bind (wpAny_standAt (wpAny_bind (wpAny_subDictH (knd := tkN X.prog X.w) (Q := fun d s' => wpAny (model X.prog X.w) X.A (pure (Value.ref d)) (EP X pins σ Q) X.xe s') (show X.A.units + 8 < cLine from by omega) (show (1 : Nat) ≤ 15 from by decide) ?_)))
  have run := (pps_cons (pos := pos) he hf pps_nil).run pins _ σ _ (fun ps H2 => ∃ q k v, ps = [(.ref q, v)] ∧ H2 s.heap.objs.size = some (.ext (dvF X.prog X.w s.heap.objs.size { cls := .type "dict", data := .dict #[] } [] [])) ∧ Nk X.K H2 (.ref q) k ∧ k.depth ≤ 8 ∧
    ∀ o', Q (.ref s.heap.objs.size) (upd H2 s.heap.objs.size (.ext (dvF X.prog X.w s.heap.objs.size o' [(k, q)] [v])))) I1 ?_
  · refine thn run ?_
    rintro vs s2 ⟨ps, H2, I2, rel, q, k, v, rfl, g, hq, hd, hQ⟩
    cases rel with
    | cons r t =>
      cases t
      obtain ⟨r1, r2⟩ := r
      have D : DN X.prog X.w X.K H2 s.heap.objs.size { cls := .type "dict", data := .dict #[] } [] [] := ⟨g, low_newN I, ⟨List.nodup_nil, rfl, Nat.zero_le _, fun _ hx => nomatch hx⟩, fun x hx => nomatch hx⟩
      obtain ⟨_, es, ep, us, _, _, hv, _, _, dd⟩ := D.dict I2
      cases hv
      refine ⟨[(k, q, _)], ⟨r1, rfl, key_is I2 hq hd, trivial⟩, dd, fun h' tk hd' hs => wpAny_pure ?_⟩
      obtain ⟨H', I', n⟩ := set_core (tk := tk) (Q := fun H' => Q (.ref s.heap.objs.size) H') I2 D .nil rfl r2 (.inl ⟨by simp, hQ⟩) hd' hs
      exact ⟨.ref s.heap.objs.size, H', I', rfl, n⟩
  · exact h s.heap.objs.size { cls := .type "dict", data := .dict #[] } (I.hok.fresh (Nat.le_refl _)) (low_newN I)
end
end Rm
namespace Rm
open PySem PySem.Spec PyProof.Rows L2 RZ PpSet
/-! ### keys: told apart, deep enough -/
mutual
def keqL : LV → LV → Bool
  | .non, .non => true
  | .bl a, .bl b => a == b
  | .bl a, .int b => (if a then 1 else 0) == b
  | .int a, .bl b => a == (if b then 1 else 0)
  | .int a, .int b => a == b
  | .str a, .str b => a == b
  | .tup xs, .tup ys => keqsL xs ys
  | _, _ => false
def keqsL : List LV → List LV → Bool
  | [], [] => true
  | x :: xs, y :: ys => keqL x y && keqsL xs ys
  | _, _ => false
end
mutual
def kfit : LV → Nat → Bool
  | .non, _ => true
  | .bl _, _ => true
  | .int _, _ => true
  | .str _, _ => true
  | .tup xs, n + 1 => kfits xs n
  | _, _ => false
def kfits : List LV → Nat → Bool
  | [], _ => true
  | x :: xs, n => kfit x n && kfits xs n
end
mutual
theorem kfit_of : ∀ (x : LV) (n : Nat), kfit x n = true → ∃ k, x.key = some k ∧ k.depth ≤ n
  | .non, n, _ => ⟨_, rfl, Nat.zero_le _⟩
  | .bl b, n, _ => ⟨_, rfl, Nat.zero_le _⟩
  | .int i, n, _ => ⟨_, rfl, Nat.zero_le _⟩
  | .str x, n, _ => ⟨_, rfl, Nat.zero_le _⟩
  | .tup xs, n + 1, h => by
    obtain ⟨ks, e, d⟩ := kfits_of xs n (by simpa [kfit] using h)
    refine ⟨.tup ks, by simp only [LV.key, e, Option.map_some], ?_⟩
    simp only [NestedKey.depth]
    omega
  | .tup xs, 0, h => by simp [kfit] at h
  | .ref _, n, h => by simp [kfit] at h
  | .vl _, n, h => by simp [kfit] at h
  | .fz _, n, h => by simp [kfit] at h
  | .vd _ _, n, h => by simp [kfit] at h
  | .sd _ _, n, h => by simp [kfit] at h
  | .obj _ _, n, h => by simp [kfit] at h
theorem kfits_of : ∀ (x : List LV) (n : Nat), kfits x n = true → ∃ k, LV.keys x = some k ∧ NestedKey.depthAll k ≤ n
  | [], n, _ => ⟨[], rfl, by simp [NestedKey.depthAll]⟩
  | x :: xs, n, h => by
    simp only [kfits, Bool.and_eq_true] at h
    obtain ⟨k, e, d⟩ := kfit_of x n h.1
    obtain ⟨ks, es, ds⟩ := kfits_of xs n h.2
    refine ⟨k :: ks, by simp only [LV.keys, e, es], ?_⟩
    simp only [NestedKey.depthAll]
    omega
end
mutual
theorem keq_of : ∀ (x y : LV) (k l : NestedKey), x.key = some k → y.key = some l → keqL x y = decide (k = l)
  | .non, y, k, l, h, g => by cases h; cases y <;> simp [LV.key, keqL] at g ⊢ <;> (try subst g) <;> (try obtain ⟨_, _, rfl⟩ := g) <;> simp
  | .bl b, y, k, l, h, g => by cases h; cases y <;> simp [LV.key, keqL] at g ⊢ <;> (try subst g) <;> (try obtain ⟨_, _, rfl⟩ := g) <;> (try simp [Bool.beq_eq_decide_eq]) <;> (try rename_i c; cases b <;> cases c <;> decide)
  | .int i, y, k, l, h, g => by cases h; cases y <;> simp [LV.key, keqL] at g ⊢ <;> (try subst g) <;> (try obtain ⟨_, _, rfl⟩ := g) <;> simp [Bool.beq_eq_decide_eq]
  | .str x, y, k, l, h, g => by cases h; cases y <;> simp [LV.key, keqL] at g ⊢ <;> (try subst g) <;> (try obtain ⟨_, _, rfl⟩ := g) <;> simp [Bool.beq_eq_decide_eq]
  | .tup xs, .tup ys, k, l, h, g => by
    simp only [LV.key, Option.map_eq_some_iff] at h g
    obtain ⟨ks, h1, rfl⟩ := h
    obtain ⟨ls, g1, rfl⟩ := g
    simp only [keqL]
    rw [keqs_of xs ys ks ls h1 g1]
    simp
  | .tup xs, .non, k, l, h, g => by simp only [LV.key, Option.map_eq_some_iff] at h; obtain ⟨ks, h1, rfl⟩ := h; cases g; simp [keqL]
  | .tup xs, .bl _, k, l, h, g => by simp only [LV.key, Option.map_eq_some_iff] at h; obtain ⟨ks, h1, rfl⟩ := h; cases g; simp [keqL]
  | .tup xs, .int _, k, l, h, g => by simp only [LV.key, Option.map_eq_some_iff] at h; obtain ⟨ks, h1, rfl⟩ := h; cases g; simp [keqL]
  | .tup xs, .str _, k, l, h, g => by simp only [LV.key, Option.map_eq_some_iff] at h; obtain ⟨ks, h1, rfl⟩ := h; cases g; simp [keqL]
  | .tup xs, .ref _, k, l, h, g => by simp [LV.key] at g
  | .tup xs, .vl _, k, l, h, g => by simp [LV.key] at g
  | .tup xs, .fz _, k, l, h, g => by simp [LV.key] at g
  | .tup xs, .vd _ _, k, l, h, g => by simp [LV.key] at g
  | .tup xs, .sd _ _, k, l, h, g => by simp [LV.key] at g
  | .tup xs, .obj _ _, k, l, h, g => by simp [LV.key] at g
  | .ref _, _, k, l, h, g => by simp [LV.key] at h
  | .vl _, _, k, l, h, g => by simp [LV.key] at h
  | .fz _, _, k, l, h, g => by simp [LV.key] at h
  | .vd _ _, _, k, l, h, g => by simp [LV.key] at h
  | .sd _ _, _, k, l, h, g => by simp [LV.key] at h
  | .obj _ _, _, k, l, h, g => by simp [LV.key] at h
theorem keqs_of : ∀ (x y : List LV) (k l : List NestedKey), LV.keys x = some k → LV.keys y = some l → keqsL x y = decide (k = l)
  | [], [], k, l, h, g => by cases h; cases g; rfl
  | [], y :: ys, k, l, h, g => by
    cases h
    simp only [LV.keys] at g
    split at g
    · cases g; simp [keqsL]
    · cases g
  | x :: xs, [], k, l, h, g => by
    cases g
    simp only [LV.keys] at h
    split at h
    · cases h; simp [keqsL]
    · cases h
  | x :: xs, y :: ys, k, l, h, g => by
    simp only [LV.keys] at h g
    split at h
    · rename_i k1 ks1 h1 h2
      cases h
      split at g
      · rename_i l1 ls1 g1 g2
        cases g
        simp only [keqsL]
        rw [keq_of x y k1 l1 h1 g1, keqs_of xs ys ks1 ls1 h2 g2, Bool.eq_iff_iff]
        simp
      · cases g
    · cases h
end
/-- the place of a key, or the number of keys -/
def kix (x : LV) : List LV → Nat
  | [] => 0
  | y :: ys => if keqL x y = true then 0 else kix x ys + 1
theorem kix_of {x : LV} {k : NestedKey} (h : x.key = some k) : ∀ {ys : List LV} {ls : List NestedKey}, LV.keys ys = some ls → (kix x ys < ys.length → ls[kix x ys]? = some k) ∧ (¬ kix x ys < ys.length → k ∉ ls)
  | [], ls, g => by cases g; exact ⟨fun h => absurd h (Nat.not_lt_zero _), fun _ h => nomatch h⟩
  | y :: ys, ls, g => by
    simp only [LV.keys] at g
    split at g
    · rename_i l1 ls1 g1 g2
      cases g
      have e := keq_of x y k l1 h g1
      obtain ⟨i1, i2⟩ := kix_of h (ys := ys) g2
      simp only [kix]
      by_cases c : k = l1
      · subst c
        rw [e, decide_eq_true rfl, if_pos rfl]
        exact ⟨fun _ => rfl, fun q => absurd (Nat.succ_pos _) q⟩
      · rw [e, decide_eq_false c, if_neg (by decide)]
        refine ⟨fun q => i1 (by simpa using q), fun q => ?_⟩
        rw [List.mem_cons, not_or]
        exact ⟨c, i2 (fun z => q (by simpa using z))⟩
    · cases g
theorem keys_app : ∀ {xs : List LV} {ks : List NestedKey} {y : LV} {k : NestedKey}, LV.keys xs = some ks → y.key = some k → LV.keys (xs ++ [y]) = some (ks ++ [k])
  | [], ks, y, k, h, g => by cases h; simp [LV.keys, g]
  | x :: xs, ks, y, k, h, g => by
    simp only [LV.keys] at h
    split at h
    · rename_i k1 ks1 h1 h2
      cases h
      simp only [List.cons_append, LV.keys, h1, keys_app h2 g]
    · cases h
def LV.dct (h : List LO) : LV → Option (List LV × List LV)
  | .vd ks vs => some (ks, vs)
  | .ref n => match h[n]? with
    | some (.dic ks vs) => some (ks, vs)
    | _ => none
  | _ => none
section
variable {S : Sg} {F : Addr → Prop} {ι : List Addr} {H : Hp} {h : List LO}
theorem nk_pick {K : PySem.W.Frag} : ∀ {kas : List (NestedKey × Addr)} {k : NestedKey × Addr}, NkAll K H (kas.map fun k => V.ref k.2) (kas.map (·.1)) → k ∈ kas → Nk K H (.ref k.2) k.1
  | [], _, _, hk => nomatch hk
  | p :: kas, k, all, hk => by
    cases all with
    | cons h1 h2 =>
      rcases List.mem_cons.mp hk with e | e
      · rw [e]; exact h1
      · exact nk_pick h2 e
theorem dct_of (r : Rep S F ι h H) {v : LV} {x : V} {ks vs : List LV} (z : RV S F ι H v x) (e : v.dct h = some (ks, vs)) : ∃ d o kas xs, x = .ref d ∧ DN S.P S.w S.K H d o kas xs ∧ LV.keys ks = some (kas.map (·.1)) ∧ RVs S F ι H ks (kas.map fun k => V.ref k.2) ∧ RVs S F ι H vs xs := by
  have mk : ∀ {d o kas xs}, H d = some (.ext (dvF S.P S.w d o kas xs)) → (d == sysModules) = false → keysOk kas xs → LV.keys ks = some (kas.map (·.1)) → RVs S F ι H ks (kas.map fun k => V.ref k.2) → DN S.P S.w S.K H d o kas xs := fun {d o kas xs} a b c e g => by
    refine ⟨a, b, c, fun k hk => ?_⟩
    exact nk_pick (nks_of ks _ _ g e) hk
  cases z with
  | vd a n b c d g i => cases e; exact ⟨_, _, _, _, rfl, mk a b c d g, d, g, i⟩
  | @ref a n q =>
    simp only [LV.dct] at e
    split at e
    · rename_i ks' vs' hx
      cases e
      have gg := r.at hx q
      cases gg with
      | dic a b c d g i => exact ⟨_, _, _, _, rfl, mk a b c d g, d, g, i⟩
    · cases e
  | _ => cases e
end
def fInN (neg : Bool) (v w : LV) (h : List LO) : R LV := match w.dct h with
  | some (ks, _) => match v with
    | .tup xs => if kfit (.tup xs) 8 = true then .ok (.bl (if neg then !decide (kix (.tup xs) ks < ks.length) else decide (kix (.tup xs) ks < ks.length))) h else .bad
    | _ => .bad
  | none => .bad
def fIxN (v w : LV) (h : List LO) : R LV := match v.dct h with
  | some (ks, vs) => match w with
    | .tup xs => if kfit (.tup xs) 8 = true then (match vs[kix (.tup xs) ks]? with
      | some y => .ok y h
      | none => .bad) else .bad
    | _ => .bad
  | none => .bad
section
variable {S : Se} {E : XK}
theorem mem_kix {x : LV} {k : NestedKey} {ks : List LV} {ls : List NestedKey} (h : x.key = some k) (g : LV.keys ks = some ls) : decide (k ∈ ls) = decide (kix x ks < ks.length) := by
  obtain ⟨a, b⟩ := kix_of h g
  by_cases c : kix x ks < ks.length
  · rw [decide_eq_true c, decide_eq_true (List.mem_of_getElem? (a c))]
  · rw [decide_eq_false c, decide_eq_false (b c)]
theorem vo_inN {neg : Bool} : VO S E (rInN S.P S.w S.K neg) (fInN neg) := fun F ι h H x y v w Q rp zx zy o => by
  unfold fInN at o
  split at o
  · rename_i ks vs e
    obtain ⟨d, ob, kas, xs, rfl, D, hk, _, _⟩ := dct_of rp zy e
    split at o
    · rename_i ts
      split at o
      · rename_i hf
        obtain ⟨k, k1, k2⟩ := kfit_of _ _ hf
        have nk := nk_of _ _ _ zx k1
        cases zx with
        | @tup a _ _ a1 a2 =>
          refine ⟨d, a, ob, kas, xs, k, rfl, rfl, D, nk, k2, ?_⟩
          rw [mem_kix k1 hk]
          exact Ok.now (rel := RV S.toSg) o rp (.bl _)
      · exact o.elim
    · exact o.elim
  · exact o.elim
theorem vo_ixN : VO S E (rIxN S.P S.w S.K) fIxN := fun F ι h H x y v w Q rp zx zy o => by
  unfold fIxN at o
  split at o
  · rename_i ks vs e
    obtain ⟨d, ob, kas, xs, rfl, D, hk, hks, hvs⟩ := dct_of rp zx e
    split at o
    · rename_i ts
      split at o
      · rename_i hf
        obtain ⟨k, k1, k2⟩ := kfit_of _ _ hf
        have nk := nk_of _ _ _ zy k1
        split at o
        · rename_i yv hy
          obtain ⟨xv, e1, e2⟩ := hvs.at hy
          have lt : kix (.tup ts) ks < ks.length := by
            have h1 := (List.getElem?_eq_some_iff.mp e1).1
            have h2 := D.ok.2.1
            have h3 := hks.length
            rw [List.length_map] at h3
            omega
          cases zy with
          | @tup a _ _ a1 a2 => exact ⟨d, a, ob, kas, xs, k, _, xv, rfl, rfl, D, nk, k2, (kix_of k1 hk).1 lt, e1, Ok.now (rel := RV S.toSg) o rp e2⟩
        · exact o.elim
      · exact o.elim
    · exact o.elim
  · exact o.elim
theorem VO.orH {r r' : R2} {f1 f2 : LV → LV → List LO → R LV} (d : LV → LV → List LO → Bool) (h1 : VO S E r f1) (h2 : VO S E r' f2) : VO S E (fun x y H Q => r x y H Q ∨ r' x y H Q) (fun v w h => if d v w h = true then f1 v w h else f2 v w h) := fun F ι h H x y v w Q rp zx zy o => by
  dsimp only at o ⊢
  by_cases e : d v w h = true
  · rw [if_pos e] at o; exact .inl (h1 F ι h H x y v w Q rp zx zy o)
  · rw [if_neg e] at o; exact .inr (h2 F ι h H x y v w Q rp zx zy o)
end
end Rm
namespace Rm
open PySem PySem.Spec PyProof.Rows L2 RZ PpSet
/-! ### in, x[i], list(x), for: whatever x is -/
def isDct (v : LV) (h : List LO) : Bool := (v.dct h).isSome
def rInX (P : Program) (w : World) (K : PySem.W.Frag) : R2 := fun x y H Q => rInN P w K false x y H Q ∨ rInAll K x y H Q
def rNiX (P : Program) (w : World) (K : PySem.W.Frag) : R2 := fun x y H Q => rInN P w K true x y H Q ∨ rNiAll K x y H Q
def fInX (neg : Bool) : LV → LV → List LO → R LV := fun v w h => if isDct w h = true then fInN neg v w h else fIn neg v w h
def rIxX (P : Program) (w : World) (K : PySem.W.Frag) : R2 := fun x y H Q => rIxN P w K x y H Q ∨ rIx K x y H Q
def fIxX : LV → LV → List LO → R LV := fun v w h => if isDct v h = true then fIxN v w h else fIx v w h
def rListX (P : Program) (w : World) (K : PySem.W.Frag) : List V → Hp → VK → Prop := fun xs H Q => rListN P w K xs H Q ∨ rListOf K xs H Q
def fListX (vs : List LV) (h : List LO) : R LV := match vs with
  | [v] => match v.dct h with
    | some (ks, _) => .ok (.vl ks) h
    | none => fList [v] h
  | _ => .bad
section
variable {X : Cx}
theorem op_inX (hu : X.A.units + 9 < cLine) : OpR X (compareOp .In) (rInX X.prog X.w X.K) := (op_inN hu).or op_inAll
theorem op_niX (hu : X.A.units + 9 < cLine) : OpR X (compareOp .NotIn) (rNiX X.prog X.w X.K) := (op_niN hu).or op_niAll
theorem ix_X (hu : X.A.units + 9 < cLine) : IxR X (rIxX X.prog X.w X.K) := (ix_N hu).or ix_seq
theorem call_listX (hc : X.calm = true) : CallR X (.type "list") (rListX X.prog X.w X.K) := (call_list_N hc).or call_listOf
end
section
variable {S : Se} {E : XK} {ta tb tk tv te : TE} {ma mb mk mv me : ME} {tt : TT} {mt : MT} {g : TG} {mg : MG} {wi : TI} {mi : MI}
theorem vo_inX : VO S E (rInX S.P S.w S.K) (fInX false) := VO.orH (fun _ w h => isDct w h) vo_inN vo_in
theorem vo_niX : VO S E (rNiX S.P S.w S.K) (fInX true) := VO.orH (fun _ w h => isDct w h) vo_inN vo_ni
theorem vo_ixX : VO S E (rIxX S.P S.w S.K) fIxX := VO.orH (fun v _ h => isDct v h) vo_ixN vo_ix
theorem vc_listX : VC S E (rListX S.P S.w S.K) fListX := fun F ι h H xs vs Q rp z o => by
  unfold fListX at o
  split at o
  · split at o
    · rename_i v ks vs e
      cases z with
      | cons a b =>
        cases b
        obtain ⟨d, ob, kas, xs, rfl, D, hk, hks, hvs⟩ := dct_of rp a e
        exact .inl ⟨d, ob, kas, xs, rfl, D, fun p hp => ok_vl rp hks o hp⟩
    · exact .inr (vc_list F ι h H xs _ Q rp z o)
  · exact o.elim
/-! ### o[i] = v -/
def VSt (S : Se) (E : XK) (t : TSet) (f : LV → LV → LV → List LO → R Unit) : Prop := ∀ F ι h H (y i x : V) (o' iv v : LV) (Q : Hp → Prop), Rep S.toSg F ι h H → RV S.toSg F ι H o' y → RV S.toSg F ι H iv i → RV S.toSg F ι H v x → Ok (fun _ _ _ (_ _ : Unit) => True) S E F ι H (f o' iv v h) (fun _ H' => Q H') → t y i x H Q
def mGSub (f : LV → LV → LV → List LO → R Unit) (mo mi : ME) : MG := fun v ρ h => (mo ρ h).bind fun o h1 => (mi ρ h1).bind fun i h2 => (f o i v h2).bind fun _ h3 => .ok ρ h3
theorem sg_sub {t : TSet} {f : LV → LV → LV → List LO → R Unit} (hs : VSt S E t f) (ha : SE S E ta ma) (hb : SE S E tb mb) : SG S E (gSub ta tb t) (mGSub f ma mb) := fun F ι h H ρ σ v x Q rp rs z o =>
  ha F ι h H ρ σ _ rp rs (o.seq fun F1 ι1 H1 h1 w y _ e1 rp1 zy o1 => hb F1 ι1 h1 H1 ρ σ _ rp1 (rs.ext rp e1) (o1.seq fun F2 ι2 H2 h2 u i _ e2 rp2 zi o2 =>
    hs F2 ι2 h2 H2 y i x w u v _ rp2 (zy.ext rp1 e2) zi ((z.ext rp e1).ext rp1 e2) (o2.seq fun F3 ι3 H3 h3 _ _ _ e3 rp3 _ o3 => Ok.now (rel := RS S) o3 rp3 (((rs.ext rp e1).ext rp1 e2).ext rp2 e3))))
def fSetX (o i v : LV) (h : List LO) : R Unit := match o with
  | .ref n => match h[n]? with
    | some (.lst xs) => match i with
      | .int k => match ixN xs.length k with
        | some j => .ok () (h.set n (.lst (xs.set j v)))
        | none => .bad
      | _ => .bad
    | some (.dic ks vs) => match i with
      | .tup ts => if kfit (.tup ts) 8 = true ∧ ks.length < 60000 then (if kix (.tup ts) ks < ks.length then .ok () (h.set n (.dic ks (vs.set (kix (.tup ts) ks) v))) else .ok () (h.set n (.dic (ks ++ [.tup ts]) (vs ++ [v])))) else .bad
      | _ => .bad
    | _ => .bad
  | _ => .bad
def rSetX (P : Program) (w : World) (K : PySem.W.Frag) : TSet := fun y i v H Q => rSetL y i v H Q ∨ rSetN P w K y i v H Q
theorem set_X {X : Cx} (hu : X.A.units + 9 < cLine) : PSet X (rSetX X.prog X.w X.K) := by
  rintro pins s σ H y i v ov iv u Q I ry ri rv (h | h)
  · exact set_list pins s σ H y i v ov iv u Q I ry ri rv h
  · exact set_N hu pins s σ H y i v ov iv u Q I ry ri rv h
theorem keysOk_app {kas : List (NestedKey × Addr)} {xs : List V} {k : NestedKey} {q : Addr} {v : V} (K : keysOk kas xs) (h : k ∉ kas.map (·.1)) (hd : k.depth ≤ 8) (hl : kas.length < 60000) : keysOk (kas ++ [(k, q)]) (xs ++ [v]) := by
  refine ⟨?_, by rw [List.length_append, List.length_append, K.2.1]; rfl, by rw [List.length_append]; simp; omega, fun p hp => ?_⟩
  · rw [List.map_append, List.nodup_append]
    refine ⟨K.1, by simp, fun a ha b hb => ?_⟩
    have e : b = k := by simpa using hb
    rw [e]
    rintro rfl
    exact h ha
  · rcases List.mem_append.mp hp with z | z
    · exact K.2.2.2 p z
    · rw [List.mem_singleton.mp z]; exact hd
theorem vst_X : VSt S E (rSetX S.P S.w S.K) fSetX := fun F ι h H y i x o' iv v Q rp zo zi zv o => by
  unfold fSetX at o
  split at o
  · rename_i n
    cases zo with
    | @ref a _ q =>
      split at o
      · rename_i xs hx
        split at o
        · cases zi
          split at o
          · rename_i j hj
            have gg := rp.at hx q
            cases gg with
            | @lst _ _ vs2 g1 g2 =>
              have fw := (EX.write (S := S) (o := .lst (vs2.set j x)) rp (List.mem_of_getElem? q)).fwd rp
              exact .inl ⟨a, _, _, j, rfl, rfl, g1, by rw [← g2.length]; exact hj, Ok.now (rel := fun _ _ _ (_ _ : Unit) => True) (x := ()) (o.shift (EX.write rp (List.mem_of_getElem? q))) (rp.write q (.lst upd_same (RVs.set (zv.fwd fw _ _) j (g2.fwd fw _ _)))) trivial⟩
          · exact o.elim
        · exact o.elim
      · rename_i ks vs hx
        split at o
        · rename_i ts
          split at o
          · rename_i hf
            have gg := rp.at hx q
            obtain ⟨k, k1, k2⟩ := kfit_of _ _ hf.1
            have nk := nk_of _ _ _ zi k1
            obtain ⟨d, ob, kas, xs, e0, D, hk, hks, hvs⟩ := dct_of rp (.ref q) (show LV.dct h (.ref n) = some (ks, vs) by simp only [LV.dct, hx])
            cases e0
            have hlen : ks.length = kas.length := by have := hks.length; rw [List.length_map] at this; exact this
            cases zi with
            | @tup b _ _ t1 t2 =>
              refine .inr ⟨a, b, ob, kas, xs, k, rfl, rfl, D, nk, k2, by omega, ?_⟩
              split at o
              · rename_i lt
                refine .inr ⟨kix (.tup ts) ks, (kix_of k1 hk).1 lt, fun o2 => ?_⟩
                have ex := EX.write (S := S) (o := .ext (dvF S.P S.w a o2 kas (xs.set (kix (.tup ts) ks) x))) rp (List.mem_of_getElem? q)
                have fw := ex.fwd rp
                refine Ok.now (rel := fun _ _ _ (_ _ : Unit) => True) (x := ()) (o.shift ex) (rp.write q (.dic upd_same D.low ?_ hk (hks.fwd fw _ _) (RVs.set (zv.fwd fw _ _) _ (hvs.fwd fw _ _)))) trivial
                exact ⟨D.ok.1, by rw [List.length_set]; exact D.ok.2.1, D.ok.2.2⟩
              · rename_i lt
                have nin := (kix_of k1 hk).2 lt
                refine .inl ⟨nin, fun o2 => ?_⟩
                have ex := EX.write (S := S) (o := .ext (dvF S.P S.w a o2 (kas ++ [(k, b)]) (xs ++ [x]))) rp (List.mem_of_getElem? q)
                have fw := ex.fwd rp
                refine Ok.now (rel := fun _ _ _ (_ _ : Unit) => True) (x := ()) (o.shift ex) (rp.write q (.dic upd_same D.low (keysOk_app D.ok nin k2 (by omega)) ?_ ?_ ((hvs.fwd fw _ _).append (.cons (zv.fwd fw _ _) .nil)))) trivial
                · rw [List.map_append]
                  exact keys_app hk k1
                · rw [List.map_append]
                  exact (hks.fwd fw _ _).append (.cons (.tup (fw.tup _ _ t1) (t2.fwd fw _ _)) .nil)
          · exact o.elim
        · exact o.elim
      · exact o.elim
  · exact o.elim
/-! ### {}, {k: v} -/
def mNewM : ME := fun _ h => .ok (.ref h.length) (h ++ [.dic [] []])
def mNewV : ME := fun _ h => .ok (.vd [] []) h
def mDispM (mk mv : ME) : ME := fun ρ h => (mk ρ h).safe.bind fun k h1 => (mv ρ h1).safe.bind fun v h2 => match k with
  | .tup ts => if kfit (.tup ts) 8 = true then .ok (.ref h2.length) (h2 ++ [.dic [.tup ts] [v]]) else .bad
  | _ => .bad
def mDispV (mk mv : ME) : ME := fun ρ h => (mk ρ h).safe.bind fun k h1 => (mv ρ h1).safe.bind fun v h2 => match k with
  | .tup ts => if kfit (.tup ts) 8 = true then .ok (.vd [.tup ts] [v]) h2 else .bad
  | _ => .bad
theorem keysOk_nil : keysOk [] [] := ⟨.nil, rfl, Nat.zero_le _, fun _ m => nomatch m⟩
theorem se_newV : SE S E (tNewN S.P S.w) mNewV := fun F ι h H ρ σ Q rp rs o p ob hp low =>
  o F ι _ _ (EX.new hp) (rp.new hp) (.vd upd_same (nF_of_none rp hp) low keysOk_nil rfl .nil .nil)
theorem se_newM : SE S E (tNewN S.P S.w) mNewM := fun F ι h H ρ σ Q rp rs o p ob hp low =>
  o _ _ _ _ (EX.newM hp) (rp.newM hp (.dic upd_same low keysOk_nil rfl .nil .nil)) (.ref (by rw [← rp.len, List.getElem?_append_right (Nat.le_refl _)]; simp))
/-- the new dict stands apart while its pair is reckoned -/
theorem apart {F : Addr → Prop} {ι : List Addr} {H : Hp} {h : List LO} {p : Addr} {u : HO} (rp : Rep S.toSg F ι h H) (hp : H p = none) :
    EX S.toSg F ι H (fun a => F a ∨ a = p) ι (upd H p u) ∧ Rep S.toSg (fun a => F a ∨ a = p) ι h (upd H p u) := by
  have e := EX.new (S := S) (F := F) (ι := ι) (o := u) hp
  have ex : EX S.toSg F ι H (fun a => F a ∨ a = p) ι (upd H p u) := ⟨e.tup, e.keep, e.grow, fun a z => .inl z, fun a z n => z.elim (fun q => absurd q n) fun q => by rw [q]; exact hp, e.dom⟩
  refine ⟨ex, ⟨rp.len, rp.nd, fun a m => .inl (rp.inF a m), fun a z q => ?_, fun i o a q1 q2 => (rp.obj i o a q1 q2).fwd (ex.fwd rp) fun v q => by rw [upd_ne (ne_of_none q hp)]; exact q⟩⟩
  by_cases c : a = p
  · subst c; rw [upd_same] at q; cases q
  · rw [upd_ne c] at q
    exact z.elim (fun z => rp.dom a z q) c
/-- a dict apart that is written, then joins the values -/
theorem join {F1 F2 : Addr → Prop} {ι1 ι2 : List Addr} {H1 H2 : Hp} {h2 : List LO} {p : Addr} {u v : HO} (hp : H1 p = none) (ex : EX S.toSg F1 ι1 H1 F2 ι2 H2) (r : Rep S.toSg F2 ι2 h2 H2) (r1 : ∀ a, F1 a → H1 a ≠ none) (Fp : F2 p) (np : p ∉ ι2) (hu : H2 p = some u) (nt : ∀ xs, u ≠ .tup xs) (nz : ∀ o w, u ≠ .frz o w) :
    EX S.toSg F1 ι1 H1 (fun a => F2 a ∧ a ≠ p) ι2 (upd H2 p v) ∧ Rep S.toSg (fun a => F2 a ∧ a ≠ p) ι2 h2 (upd H2 p v) ∧ Fwd S.toSg F2 ι2 H2 (fun a => F2 a ∧ a ≠ p) ι2 (upd H2 p v) := by
  have keepT : ∀ a xs, SqT S.K H2 a xs → SqT S.K (upd H2 p v) a xs := fun a xs q => by
    rcases q with (z | ⟨w, z⟩) | z
    · exact .inl (.inl (by rw [upd_ne (fun c => by subst c; rw [hu] at z; exact nt _ (Option.some.inj z))]; exact z))
    · exact .inl (.inr ⟨w, by rw [upd_ne (fun c => by subst c; rw [hu] at z; exact nz _ _ (Option.some.inj z))]; exact z⟩)
    · exact .inr z
  have fw : Fwd S.toSg F2 ι2 H2 (fun a => F2 a ∧ a ≠ p) ι2 (upd H2 p v) := by
    refine ⟨keepT, fun a o n q => by rw [upd_ne (fun c => n (by rw [c]; exact Fp))]; exact q, fun a o us q => by rw [upd_ne (fun c => by subst c; rw [hu] at q; exact nz _ _ (Option.some.inj q))]; exact q, fun _ _ n _ z => n z.1, fun _ _ q => q⟩
  refine ⟨⟨fun a xs q => keepT a xs (ex.tup a xs q), fun a o n q => by rw [upd_ne (ne_of_none q hp)]; exact ex.keep a o n q, ex.grow, fun a z => ⟨ex.more a z, fun c => r1 a z (by rw [c]; exact hp)⟩, fun a z n => ex.fresh a z.1 n, fun a q => ?_⟩, ⟨r.len, r.nd, fun a m => ⟨r.inF a m, fun c => np (by rw [← c]; exact m)⟩, fun a z q => ?_, fun i o a q1 q2 => (r.obj i o a q1 q2).fwd fw fun w q => ?_⟩, fw⟩
  · by_cases c : a = p
    · subst c; exact hp
    · rw [upd_ne c] at q; exact ex.dom a q
  · rw [upd_ne z.2] at q; exact r.dom a z.1 q
  · rw [upd_ne (fun c => np (by rw [← c]; exact List.mem_of_getElem? q2))]; exact q
theorem stays {F1 F2 : Addr → Prop} {ι1 ι2 : List Addr} {H1 H2 : Hp} {p : Addr} {u : HO} (ex : EX S.toSg F1 ι1 H1 F2 ι2 H2) (np : p ∉ ι1) (hu : H1 p = some u) : H2 p = some u ∧ p ∉ ι2 := by
  refine ⟨ex.keep p u np hu, fun m => ?_⟩
  obtain ⟨more, rfl, n⟩ := ex.grow
  rcases List.mem_append.mp m with m | m
  · exact np m
  · have := n p m
    rw [hu] at this
    cases this
theorem se_dispV (hk : SE S E0 tk mk) (hv : SE S E0 tv mv) : SE S E (tDispN S.P S.w S.K tk tv) (mDispV mk mv) := fun F ι h H ρ σ Q rp rs o p ob hp low => by
  obtain ⟨ex0, rp0⟩ := apart (S := S) (u := .ext (dvF S.P S.w p ob [] [])) rp hp
  have np : p ∉ ι := fun m => rp.dom p (rp.inF p m) hp
  refine hk _ ι h _ ρ σ _ rp0 (rs.ext rp ex0) (Ok.seqB (rel := RV S.toSg) o fun F1 ι1 H1 h1 k kx _ e1 rp1 zk o1 => ?_)
  refine hv F1 ι1 h1 H1 ρ σ _ rp1 ((rs.ext rp ex0).ext rp0 e1) (Ok.seqB (rel := RV S.toSg) o1 fun F2 ι2 H2 h2 v vx _ e2 rp2 zv o2 => ?_)
  have ex02 := ex0.trans (e1.trans e2)
  obtain ⟨s1, s2⟩ := stays (e1.trans e2) np (by rw [upd_same])
  split at o2
  · rename_i ts
    split at o2
    · rename_i hf
      obtain ⟨kk, k1, k2⟩ := kfit_of _ _ hf
      have zk2 := zk.ext rp1 e2
      have nk := nk_of _ _ _ zk2 k1
      cases zk2 with
      | @tup b _ _ t1 t2 =>
        refine ⟨b, kk, vx, rfl, s1, nk, k2, fun o' => ?_⟩
        obtain ⟨j1, j2, j3⟩ := join (S := S) (v := .ext (dvF S.P S.w p o' [(kk, b)] [vx])) hp ex02 rp2 rp.dom (e2.more _ (e1.more _ (.inr rfl))) s2 s1 (fun _ z => nomatch z) (fun _ _ z => nomatch z)
        refine o2 _ _ _ _ j1 j2 (.vd upd_same (fun z => z.2 rfl) low (keysOk_app (k := kk) (q := b) (v := vx) keysOk_nil (fun m => nomatch m) k2 (by decide)) (by simp [LV.keys, k1]) (.cons (.tup (j3.tup _ _ t1) (t2.fwd j3 _ _)) .nil) (.cons (zv.fwd j3 _ _) .nil))
    · exact o2.elim
  · exact o2.elim
theorem joinM {F1 F2 : Addr → Prop} {ι1 ι2 : List Addr} {H1 H2 : Hp} {h2 : List LO} {p : Addr} {u v : HO} {q : LO} (hp : H1 p = none) (ex : EX S.toSg F1 ι1 H1 F2 ι2 H2) (r : Rep S.toSg F2 ι2 h2 H2) (Fp : F2 p) (np : p ∉ ι2) (hu : H2 p = some u) (nt : ∀ xs, u ≠ .tup xs) (nz : ∀ o w, u ≠ .frz o w) :
    Fwd S.toSg F2 ι2 H2 F2 (ι2 ++ [p]) (upd H2 p v) ∧ EX S.toSg F1 ι1 H1 F2 (ι2 ++ [p]) (upd H2 p v) ∧ (RO S.toSg F2 (ι2 ++ [p]) (upd H2 p v) q p → Rep S.toSg F2 (ι2 ++ [p]) (h2 ++ [q]) (upd H2 p v)) := by
  have keepT : ∀ a xs, SqT S.K H2 a xs → SqT S.K (upd H2 p v) a xs := fun a xs q => by
    rcases q with (z | ⟨w, z⟩) | z
    · exact .inl (.inl (by rw [upd_ne (fun c => by subst c; rw [hu] at z; exact nt _ (Option.some.inj z))]; exact z))
    · exact .inl (.inr ⟨w, by rw [upd_ne (fun c => by subst c; rw [hu] at z; exact nz _ _ (Option.some.inj z))]; exact z⟩)
    · exact .inr z
  have fw : Fwd S.toSg F2 ι2 H2 F2 (ι2 ++ [p]) (upd H2 p v) :=
    ⟨keepT, fun a o n q => by rw [upd_ne (fun c => n (by rw [c]; exact Fp))]; exact q, fun a o us q => by rw [upd_ne (fun c => by subst c; rw [hu] at q; exact nz _ _ (Option.some.inj q))]; exact q, fun _ _ n _ z => n z, fun n a q => by rw [List.getElem?_append_left (List.getElem?_eq_some_iff.mp q).1]; exact q⟩
  refine ⟨fw, ⟨fun a xs q => keepT a xs (ex.tup a xs q), fun a o n q => by rw [upd_ne (ne_of_none q hp)]; exact ex.keep a o n q, ?_, ex.more, ex.fresh, fun a q => ?_⟩, fun z => ⟨by rw [List.length_append, List.length_append, r.len]; rfl, ?_, fun a m => ?_, fun a z q => ?_, fun i o a q1 q2 => ?_⟩⟩
  · obtain ⟨more, rfl, n⟩ := ex.grow
    refine ⟨more ++ [p], by rw [List.append_assoc], fun a m => ?_⟩
    rcases List.mem_append.mp m with m | m
    · exact n a m
    · rw [List.mem_singleton.mp m]; exact hp
  · by_cases c : a = p
    · subst c; exact hp
    · rw [upd_ne c] at q; exact ex.dom a q
  · rw [List.nodup_append]
    refine ⟨r.nd, by simp, fun a ha b hb => ?_⟩
    rw [List.mem_singleton.mp hb]
    rintro rfl
    exact np ha
  · rcases List.mem_append.mp m with m | m
    · exact r.inF a m
    · rw [List.mem_singleton.mp m]; exact Fp
  · by_cases c : a = p
    · subst c; rw [upd_same] at q; cases q
    · rw [upd_ne c] at q; exact r.dom a z q
  · by_cases hi : i < h2.length
    · rw [List.getElem?_append_left hi] at q1
      rw [List.getElem?_append_left (by rw [r.len]; exact hi)] at q2
      exact (r.obj i o a q1 q2).fwd fw fun w q => by rw [upd_ne (fun c => np (by rw [← c]; exact List.mem_of_getElem? q2))]; exact q
    · have e : i = h2.length := by
        have := (List.getElem?_eq_some_iff.mp q1).1
        rw [List.length_append] at this
        simp at this
        omega
      subst e
      rw [List.getElem?_append_right (Nat.le_refl _)] at q1
      rw [← r.len, List.getElem?_append_right (Nat.le_refl _)] at q2
      simp at q1 q2
      subst q1 q2
      exact z
theorem se_dispM (hk : SE S E0 tk mk) (hv : SE S E0 tv mv) : SE S E (tDispN S.P S.w S.K tk tv) (mDispM mk mv) := fun F ι h H ρ σ Q rp rs o p ob hp low => by
  obtain ⟨ex0, rp0⟩ := apart (S := S) (u := .ext (dvF S.P S.w p ob [] [])) rp hp
  have np : p ∉ ι := fun m => rp.dom p (rp.inF p m) hp
  refine hk _ ι h _ ρ σ _ rp0 (rs.ext rp ex0) (Ok.seqB (rel := RV S.toSg) o fun F1 ι1 H1 h1 k kx _ e1 rp1 zk o1 => ?_)
  refine hv F1 ι1 h1 H1 ρ σ _ rp1 ((rs.ext rp ex0).ext rp0 e1) (Ok.seqB (rel := RV S.toSg) o1 fun F2 ι2 H2 h2 v vx _ e2 rp2 zv o2 => ?_)
  have ex02 := ex0.trans (e1.trans e2)
  obtain ⟨s1, s2⟩ := stays (e1.trans e2) np (by rw [upd_same])
  split at o2
  · rename_i ts hmk
    split at o2
    · rename_i hf
      obtain ⟨kk, k1, k2⟩ := kfit_of _ _ hf
      have zk2 := zk.ext rp1 e2
      have nk := nk_of _ _ _ zk2 k1
      cases zk2 with
      | @tup b _ _ t1 t2 =>
        refine ⟨b, kk, vx, rfl, s1, nk, k2, fun o' => ?_⟩
        obtain ⟨j3, j1, j2⟩ := joinM (S := S) (v := .ext (dvF S.P S.w p o' [(kk, b)] [vx])) (q := .dic [.tup ts] [v]) hp ex02 rp2 (e2.more _ (e1.more _ (.inr rfl))) s2 s1 (fun _ z => nomatch z) (fun _ _ z => nomatch z)
        refine o2 _ _ _ _ j1 (j2 (.dic upd_same low (keysOk_app (k := kk) (q := b) (v := vx) keysOk_nil (fun m => nomatch m) k2 (by decide)) (by simp [LV.keys, k1]) (.cons (.tup (j3.tup _ _ t1) (t2.fwd j3 _ _)) .nil) (.cons (zv.fwd j3 _ _) .nil))) (.ref ?_)
        rw [← rp2.len, List.getElem?_append_right (Nat.le_refl _)]
        simp
    · exact o2.elim
  · exact o2.elim
/-! ### for k in d -/
def mKeysI (ma : ME) : MI := fun ρ h => (ma ρ h).bind fun v h1 => match v with
  | .vd ks _ => .ok (.vals ks) h1
  | _ => .bad
theorem si_keysN (ha : SE S E ta ma) : SI S E (iKeysN S.P S.w ta) (mKeysI ma) := fun F ι h H ρ σ Q rp rs o =>
  ha F ι h H ρ σ _ rp rs (o.seq fun F1 ι1 H1 h1 v x _ e1 rp1 z o1 => by
    cases z with
    | @vd a ks vs ob kas xs hH nF low ok hk hks hvs =>
      refine ⟨a, ob, kas, xs, rfl, low, hH, ok.2.1, Ok.now (rel := WalkAt S) o1 rp1 fun F' ι' h' H' i e r => ?_⟩
      have hH' : H' a = some (.ext (dvF S.P S.w a ob kas xs)) := e.keep a _ (fun z => nF (rp1.inF a z)) hH
      have hks' := hks.ext rp1 e
      have hl := hks.length
      rw [List.length_map] at hl
      show match some ks[i]? with | some (some v) => _ | some none => _ | none => _
      cases hx : ks[i]? with
      | none => exact ⟨⟨xs, hH', ok.2.1⟩, by rw [← hl]; exact List.getElem?_eq_none_iff.mp hx⟩
      | some k =>
        obtain ⟨kv, g1, g2⟩ := hks'.at hx
        refine ⟨⟨⟨xs, hH', ok.2.1⟩, by rw [← hl]; exact (List.getElem?_eq_some_iff.mp hx).1⟩, fun y H'' hy => ?_⟩
        obtain ⟨rfl, q, q1, rfl⟩ := hy
        rw [List.getElem?_map, q1] at g1
        cases g1
        exact ⟨.refl, r, g2⟩
    | _ => exact o1.elim)
/-- any source -/
def iAny (P : Program) (w : World) (K : PySem.W.Frag) (te : TE) : TI := fun σ H R => iKeysN P w te σ H R ∨ iSeq K te σ H R
theorem pi_any {X : Cx} {tg e : Expr} {te : TE} (he : PE X e te) : PI X tg e (iAny X.prog X.w X.K te) := PI.or (pi_keysN he) (pi_seq he)
def mAnyI (ma : ME) : MI := fun ρ h => (ma ρ h).bind fun v h1 => match v with
  | .vd ks _ => .ok (.vals ks) h1
  | v => match itOf h1 v with
    | some it => .ok it h1
    | none => .bad
theorem si_any (ha : SE S E ta ma) : SI S E (iAny S.P S.w S.K ta) (mAnyI ma) := fun F ι h H ρ σ Q rp rs o => by
  cases hm : ma ρ h with
  | bad =>
    simp only [mAnyI, hm, R.bind] at o
    exact o.elim
  | er c h' =>
    refine .inr (si_seq ha F ι h H ρ σ Q rp rs ?_)
    simp only [mSeqI, mAnyI, hm, R.bind] at o ⊢
    exact o
  | ok v h1 =>
    by_cases d : ∃ ks vs, v = .vd ks vs
    · obtain ⟨ks, vs, rfl⟩ := d
      refine .inl (si_keysN ha F ι h H ρ σ Q rp rs ?_)
      simp only [mKeysI, mAnyI, hm, R.bind] at o ⊢
      exact o
    · refine .inr (si_seq ha F ι h H ρ σ Q rp rs ?_)
      simp only [mSeqI, mAnyI, hm, R.bind] at o ⊢
      split at o
      · exact absurd ⟨_, _, rfl⟩ d
      · exact o
end
end Rm
namespace Rm
open PySem PySem.Spec PyProof.Rows L2 RZ PpSet
/-! ### dicts by a comprehension -/
def dcM (it : Itr) (g : MG) (mt : MT) (mk mv : ME) (ρ : Rho) : Nat → Nat → List LO → List LV → List LV → R LV
  | 0, _, _, _, _ => .bad
  | n + 1, i, h, ks, vs => match it.at i h with
    | some (some x) => (g x ρ h).safe.bind fun ρ1 h1 => (mt ρ1 h1).safe.bind fun b h2 => if b = true then (mk ρ1 h2).safe.bind fun k h3 => (mv ρ1 h3).safe.bind fun v h4 => match k with
        | .tup ts => if kfit (.tup ts) 8 = true then (if kix (.tup ts) ks < ks.length then dcM it g mt mk mv ρ n (i + 1) h4 ks (vs.set (kix (.tup ts) ks) v) else dcM it g mt mk mv ρ n (i + 1) h4 (ks ++ [.tup ts]) (vs ++ [v])) else .bad
        | _ => .bad
      else dcM it g mt mk mv ρ n (i + 1) h2 ks vs
    | some none => .ok (.vd ks vs) h
    | none => .bad
def mDc (mi : MI) (g : MG) (mt : MT) (mk mv : ME) (vs : List Nat) : ME := fun ρ h => (mi ρ h).bind fun it h1 => dcM it g mt mk mv (wipeR ρ vs) 50000 0 h1 [] []
section
variable {S : Se} {E : XK} {tk tv : TE} {mk mv : ME} {tt : TT} {mt : MT} {g : TG} {mg : MG} {wi : TI} {mi : MI}
structure Dc (S : Se) (F1 : Addr → Prop) (ι1 : List Addr) (H1 : Hp) (D : Addr) (F : Addr → Prop) (ι : List Addr) (h : List LO) (H : Hp) (ks vs : List LV) (i : Nat) : Prop where
  ex : EX S.toSg F1 ι1 H1 F ι H
  rp : Rep S.toSg F ι h H
  FD : F D
  nD : D ∉ ι
  at' : ∃ o kas xs, H D = some (.ext (dvF S.P S.w D o kas xs)) ∧ keysOk kas xs ∧ LV.keys ks = some (kas.map (·.1)) ∧ RVs S.toSg F ι H ks (kas.map fun k => V.ref k.2) ∧ RVs S.toSg F ι H vs xs
  le : ks.length ≤ i
theorem Dc.step {F1 F F2 : Addr → Prop} {ι1 ι ι2 : List Addr} {H1 H H2 : Hp} {D : Addr} {h h2 : List LO} {ks vs : List LV} {i : Nat} (L : Dc S F1 ι1 H1 D F ι h H ks vs i) (e : EX S.toSg F ι H F2 ι2 H2) (r : Rep S.toSg F2 ι2 h2 H2) : Dc S F1 ι1 H1 D F2 ι2 h2 H2 ks vs i := by
  obtain ⟨o, kas, xs, q, c, d, z1, z2⟩ := L.at'
  obtain ⟨s1, s2⟩ := stays e L.nD q
  exact ⟨L.ex.trans e, r, e.more _ L.FD, s2, ⟨o, kas, xs, s1, c, d, z1.ext L.rp e, z2.ext L.rp e⟩, L.le⟩
/-- another dict at D -/
theorem Dc.put {F1 F : Addr → Prop} {ι1 ι : List Addr} {H1 H : Hp} {D : Addr} {h : List LO} {ks vs ks' vs' : List LV} {i j : Nat} {o' : Obj} {kas' : List (NestedKey × Addr)} {xs' : List V} (L : Dc S F1 ι1 H1 D F ι h H ks vs i) (hD : H1 D = none) (c : keysOk kas' xs') (d : LV.keys ks' = some (kas'.map (·.1)))
    (z1 : RVs S.toSg F ι H ks' (kas'.map fun k => V.ref k.2)) (z2 : RVs S.toSg F ι H vs' xs') (le : ks'.length ≤ j) : Dc S F1 ι1 H1 D F ι h (upd H D (.ext (dvF S.P S.w D o' kas' xs'))) ks' vs' j := by
  obtain ⟨o, kas, xs, q, _, _, _, _⟩ := L.at'
  have keepT : ∀ a us, SqT S.K H a us → SqT S.K (upd H D (.ext (dvF S.P S.w D o' kas' xs'))) a us := fun a us z => by
    rcases z with (z | ⟨w, z⟩) | z
    · exact .inl (.inl (by rw [upd_ne (fun c => by subst c; rw [q] at z; cases z)]; exact z))
    · exact .inl (.inr ⟨w, by rw [upd_ne (fun c => by subst c; rw [q] at z; cases z)]; exact z⟩)
    · exact .inr z
  have fw : Fwd S.toSg F ι H F ι (upd H D (.ext (dvF S.P S.w D o' kas' xs'))) := ⟨keepT, fun a o n z => by rw [upd_ne (fun c => n (by rw [c]; exact L.FD))]; exact z, fun a o us z => by rw [upd_ne (fun c => by subst c; rw [q] at z; cases z)]; exact z, fun _ _ n _ => n, fun _ _ z => z⟩
  refine ⟨⟨fun a us z => keepT a us (L.ex.tup a us z), fun a o n z => by rw [upd_ne (ne_of_none z hD)]; exact L.ex.keep a o n z, L.ex.grow, L.ex.more, L.ex.fresh, fun a z => ?_⟩, ⟨L.rp.len, L.rp.nd, L.rp.inF, fun a z e => ?_, fun i o a q1 q2 => (L.rp.obj i o a q1 q2).fwd fw fun u e => ?_⟩, L.FD, L.nD, ⟨o', kas', xs', upd_same, c, d, z1.fwd fw _ _, z2.fwd fw _ _⟩, le⟩
  · by_cases e : a = D
    · subst e; exact hD
    · rw [upd_ne e] at z; exact L.ex.dom a z
  · by_cases c : a = D
    · subst c; rw [upd_same] at e; cases e
    · rw [upd_ne c] at e; exact L.rp.dom a z e
  · rw [upd_ne (fun c => L.nD (by rw [← c]; exact List.mem_of_getElem? q2))]; exact e
theorem se_dc {vs : List Nat} (hi : SI S E wi mi) (hg : SG S E0 g mg) (gw : GW g vs) (ht : ST S E0 tt mt) (hk : SE S E0 tk mk) (hv : SE S E0 tv mv) : SE S E (tDcN S.P S.w S.K wi g tt tk tv vs) (mDc mi mg mt mk mv vs) := fun F ι h H ρ σ Q rp rs o => by
  refine hi F ι h H ρ σ _ rp rs (Ok.seq (rel := WalkAt S) o fun F1 ι1 H1 h1 it J _ e1 rp1 wk o1 => ?_)
  have rs1 := (rs.ext rp e1).wipe vs
  intro D ob hD low
  obtain ⟨ex0, rp0⟩ := apart (S := S) (u := .ext (dvF S.P S.w D ob [] [])) rp1 hD
  refine ⟨fun i k H => ∃ F ι h ks vals, Dc S F1 ι1 H1 D F ι h H ks vals i ∧ i + k = 50000 ∧ Ok (RV S.toSg) S E F1 ι1 H1 (dcM it mg mt mk mv (wipeR ρ vs) k i h ks vals) Q, ⟨50000, _, ι1, h1, [], [], ⟨ex0, rp0, .inr rfl, fun m => rp1.dom D (rp1.inF D m) hD, ⟨ob, [], [], upd_same, keysOk_nil, rfl, .nil, .nil⟩, Nat.le_refl _⟩, rfl, o1⟩, ?_⟩
  rintro i k H2 ⟨F2, ι2, h2, ks, vals, L, hkk, o2⟩
  cases k with
  | zero => exact o2.elim
  | succ k =>
    have w := wk F2 ι2 h2 H2 i L.ex L.rp
    simp only [dcM] at o2
    split at o2
    · rename_i x hx
      rw [hx] at w
      refine .inr ⟨w.1, fun H' => ∃ F ι h ks vals, Dc S F1 ι1 H1 D F ι h H' ks vals (i + 1) ∧ (i + 1) + k = 50000 ∧ Ok (RV S.toSg) S E F1 ι1 H1 (dcM it mg mt mk mv (wipeR ρ vs) k (i + 1) h ks vals) Q, fun H' w => ⟨k, Nat.lt_succ_self k, w⟩, fun y H' hy => ?_⟩
      obtain ⟨e3, rp3, z3⟩ := w.2 y H' hy
      have L3 := L.step e3 rp3
      have gg := gw y (wipe σ vs) H' (fun σ2 H2 => tt σ2 H2 fun b H3 => if b = true then tk σ2 H3 fun y H4 => tv σ2 H4 fun z H5 => rSetN S.P S.w S.K (.ref D) y z H5 (fun H' => ∃ F ι h ks vals, Dc S F1 ι1 H1 D F ι h H' ks vals (i + 1) ∧ (i + 1) + k = 50000 ∧ Ok (RV S.toSg) S E F1 ι1 H1 (dcM it mg mt mk mv (wipeR ρ vs) k (i + 1) h ks vals) Q)
        else (∃ F ι h ks vals, Dc S F1 ι1 H1 D F ι h H3 ks vals (i + 1) ∧ (i + 1) + k = 50000 ∧ Ok (RV S.toSg) S E F1 ι1 H1 (dcM it mg mt mk mv (wipeR ρ vs) k (i + 1) h ks vals) Q))
      rw [wipe_wipe] at gg
      refine gg ?_
      have rs3 := ((rs1.ext rp1 L.ex).ext L.rp e3)
      refine hg F2 ι2 h2 H' (wipeR ρ vs) (wipe σ vs) x y _ rp3 rs3 z3 (Ok.seqB (rel := RS S) o2 fun F4 ι4 H4 h4 ρ4 σ4 _ e4 rp4 rs4 o4 => ?_)
      have L4 := L3.step e4 rp4
      refine ht F4 ι4 h4 H4 ρ4 σ4 _ rp4 rs4 (Ok.seqB (rel := eqB) o4 fun F5 ι5 H5 h5 b b' _ e5 rp5 zb o5 => ?_)
      cases zb
      have L5 := L4.step e5 rp5
      have rs5 := rs4.ext rp4 e5
      cases b with
      | false => exact ⟨F5, ι5, h5, ks, vals, ⟨L5.ex, L5.rp, L5.FD, L5.nD, L5.at', Nat.le_succ_of_le L5.le⟩, by omega, o5⟩
      | true =>
        refine hk F5 ι5 h5 H5 ρ4 σ4 _ rp5 rs5 (Ok.seqB (rel := RV S.toSg) o5 fun F6 ι6 H6 h6 kl kv _ e6 rp6 zk o6 => ?_)
        have L6 := L5.step e6 rp6
        refine hv F6 ι6 h6 H6 ρ4 σ4 _ rp6 (rs5.ext rp5 e6) (Ok.seqB (rel := RV S.toSg) o6 fun F7 ι7 H7 h7 vl vv _ e7 rp7 zv o7 => ?_)
        have L7 := L6.step e7 rp7
        obtain ⟨o, kas, xs, q, c, d, z1, z2⟩ := L7.at'
        have hlen : ks.length = kas.length := by have := z1.length; rw [List.length_map] at this; exact this
        split at o7
        · rename_i ts hmk
          split at o7
          · rename_i hf
            obtain ⟨kk, k1, k2⟩ := kfit_of _ _ hf
            have zk2 := zk.ext rp6 e7
            have nk := nk_of _ _ _ zk2 k1
            have le := L7.le
            cases zk2 with
            | @tup b _ _ t1 t2 =>
              refine ⟨D, b, o, kas, xs, kk, rfl, rfl, ⟨q, low, c, fun p hp => nk_pick (nks_of ks _ _ z1 d) hp⟩, nk, k2, by omega, ?_⟩
              split at o7
              · rename_i lt
                exact .inr ⟨kix (.tup ts) ks, (kix_of k1 d).1 lt, fun o' => ⟨F7, ι7, h7, ks, _, L7.put hD ⟨c.1, by rw [List.length_set]; exact c.2.1, c.2.2⟩ d z1 (RVs.set zv _ z2) (Nat.le_succ_of_le le), by omega, o7⟩⟩
              · rename_i lt
                have nin := (kix_of k1 d).2 lt
                refine .inl ⟨nin, fun o' => ⟨F7, ι7, h7, _, _, L7.put hD (keysOk_app c nin k2 (by omega)) ?_ ?_ (z2.append (.cons zv .nil)) (by rw [List.length_append]; exact Nat.succ_le_succ le), by omega, o7⟩⟩
                · rw [List.map_append]
                  exact keys_app d k1
                · rw [List.map_append]
                  exact z1.append (.cons (.tup t1 t2) .nil)
          · exact o7.elim
        · exact o7.elim
    · rename_i hx
      rw [hx] at w
      refine .inl ⟨w, ?_⟩
      obtain ⟨o, kas, xs, q, c, d, z1, z2⟩ := L.at'
      have n1 : ∀ a, F1 a → a ≠ D := fun a z c => rp1.dom a z (by rw [c]; exact hD)
      have fw : Fwd S.toSg F2 ι2 H2 (fun a => F2 a ∧ a ≠ D) ι2 H2 := ⟨fun _ _ q => q, fun _ _ _ q => q, fun _ _ _ q => q, fun _ _ n _ z => n z.1, fun _ _ q => q⟩
      refine o2 (fun a => F2 a ∧ a ≠ D) ι2 H2 (.ref D) ⟨L.ex.tup, L.ex.keep, L.ex.grow, fun a z => ⟨L.ex.more a z, n1 a z⟩, fun a z n => L.ex.fresh a z.1 n, L.ex.dom⟩ ?_ (.vd q (fun z => z.2 rfl) low c d (z1.fwd fw _ _) (z2.fwd fw _ _))
      exact ⟨L.rp.len, L.rp.nd, fun a m => ⟨L.rp.inF a m, fun c => L.nD (by rw [← c]; exact m)⟩, fun a z => L.rp.dom a z.1, fun j o a q1 q2 => (L.rp.obj j o a q1 q2).fwd fw fun _ q => q⟩
    · exact o2.elim
end
end Rm
namespace Rm
open PySem PySem.Spec PyProof.Rows L2
section
variable {X : Cx} {pins : List (Addr × Obj)} {σ : L2.St} {H : Hp} {s : Shared}
/-- a local name is stored, and the very value is known behind it -/
theorem raw_store {M : Model} {A : Around} {E : Value → Shared → Prop} {i : Nat} {x : Str} {v : V} {u : Value} {Q : Unit → Shared → Prop} {m : Str → Option Value} (I : Inv X pins σ H s) (hm : s.heap.Ns X.env.locals m)
    (hN : X.N.Nodup) (hi : X.N[i]? = some x) (hk : X.env.scope.names.lookup x = some .local) (r : RelV v u)
    (h : ∀ s', Inv X pins (σ.set i (some v)) H s' → s'.heap.Ns X.env.locals (fun y => if y = x then some u else m y) → Q () s') : wpAny M A (storeName X.env x u) Q E s := by
  have knd : (X.env.scope.kind == .class || (X.env.scope.kind == .module && X.env.locals != X.env.globals)) = false := by
    rw [I.ok.kind]
    rfl
  refine wpAny_storeName_local hk hm (fun g hg hs => h _ ?_ hg) knd
  have far : ∀ b, b ≠ X.env.locals → ∀ o, s.heap.get? b = some o → g.get? b = some o := fun b n o e => (hs.2 b n).trans e
  have low : ∀ b o, X.s_0.heap.get? b = some o → b ≠ X.env.locals := fun b o e z => by
    subst z
    exact absurd (Nat.lt_of_lt_of_le (Heap.lt_size e) I.ok.above) (Nat.lt_irrefl _)
  have hsz : i < σ.length := by
    rw [I.len]
    exact (List.getElem?_eq_some_iff.mp hi).1
  obtain ⟨m0, hn0, hl0⟩ := I.loc
  have same : ∀ y, m0 y = m y := fun y => by
    obtain ⟨o1, es1, ep1, a1, a2, a3, a4⟩ := hn0
    obtain ⟨o2, es2, ep2, b1, b2, b3, b4⟩ := hm
    rw [a1] at b1
    have eo := Option.some.inj b1
    subst eo
    rw [a2] at b2
    injection b2 with b2 _
    subst b2
    exact (a4 y).symm.trans (b4 y)
  constructor
  · exact I.ok
  · exact I.os
  · exact I.bare
  · have B := I.base
    constructor
    · intro b o e n z1 z2
      exact far b (low b o e) o (B.keep b o e n z1 z2)
    · intro b o e n z1 z2
      obtain ⟨sl, w⟩ := B.slot b o e n z1 z2
      exact ⟨sl, far b (low b o e) _ w⟩
    · exact B.free
    · intro b o e z2
      obtain ⟨o', w⟩ := B.there b o e z2
      exact ⟨o', far b (low b o e) _ w⟩
    · exact B.tups
    · exact B.frzs
    · exact B.tbls
  · refine ⟨_, hg, fun j y w gj gw gv => ?_⟩
    by_cases hj : j = i
    · subst hj
      rw [hi] at gj
      have ey := Option.some.inj gj
      subst ey
      rw [List.getElem?_set_self hsz] at gw
      have ew := Option.some.inj (Option.some.inj gw)
      subst ew
      exact ⟨u, r, Or.inl ⟨hk, if_pos rfl⟩⟩
    · have gw' : σ[j]? = some (some w) := by
        rw [List.getElem?_set_ne (fun z => hj z.symm)] at gw
        exact gw
      obtain ⟨u', r', q⟩ := hl0 j y w gj gw' gv
      refine ⟨u', r', ?_⟩
      rcases q with ⟨k, e⟩ | ⟨k, c, e, z⟩
      · have nyx : y ≠ x := fun e' => hj (nodup_ix hN gj (e' ▸ hi))
        refine Or.inl ⟨k, ?_⟩
        show (if y = x then some u else m y) = some u'
        rw [if_neg nyx, ← same y]
        exact e
      · exact Or.inr ⟨k, c, e, z.sameBut hs (I.cne y c e)⟩
  · intro y c e
    obtain ⟨w, z⟩ := I.cell y c e
    exact ⟨w, z.sameBut hs (I.cne y c e)⟩
  · exact I.free
  · exact I.freeC
  · intro p hp
    obtain ⟨e, n, ne, rest⟩ := I.pin p hp
    exact ⟨far p.1 ne p.2 e, n, ne, rest⟩
  · intro b ob e
    have fr := I.free
    refine (I.hok b ob e).stay (fun c w hc q => far c ?_ w q) (fun _ q => q) (fun _ _ q => q)
    intro z
    rw [z] at hc
    rcases hc with hc | hc
    · rw [hc, e] at fr
      exact nomatch fr
    · rw [fr] at hc
      exact nomatch hc
  · rw [List.length_set]
    exact I.len
end
end Rm
namespace Rm
open PySem PySem.Spec PyProof.Rows L2
/-- the target and the body together -/
abbrev TJ := V → TS
structure PJ (X : Cx) (tg : Expr) (body : List Stmt) (gb : TJ) : Prop where
  run : ∀ (pins : List (Addr × Obj)) (s : Shared) (σ : L2.St) (H : Hp) (x : V) (u : Value) (D : Ends), Inv X pins σ H s → RelV x u → gb x D σ H →
    wpAny (model X.prog X.w) X.A (assign tg X.env u) (fun _ s' => wpAny (model X.prog X.w) X.A (execs body X.env) (SP X pins D) X.xe s') X.xe s
def tForJ (wi : TI) (gb : TJ) : TS := fun D σ H => wi σ H fun J H1 => ∃ W : Nat → Nat → L2.St → Hp → Prop, (∃ m, W 0 m σ H1) ∧ ∀ i m σ H, W i m σ H →
  (J.stop i H ∧ D.nx σ H) ∨ (J.go i H ∧ ∃ N : L2.St → Hp → Prop, (∀ σ' H', N σ' H' → ∃ m', m' < m ∧ W (i + 1) m' σ' H') ∧ ∀ x H', J.yld i H x H' → gb x { D with nx := N, ct := N, bk := D.nx } σ H')
theorem ps_forJ {X : Cx} {tg iter : Expr} {body : List Stmt} {wi : TI} {gb : TJ} {pos : Pos} (own : PassesOwn (model X.prog X.w) X.A X.env X.xe) (calm : X.calm = true) (walked : PI X tg iter wi) (joint : PJ X tg body gb)
    (folded : ∀ x, foldedSetIterable iter X.env x = pure x := by intro _; rfl) : PS X (.For tg iter body [] pos) (tForJ wi gb) := by
  constructor
  intro pins s σ H D I rd
  refine wpAny_For (thn (walked.run pins s σ H _ I rd) ?_) folded
  intro v s1 h1
  refine thn h1 ?_
  rintro itv s2 ⟨it, fp, tn, J, H2, rfl, I2, T, at0, own2, W, ⟨m0, w0⟩, turn⟩
  have quiet : ∀ {G : Hp}, (∀ b ∈ fp, G b = none) → ∀ b ∈ fp, FpOk X pins G b := fun hn b hb => ⟨hn b hb, (own2 b hb).2⟩
  refine codeAny_forLoop_any (fun n s' => ∃ i σ' H', Inv X pins σ' H' s' ∧ tn i s'.heap ∧ (∀ b ∈ fp, H' b = none) ∧ W i n σ' H') ?_ m0 ⟨0, σ, H2, I2, at0, (fun b hb => (own2 b hb).1), w0⟩
  rintro n s3 ⟨i, σ3, H3, I3, at3, fr3, w3⟩
  rcases turn i n σ3 H3 w3 with ⟨stop, qn⟩ | ⟨goes, N, hN, each⟩
  · refine wpAny_passesOwn own (thn (T.done X rfl rfl rfl calm i pins s3 σ3 H3 X.xe I3 (quiet fr3) at3 stop) ?_)
    rintro r s4 ⟨rfl, I4⟩
    exact wpAny_execs_nil ⟨σ3, H3, I4, qn⟩
  · refine wpAny_passesOwn own (thn (T.item X rfl rfl rfl calm i pins s3 σ3 H3 X.xe I3 (quiet fr3) at3 goes) ?_)
    rintro r s4 ⟨u, rfl, h4⟩
    refine wpAny_passesOwn own (thn h4 ?_)
    rintro _ s5 ⟨x, H5, I5, r5, y5, at5, fr5⟩
    have I5p := I5.pinned (quiet fr5) (T.obj _ _ at5)
    refine wpAny_passesOwn own (thn (joint.run _ s5 σ3 H5 x u _ I5p r5 (each x H5 y5)) ?_)
    intro _ s6 h6
    refine wpAny_passesOwn own (thn h6 ?_)
    intro f s7 q7
    have again : ∀ {σ7 : L2.St} {H7 : Hp}, Inv X (pins ++ pinsAt fp s5.heap) σ7 H7 s7 → N σ7 H7 → ∃ m, m < n ∧ ∃ i σ' H', Inv X pins σ' H' s7 ∧ tn i s7.heap ∧ (∀ b ∈ fp, H' b = none) ∧ W i m σ' H' := by
      intro σ7 H7 I7 n7
      obtain ⟨m', lt, w7⟩ := hN σ7 H7 n7
      have pinned : ∀ b ∈ fp, ∀ o, s5.heap.get? b = some o → s7.heap.get? b = some o ∧ H7 b = none := fun b hb o e => by
        have z := I7.pin (b, o) (List.mem_append_right _ (List.mem_append_right _ (mem_pinsAt hb e)))
        exact ⟨z.1, z.2.1⟩
      refine ⟨m', lt, i + 1, σ7, H7, I7.unpinned, T.keep _ _ _ at5 (fun b hb o e => (pinned b hb o e).1), ?_, w7⟩
      intro b hb
      obtain ⟨o, e, _⟩ := T.obj _ _ at5 b hb
      exact (pinned b hb o e).2
    match f, q7 with
    | .next, ⟨_, _, I7, n7⟩ => exact again I7 n7
    | .cont, ⟨_, _, I7, n7⟩ => exact again I7 n7
    | .brk, ⟨σ7, H7, I7, q⟩ => exact ⟨σ7, H7, I7.unpinned, q⟩
    | .ret _, ⟨x7, σ7, H7, I7, r7, q⟩ => exact ⟨x7, σ7, H7, I7.unpinned, r7, q⟩
/-- a written pair of two texts whose objects differ -/
def KPair (K : PySem.W.Frag) (p : Addr) (y z : Str) : Prop :=
  ∃ (dd : Option Addr) (t u : Tok) (n : Nat) (sl : Array (Option Value)), K.lookup p = some ⟨.type "tuple", dd, .seq #[.str y t, .str z u] n, sl⟩ ∧ t ≠ 0 ∧ u ≠ 0 ∧ t ≠ u ∧ (y == z) = false
/-- old, new = the pair; text = text.replace(old, new) -/
def gRepl (K : PySem.W.Frag) (io jo tx : Nat) : TJ := fun v D σ H => ∃ p y z a, v = .ref p ∧ KPair K p y z ∧ σ[tx]? = some (some (.str a)) ∧ a.length + (a.length + 1) * z.length ≤ 16777216 ∧
  D.nx (((σ.set io (some (.str y))).set jo (some (.str z))).set tx (some (.str (Txt.replace a y z)))) H
theorem pj_repl {X : Cx} {io jo tx : Nat} {ox nx tn : Str} {po pn tp p1 p2 ap q1 q2 cp sp : Pos} {k : Nat} (calm : X.calm = true) (nd : X.N.Nodup) (h1 : X.N[io]? = some ox) (h2 : X.N[jo]? = some nx) (h3 : X.N[tx]? = some tn)
    (l1 : X.env.scope.names.lookup ox = some .local) (l2 : X.env.scope.names.lookup nx = some .local) (l3 : X.env.scope.names.lookup tn = some .local) (ne : nx ≠ ox) (n1 : tx ≠ io) (n2 : tx ≠ jo)
    (d1 : (ox == ("__debug__" : Str)) = false := by decide) (d2 : (nx == ("__debug__" : Str)) = false := by decide) (d3 : (tn == ("__debug__" : Str)) = false := by decide) (d4 : (tn == ("__classdict__" : Str)) = false := by decide)
    (hlen : (assignEach [.Name ox po, .Name nx pn] X.env).length = 2 := by rfl) (hst : (assignEach [.Name ox po, .Name nx pn] X.env).findIdx? (·.1) = none := by rfl)
    (hmp : (assignEach [.Name ox po, .Name nx pn] X.env).map (·.2) = [assign (.Name ox po) X.env, assign (.Name nx pn) X.env] := by rfl)
    (hbase : attributeBase (.Name tn p2) "replace" X.env (eval (.Name tn p2) X.env) = eval (.Name tn p2) X.env := by rfl)
    (hargs : starEach [.Name ox q1, .Name nx q2] X.env = [(false, eval (.Name ox q1) X.env), (false, eval (.Name nx q2) X.env)] := by rfl) (hline : (ap.endLine == cp.line) = true := by rfl)
    (hsw : swapsWith (.Call (.Attribute (.Name tn p2) "replace" ap) [.Name ox q1, .Name nx q2] [] cp) (some (.Name tn p1)) sp.line X.env = pure false := by rfl) :
    PJ X (.Tuple [.Name ox po, .Name nx pn] k tp) [.Assign [.Name tn p1] (.Call (.Attribute (.Name tn p2) "replace" ap) [.Name ox q1, .Name nx q2] [] cp) sp] (gRepl X.K io jo tx) := by
  constructor
  rintro pins s σ H v u D I r ⟨p, y, z, a, rfl, ⟨dd, t, w, n, sl, hK, t0, w0, tw, yz⟩, ha, hb, q⟩
  obtain rfl : u = Value.ref p := r
  have hT : IsTup s.heap p #[.str y t, .str z w] := ⟨_, I.kIn _ _ hK, rfl, n, rfl⟩
  refine assign_Tuple_tuple (I.ok.hd calm) hT hlen hst ?_
  intro g hg
  have I1 : Inv X pins σ H { s with heap := g } := I.kept (t' := s.toks) fun b o e => hg b o (Nat.ne_of_lt (Heap.lt_size e)) e
  rw [hmp]
  obtain ⟨m, hm, _⟩ := I1.loc
  refine assignInOrder_cons (wpAny_assign_Name (raw_store I1 hm nd h1 l1 (v := .str y) ⟨t, rfl⟩ ?_))
  intro s2 I2 hm2
  refine assignInOrder_cons (wpAny_assign_Name (raw_store I2 hm2 nd h2 l2 (v := .str z) ⟨w, rfl⟩ ?_))
  intro s3 I3 hm3
  refine assignInOrder_nil ?_
  have gx : ((σ.set io (some (.str y))).set jo (some (.str z)))[tx]? = some (some (.str a)) := by
    rw [List.getElem?_set_ne (fun e => n2 e.symm), List.getElem?_set_ne (fun e => n1 e.symm)]
    exact ha
  refine wpAny_execs_cons (wpAny_Assign_Name (PySem.Call_method2 hbase hargs hline (raw_name h3 (.inl l3) I3 gx ?_ d3 d4)) hsw)
  · rintro tv ⟨ta, rfl⟩
    refine ⟨"str", _, PySem.F.plainAttrs_str, PySem.F.slot_str_replace, PySem.F.type_str_replace, typeIs_str _ _ _, (fun _ e => nomatch e), Calls.callWith_builtin rfl (Calls.evalArgs_plain (Calls.spliced_cons ?_))⟩
    refine wpAny_Name (wpAny_loadName_local I3.ok.kind l1 hm3 (by rw [if_neg ne.symm, if_pos rfl]) ?_) d1
    refine Calls.spliced_cons (wpAny_Name (wpAny_loadName_local I3.ok.kind l2 hm3 (if_pos rfl) ?_) d2)
    refine Calls.spliced_nil (PySem.SC.replace t0 w0 tw yz hb ?_)
    intro t' k'
    refine store_ok (I3.tok k') nd h3 (.inl l3) (v := .str (Txt.replace a y z)) ⟨t', rfl⟩ ?_ (.inr l3)
    intro s4 I4
    exact wpAny_execs_nil ⟨_, H, I4, q⟩
end Rm
namespace Rm
open PySem PySem.Spec PyProof.Rows L2 RZ PpSet
open PySem.StrLaws (replL)
theorem replace_ofl {x y z : List Nat} (h : 1 ≤ y.length) : Txt.replace (⟨x.toArray⟩ : Str) ⟨y.toArray⟩ ⟨z.toArray⟩ = ⟨(replL y z x).toArray⟩ := by
  have e := PySem.StrLaws.replace_list (x := ⟨x.toArray⟩) (y := ⟨y.toArray⟩) (z := ⟨z.toArray⟩) (by rw [ofl_len]; exact h)
  have e2 : (Txt.replace (⟨x.toArray⟩ : Str) ⟨y.toArray⟩ ⟨z.toArray⟩).cps = (replL y z x).toArray := by
    rw [← Array.toArray_toList (xs := (Txt.replace (⟨x.toArray⟩ : Str) ⟨y.toArray⟩ ⟨z.toArray⟩).cps), e]
  show _ = (⟨(replL y z x).toArray⟩ : Str)
  rw [← e2]
/-! ### for old, new in table[word]: text = text.replace(old, new) -/
abbrev RT := List (List Nat × List (List Nat × List Nat))
structure RTab (S : Sg) (p : Addr) (t : RT) : Prop where
  ok : ∀ k ps, t.lookup k = some ps → ∃ (tR : Addr) (as : List Addr), KDct S.K S.w p ⟨k.toArray⟩ (.ref tR) ∧ (∀ H, SqT S.K H tR (as.map V.ref)) ∧ as.length = ps.length ∧
    ∀ (i : Nat) (a : Addr) (q : List Nat × List Nat), as[i]? = some a → ps[i]? = some q → KPair S.K a ⟨q.1.toArray⟩ ⟨q.2.toArray⟩ ∧ 1 ≤ q.1.length
def replM : List (List Nat × List Nat) → List Nat → Option (List Nat)
  | [], a => some a
  | q :: qs, a => if a.length ≤ 160000 ∧ q.2.length ≤ 100 then replM qs (replL q.1 q.2 a) else none
def mRepl (t : RT) (iw io jo tx : Nat) : MS := fun ρ h => match ρ[iw]? with
  | some (some (.str k)) => match ρ[tx]? with
    | some (some (.str a)) => match t.lookup k with
      | some ps => match replM ps a with
        | some b => .ok (.nx, ((ρ.set io none).set jo none).set tx (some (.str b))) h
        | none => .bad
      | none => .bad
    | _ => .bad
  | _ => .bad
theorem RS.forget {S : Se} {F : Addr → Prop} {ι : List Addr} {H : Hp} {ρ : Rho} {σ : L2.St} (s : RS S F ι H ρ σ) (i : Nat) (o : Option V) : RS S F ι H (ρ.set i none) (σ.set i o) := by
  refine ⟨by rw [List.length_set, List.length_set]; exact s.len, fun j w q => ?_⟩
  by_cases e : j = i
  · subst e
    have hl : j < ρ.length := by have := (List.getElem?_eq_some_iff.mp q).1; rw [List.length_set] at this; exact this
    rw [List.getElem?_set_self hl] at q
    cases q
  · rw [List.getElem?_set_ne (Ne.symm e)] at q
    rw [List.getElem?_set_ne (Ne.symm e)]
    exact s.get j w q
theorem set_set_ne {α : Type} (l : List α) {i j : Nat} (h : i ≠ j) (a b : α) : (l.set i a).set j b = (l.set j b).set i a := List.set_comm a b h
theorem ss_repl {S : Se} {E : XK} {p : Addr} {t : RT} {iw io jo tx : Nat} (T : RTab S.toSg p t) (n1 : tx ≠ io) (n2 : tx ≠ jo) (n3 : io ≠ jo) (n4 : iw ≠ tx) : SS S E (tForJ (iTup S.K (tOp (rIxD S.K S.w) (tC (.ref p)) (tVar iw))) (gRepl S.K io jo tx)) (mRepl t iw io jo tx) := fun F ι h H ρ σ D rp rs o => by
  unfold mRepl at o
  split at o
  · rename_i k hk
    split at o
    · rename_i a0 ha0
      split at o
      · rename_i ps hps
        split at o
        · rename_i b hb
          obtain ⟨kx, hkx, zk⟩ := rs.get iw _ hk
          cases zk
          obtain ⟨ax, hax, za⟩ := rs.get tx _ ha0
          cases za
          obtain ⟨tR, as, hd, hT, hlen, hpair⟩ := T.ok k ps hps
          have ltx : tx < ρ.length := (List.getElem?_eq_some_iff.mp ha0).1
          refine ⟨_, hkx, p, _, .ref tR, rfl, rfl, hd, tR, rfl, ⟨_, hT H⟩, fun i m σ' H' => H' = H ∧ i + m = as.length + 1 ∧ i ≤ as.length ∧ ∃ c, replM (ps.drop i) c = some b ∧ RS S F ι H (((ρ.set io none).set jo none).set tx (some (.str c))) σ', ⟨as.length + 1, rfl, by omega, Nat.zero_le _, a0, hb, ?_⟩, ?_⟩
          · have r1 := (rs.forget io (σ[io]?.getD none)).forget jo ((σ.set io (σ[io]?.getD none))[jo]?.getD none)
            have e1 : ∀ (l : L2.St) (i : Nat), l.set i (l[i]?.getD none) = l := fun l i => by
              by_cases hi : i < l.length
              · rw [List.getElem?_eq_getElem hi]
                exact List.set_getElem_self hi
              · exact List.set_eq_of_length_le (Nat.le_of_not_lt hi)
            rw [e1 (σ.set io _) jo, e1 σ io] at r1
            refine ⟨by rw [List.length_set]; exact r1.len, fun j w q => ?_⟩
            by_cases e : j = tx
            · subst e
              rw [List.getElem?_set_self (by simpa using ltx)] at q
              cases q
              exact ⟨_, hax, .str _⟩
            · rw [List.getElem?_set_ne (Ne.symm e)] at q
              exact r1.get j w q
          · rintro i m σ' H' ⟨rfl, him, hi, c, hc, rs'⟩
            by_cases lt : i < as.length
            · have hp1 : as[i]? = some as[i] := List.getElem?_eq_getElem lt
              have hp2 : ps[i]? = some (ps[i]'(by omega)) := List.getElem?_eq_getElem (by omega)
              refine .inr ⟨⟨_, .ref as[i], hT H', by rw [List.getElem?_map, hp1]; rfl⟩, fun σ2 H2 => H2 = H' ∧ (i + 1) + (m - 1) = as.length + 1 ∧ i + 1 ≤ as.length ∧ ∃ c, replM (ps.drop (i + 1)) c = some b ∧ RS S F ι H' (((ρ.set io none).set jo none).set tx (some (.str c))) σ2, fun σ2 H2 w => ⟨m - 1, by omega, w⟩, fun x H2 hy => ?_⟩
              obtain ⟨rfl, hy⟩ := hy
              have := hy _ (hT H2)
              rw [List.getElem?_map, hp1] at this
              cases this
              obtain ⟨kp, one⟩ := hpair i _ _ hp1 hp2
              rw [List.drop_eq_getElem_cons (by omega : i < ps.length)] at hc
              generalize ps[i]'(by omega) = pr at hc kp one
              simp only [replM] at hc
              split at hc
              · rename_i hz
                obtain ⟨cx, hcx, zc⟩ := rs'.get tx (.str c) (by rw [List.getElem?_set_self (by simpa using ltx)])
                cases zc
                have hm : (c.length + 1) * pr.2.length ≤ 160001 * 100 := Nat.mul_le_mul (by omega) hz.2
                refine ⟨as[i], _, _, _, rfl, kp, hcx, by rw [ofl_len, ofl_len]; omega, rfl, by omega, lt, _, hc, ?_⟩
                rw [replace_ofl one]
                have r2 := (((rs'.forget io (some (.str ⟨pr.1.toArray⟩))).forget jo (some (.str ⟨pr.2.toArray⟩))).set (RV.str (replL pr.1 pr.2 c)) tx)
                have e : ((((((ρ.set io none).set jo none).set tx (some (LV.str c))).set io none).set jo none).set tx (some (LV.str (replL pr.1 pr.2 c)))) = ((ρ.set io none).set jo none).set tx (some (LV.str (replL pr.1 pr.2 c))) := by
                  rw [set_set_ne _ n1, set_set_ne _ n2, List.set_set, set_set_ne (ρ.set io none) (Ne.symm n3), List.set_set, List.set_set]
                rw [e] at r2
                exact r2
              · cases hc
            · have e : i = as.length := by omega
              subst e
              rw [List.drop_eq_nil_of_le (by omega)] at hc
              cases hc
              exact .inl ⟨⟨_, hT H', by rw [List.length_map]; exact Nat.le_refl _⟩, Ok.now (rel := relF S) (v := (Fl.nx, _)) (x := FV.nx σ') o rp rs'⟩
        · exact o.elim
      · exact o.elim
    · exact o.elim
  · exact o.elim
end Rm
namespace Rm
open PySem PySem.Spec PyProof.Rows L2 RZ PpSet
/-! ### truth, texts -/
def truL (h : List LO) : LV → Option Bool
  | .non => some false
  | .bl b => some b
  | .int i => some (i != 0)
  | .str x => if x.length ≤ 60000 then some (((x.length : Nat) : Int) != 0) else none
  | v => match v.seq h with
    | some xs => some (!xs.isEmpty)
    | none => none
def mTru (ma : ME) : MT := fun ρ h => (ma ρ h).bind fun v h1 => match truL h1 v with
  | some b => .ok b h1
  | none => .bad
def tTruV (K : PySem.W.Frag) (ta : TE) : TT := fun σ H Q => ta σ H fun x H' => ∃ k, TruV K x H' k ∧ Q k H'
theorem pt_tru {X : Cx} {a : Expr} {ta : TE} (ha : PE X a ta) (he : ∀ whole, isTrue a X.env whole = (do let v ← whole; standAt a.pos; holding [v] (truthy v)) := by intro _; rfl) : PT X a (tTruV X.K ta) := pt_truth ha he
theorem empty_of {S : Sg} {F : Addr → Prop} {ι : List Addr} {H : Hp} {xs : List LV} {vs : List V} (z : RVs S F ι H xs vs) : xs.isEmpty = vs.isEmpty := by
  cases z <;> rfl
section
variable {S : Se} {E : XK} {ta : TE} {ma : ME}
theorem st_tru (ha : SE S E ta ma) : ST S E (tTruV S.K ta) (mTru ma) := fun F ι h H ρ σ Q rp rs o =>
  ha F ι h H ρ σ _ rp rs (o.seq fun F1 ι1 H1 h1 v x _ e1 rp1 z o1 => by
    split at o1
    · rename_i b e
      refine ⟨b, ?_, Ok.now (rel := eqB) (v := b) o1 rp1 rfl⟩
      have sq : ∀ {w : LV} {y : V}, RV S.toSg F1 ι1 H1 w y → (match w.seq h1 with | some xs => some (!xs.isEmpty) | none => none) = some b → TruV S.K y H1 b := fun {w y} zw ew => by
        split at ew
        · rename_i xs ex
          cases ew
          obtain ⟨a, vs, rfl, hs, zz⟩ := seq_of rp1 zw ex
          rcases hs with hs | hs
          · exact .inl ⟨vs, hs, by rw [empty_of zz]⟩
          · exact .inr (.inl ⟨vs, hs, by rw [empty_of zz]⟩)
        · cases ew
      cases z with
      | non => cases e; rfl
      | bl b => cases e; rfl
      | int i => cases e; rfl
      | str z =>
        simp only [truL] at e
        split at e
        · rename_i hl
          cases e
          exact ⟨le_sz (by rw [ofl_len]; exact hl), by rw [ofl_len]⟩
        · cases e
      | tup a b => exact sq (.tup a b) e
      | vl a b c => exact sq (.vl a b c) e
      | fz a b => exact sq (.fz a b) e
      | vd a b c d e2 g i => exact sq (.vd a b c d e2 g i) e
      | sd a b c d => exact sq (.sd a b c d) e
      | obj a b c d => exact sq (.obj a b c d) e
      | ref a => exact sq (.ref a) e
    · exact o1.elim)
theorem se_strL {x : Str} {l : List Nat} (h : x.cps.toList = l := by decide +kernel) : SE S E (tC (.str x)) (mC (.str l)) := by
  subst h
  exact se_str
theorem hu9 {A : Around} {k : Nat} (hr : Room k A) : A.units + 9 < cLine := by
  have := hr.units
  omega
/-! ### the rules, by the values' own part -/
theorem op_addS {X : Cx} (S : Se)  (hK : X.K = S.K := by rfl) : OpR X (binaryOp .Add) (rAddAll S.K) := by
  rw [← hK]
  exact op_addAll
theorem op_mulS {X : Cx} (S : Se)  (hK : X.K = S.K := by rfl) : OpR X (binaryOp .Mult) (rMulAll S.K) := by
  rw [← hK]
  exact op_mulAll
theorem op_eqS {X : Cx} (S : Se) (hu : X.A.units + 64 < cLine) (hK : X.K = S.K := by rfl) : OpR X (compareOp .Eq) (rEqAll S.K) := by
  rw [← hK]
  exact op_eqAll hu
theorem op_neS {X : Cx} (S : Se) (hu : X.A.units + 64 < cLine) (hK : X.K = S.K := by rfl) : OpR X (compareOp .NotEq) (rNeAll S.K) := by
  rw [← hK]
  exact op_neAll hu
theorem op_inS {X : Cx} (S : Se) (hu : X.A.units + 9 < cLine) (hK : X.K = S.K := by rfl) (hw : X.w = S.w := by rfl) (hP : X.prog = S.P := by rfl) : OpR X (compareOp .In) (rInX S.P S.w S.K) := by
  rw [← hK, ← hw, ← hP]
  exact op_inX hu
theorem op_niS {X : Cx} (S : Se) (hu : X.A.units + 9 < cLine) (hK : X.K = S.K := by rfl) (hw : X.w = S.w := by rfl) (hP : X.prog = S.P := by rfl) : OpR X (compareOp .NotIn) (rNiX S.P S.w S.K) := by
  rw [← hK, ← hw, ← hP]
  exact op_niX hu
theorem op_kdS {X : Cx} (S : Se)  (hK : X.K = S.K := by rfl) (hw : X.w = S.w := by rfl) : OpR X (compareOp .In) (rInK S.K S.w) := by
  rw [← hK, ← hw]
  exact op_in_kd
theorem ix_S {X : Cx} (S : Se) (hu : X.A.units + 9 < cLine) (hK : X.K = S.K := by rfl) (hw : X.w = S.w := by rfl) (hP : X.prog = S.P := by rfl) : IxR X (rIxX S.P S.w S.K) := by
  rw [← hK, ← hw, ← hP]
  exact ix_X hu
theorem ix_kdS {X : Cx} (S : Se)  (hK : X.K = S.K := by rfl) (hw : X.w = S.w := by rfl) : IxR X (rIxD S.K S.w) := by
  rw [← hK, ← hw]
  exact ix_kdict
theorem sl_S {X : Cx} (S : Se)  (hK : X.K = S.K := by rfl) : SlR X (rSlAll S.K) := by
  rw [← hK]
  exact sl_all
theorem call_lenS {X : Cx} (S : Se)  (hK : X.K = S.K := by rfl) : CallR X (.builtin "len") (rLenAll S.K) := by
  rw [← hK]
  exact call_lenAll
theorem call_listS {X : Cx} (S : Se) (hc : X.calm = true) (hK : X.K = S.K := by rfl) (hw : X.w = S.w := by rfl) (hP : X.prog = S.P := by rfl) : CallR X (.type "list") (rListX S.P S.w S.K) := by
  rw [← hK, ← hw, ← hP]
  exact call_listX hc
theorem call_tupS {X : Cx} (S : Se)  (hK : X.K = S.K := by rfl) : CallR X (.type "tuple") (rTupOf S.K) := by
  rw [← hK]
  exact call_tupOf
theorem call_sumS {X : Cx} (S : Se) (hc : X.calm = true) (hK : X.K = S.K := by rfl) : CallR X (.builtin "sum") (rSum S.K) := by
  rw [← hK]
  exact cr_sum hc
theorem call_allS {X : Cx} (S : Se) (hc : X.calm = true) (hK : X.K = S.K := by rfl) : CallR X (.builtin "all") (rAll S.K) := by
  rw [← hK]
  exact cr_all hc
theorem call_anyS {X : Cx} (S : Se) (hc : X.calm = true) (hK : X.K = S.K := by rfl) : CallR X (.builtin "any") (rAny S.K) := by
  rw [← hK]
  exact cr_any hc
theorem call_isiS {X : Cx} (S : Se)  (hK : X.K = S.K := by rfl) : CallR X (.builtin "isinstance") (rIsi S.K) := by
  rw [← hK]
  exact call_isi
theorem set_S {X : Cx} (S : Se) (hu : X.A.units + 9 < cLine) (hK : X.K = S.K := by rfl) (hw : X.w = S.w := by rfl) (hP : X.prog = S.P := by rfl) : PSet X (rSetX S.P S.w S.K) := by
  rw [← hK, ← hw, ← hP]
  exact set_X hu
theorem pt_truS {X : Cx} (S : Se) {a : Expr} {ta : TE} (ha : PE X a ta) (he : ∀ whole, isTrue a X.env whole = (do let v ← whole; standAt a.pos; holding [v] (truthy v)) := by intro _; rfl) (hK : X.K = S.K := by rfl) : PT X a (tTruV S.K ta) := by
  rw [← hK]
  exact pt_tru ha he
theorem pe_fldS {X : Cx} (S : Se) {e : Expr} {f : Str} {ta : TE} {pos : Pos} (he : PE X e ta) (hb : attributeBase e f X.env (eval e X.env) = eval e X.env := by rfl) (hK : X.K = S.K := by rfl) : PE X (.Attribute e f pos) (tFld S.K ta f) := by
  rw [← hK]
  exact pe_fld he hb
theorem pi_anyS {X : Cx} (S : Se) {tg e : Expr} {te : TE} (he : PE X e te) (hK : X.K = S.K := by rfl) (hw : X.w = S.w := by rfl) (hP : X.prog = S.P := by rfl) : PI X tg e (iAny S.P S.w S.K te) := by
  rw [← hK, ← hw, ← hP]
  exact pi_any he
theorem pe_joinS {X : Cx} (S : Se) {o e : Expr} {to te : TE} {apos pos : Pos} (ho : PE X o to) (he : PE X e te) (hs : starEach [e] X.env = [(false, eval e X.env)] := by rfl) (hbase : attributeBase o "join" X.env (eval o X.env) = eval o X.env := by rfl) (hline : (apos.endLine == pos.line) = true := by rfl) (hK : X.K = S.K := by rfl) : PE X (.Call (.Attribute o "join" apos) [e] [] pos) (tM1 (rJoin S.K) to te) := by
  rw [← hK]
  exact pe_join ho he hs hbase hline
theorem pe_newS {X : Cx} (S : Se) {pos : Pos} (hw : X.w = S.w := by rfl) (hP : X.prog = S.P := by rfl) : PE X (.Dict [] [] pos) (tNewN S.P S.w) := by
  rw [← hw, ← hP]
  exact pe_newN
theorem pe_dispS {X : Cx} (S : Se) {e f : Expr} {pos : Pos} {tk tv : TE} (hu : X.A.units + 9 < cLine) (he : PE X e tk) (hf : PE X f tv) (hK : X.K = S.K := by rfl) (hw : X.w = S.w := by rfl) (hP : X.prog = S.P := by rfl) : PE X (.Dict [some e] [f] pos) (tDispN S.P S.w S.K tk tv) := by
  rw [← hK, ← hw, ← hP]
  exact pe_dispN hu he hf
/-! ### what a caller knows of a def -/
structure Cal (S : Se) (mg : Str → Option Value) (base : Heap) (x : Str) (l : Nat) (ps : List Str) (n : Nat) (m : MF) (f : Addr) (fd : FuncData) : Prop where
  ok : FnOk S.P S.w S.K mg base CX0 l f fd ps (spM S n m)
  kp : PySem.W.keepIn S.K (.ref f) = true
  b : Binds S.K fd ps []
  g : mg x = some (.ref f)
structure Met (S : Se) (mg : Str → Option Value) (base : Heap) (C : Nat) (x : Str) (l : Nat) (ps : List Str) (n : Nat) (m : MF) (f : Addr) (fd : FuncData) : Prop where
  ok : FnOk S.P S.w S.K mg base CX0 l f fd ps (spM S n m)
  cl : Cls S.K (S.ct C)
  mt : Meth S.K (S.ct C) x f
  b : Binds S.K fd ps []
  nm : x ∉ S.nm C
structure Mak (S : Se) (mg : Str → Option Value) (base : Heap) (C : Nat) (x : Str) (l : Nat) (ps : List Str) (n : Nat) (m : MF) (f : Addr) (fd : FuncData) (k : Nat) : Prop where
  ok : FnOk S.P S.w S.K mg base CX0 l f fd ps (spM S n m)
  mak : Mk S.K (S.ct C) f
  b : Binds S.K fd ps []
  g : mg x = some (.ref (S.ct C))
  k : k = (S.nm C).length
end
end Rm
namespace Rm
open PySem PySem.Spec PyProof.Rows L2 RZ PpSet SrtO
def clsOf (r : R LV) (C : Nat) : Bool := match r with
  | .ok (.obj C' _) _ => decide (C' = C)
  | _ => false
/-! ### a list put in order, item by item -/
section
variable {α β : Type} {lt : α → α → Bool}
def insL (lt : α → α → Bool) (x : α) : List α → List α
  | [] => [x]
  | y :: ys => if lt y x = true then y :: insL lt x ys else x :: y :: ys
def isort (lt : α → α → Bool) : List α → List α
  | [] => []
  | x :: xs => insL lt x (isort lt xs)
theorem insL_mem {x z : α} : ∀ {ys : List α}, z ∈ insL lt x ys → z = x ∨ z ∈ ys
  | [], h => .inl (List.mem_singleton.mp h)
  | y :: ys, h => by
    simp only [insL] at h
    split at h
    · rcases List.mem_cons.mp h with e | e
      · exact .inr (by rw [e]; exact List.mem_cons_self)
      · exact (insL_mem e).imp id (List.mem_cons_of_mem _)
    · rcases List.mem_cons.mp h with e | e
      · exact .inl e
      · exact .inr e
theorem insL_srt (O : Swo lt) {x : α} : ∀ {ys : List α}, Srtd lt ys → Srtd lt (insL lt x ys)
  | [], _ => List.pairwise_singleton _ _
  | y :: ys, h => by
    have h' := List.pairwise_cons.mp h
    simp only [insL]
    by_cases c : lt y x = true
    · rw [if_pos c]
      refine List.pairwise_cons.mpr ⟨fun z hz => ?_, insL_srt O h'.2⟩
      rcases insL_mem hz with e | e
      · rw [e]; exact O.asym _ _ c
      · exact h'.1 z e
    · rw [if_neg c]
      refine List.pairwise_cons.mpr ⟨fun z hz => ?_, h⟩
      have cf : lt y x = false := Bool.eq_false_iff.mpr c
      rcases List.mem_cons.mp hz with e | e
      · rw [e]; exact cf
      · exact O.tr x y z cf (h'.1 z e)
theorem insL_stb (O : Swo lt) {x : α} : ∀ {ys : List α}, Stb lt (insL lt x ys) (x :: ys)
  | [] => Stb.refl _
  | y :: ys => by
    simp only [insL]
    by_cases c : lt y x = true
    · rw [if_pos c]
      have h1 : Stb lt ([y] ++ insL lt x ys) ([y] ++ ([x] ++ ys)) := (Stb.refl [y]).app (insL_stb O)
      have h2 : Stb lt (([y] ++ [x]) ++ ys) (([x] ++ [y]) ++ ys) := (Stb.swap O (A := [y]) (B := [x]) fun a ha b hb => by rw [List.mem_singleton.mp ha, List.mem_singleton.mp hb]; exact c).app (Stb.refl ys)
      exact h1.trans h2
    · rw [if_neg c]
      exact Stb.refl _
theorem isort_srt (O : Swo lt) : ∀ xs : List α, Srtd lt (isort lt xs)
  | [] => List.Pairwise.nil
  | x :: xs => insL_srt O (isort_srt O xs)
theorem isort_stb (O : Swo lt) : ∀ xs : List α, Stb lt (isort lt xs) xs
  | [] => Stb.refl _
  | x :: xs => (insL_stb O).trans ((Stb.refl [x]).app (isort_stb O xs))
theorem insL_map {f : α → β} {lt' : β → β → Bool} (x : α) : ∀ ys : List α, (insL (fun a b => lt' (f a) (f b)) x ys).map f = insL lt' (f x) (ys.map f)
  | [] => rfl
  | y :: ys => by
    simp only [insL, List.map_cons]
    split
    · rw [List.map_cons, insL_map x ys]
    · rfl
theorem isort_map {f : α → β} {lt' : β → β → Bool} : ∀ xs : List α, (isort (fun a b => lt' (f a) (f b)) xs).map f = isort lt' (xs.map f)
  | [] => rfl
  | x :: xs => by
    simp only [isort, List.map_cons]
    rw [insL_map, isort_map xs]
end
/-! ### pairs of truth values in order -/
section
variable {prog : Program} {w : World} {A : Around} {E : Value → Shared → Prop} {s : Shared}
theorem oneLt_b {x y : Bool} {Q : Bool → Shared → Prop} (h : Q (decide (b2i x < b2i y)) s) : wpAny (model prog w) A (oneLt' true (.bool x) (.bool y)) Q E s := by
  rw [oneLt'_eq]
  simp only [if_true]
  refine wpAny_bind (wpAny_cRoomFor_byValue rfl ?_)
  refine wpAny_bind (wpAny_callSpecialIfBound?_slot (typeIs_bool' s x) F.slot_bool_lt (call_gives F.slot_bool_lt (typeIs_bool' s x) F.entry_int_lt (F.args_int_lt_2 _ _) (gives_int_lt_bools x y) ?_))
  exact wpAny_truthy_bool h
def IsPB (h : Heap) (v : Value) (x y : Bool) : Prop := ∃ (a : Addr) (o : Obj) (n : Nat), v = .ref a ∧ h.get? a = some o ∧ o.cls = .type "tuple" ∧ o.data = .seq #[.bool x, .bool y] n
def ltB (p q : Bool × Bool) : Bool := if p.1 = q.1 then decide (b2i p.2 < b2i q.2) else decide (b2i p.1 < b2i q.1)
theorem swo_B {α : Type} (k : α → Bool × Bool) : Swo fun v u => ltB (k v) (k u) := by
  refine ⟨fun x y h => ?_, fun x y z h1 h2 => ?_⟩
  · generalize k x = p at *
    generalize k y = q at *
    obtain ⟨a, b⟩ := p
    obtain ⟨c, d⟩ := q
    cases a <;> cases b <;> cases c <;> cases d <;> revert h <;> decide
  · generalize k x = p at *
    generalize k y = q at *
    generalize k z = r at *
    obtain ⟨a, b⟩ := p
    obtain ⟨c, d⟩ := q
    obtain ⟨e, f⟩ := r
    cases a <;> cases b <;> cases c <;> cases d <;> cases e <;> cases f <;> revert h1 h2 <;> decide
theorem cmp_B {vs : List Value} {k : Value → Bool × Bool} (hp : ∀ v ∈ vs, IsPB s.heap v (k v).1 (k v).2) : Cmp prog w A s (tuples' true) (fun p => p.1 ∈ vs) (lt2 fun v u => ltB (k v) (k u)) := by
  intro p q hm hm'
  have h1 := hp _ hm
  have h2 := hp _ hm'
  show wpAny (model prog w) A (keyLt' (tuples' true) p.1 q.1) (fun r s' => s' = s ∧ r = ltB (k p.1) (k q.1)) (fun _ _ => False) s
  unfold ltB
  generalize (k p.1).1 = x1 at h1 ⊢
  generalize (k p.1).2 = y1 at h1 ⊢
  generalize (k q.1).1 = x2 at h2 ⊢
  generalize (k q.1).2 = y2 at h2 ⊢
  obtain ⟨a, o, n, e, ho, hc, hd⟩ := h1
  obtain ⟨a', o', n', e', ho', hc', hd'⟩ := h2
  rw [e, e']
  refine PySem.W.kat_lt ho hd ho' hd' ?_
  change PySem.W.KatLex prog w A true (decide (2 < 2)) _ [(.bool x1, .bool x2), (.bool y1, .bool y2)] 0 s
  refine PySem.W.kat_cons (SeqAt.EqAt.bool_bool x1 x2 prog w _ _ (PySem.W.kat_go (fun e1 => ?_) fun e1 => ?_))
  · have ex : x1 = x2 := by simpa using e1
    subst ex
    refine PySem.W.kat_yes (PySem.W.kat_cons (SeqAt.EqAt.bool_bool y1 y2 prog w _ _ (PySem.W.kat_go (fun e2 => ?_) fun e2 => ?_)))
    · have ey : y1 = y2 := by simpa using e2
      subst ey
      exact PySem.W.kat_yes (PySem.W.kat_nil ⟨rfl, by cases y1 <;> simp⟩)
    · refine PySem.W.kat_no (PySem.W.kat_one _ _ (lt_bool ?_))
      exact (show s = s ∧ decide (b2i y1 < b2i y2) = (if x1 = x1 then decide (b2i y1 < b2i y2) else decide (b2i x1 < b2i x1)) from ⟨rfl, by rw [if_pos rfl]⟩)
  · have ex : ¬ x1 = x2 := by simpa using e1
    exact PySem.W.kat_no (oneLt_b ⟨rfl, by rw [if_neg ex]⟩)
theorem firsts_B {h : Heap} : ∀ {vs : List Value}, (∀ v ∈ vs, ∃ x y, IsPB h v x y) → ∃ fs : List Value, PySem.W.KatTups h vs fs ∧ fs.length = vs.length ∧ ∀ f ∈ fs, ∃ x, f = Value.bool x
  | [], _ => ⟨[], PySem.W.KatTups.nil, rfl, fun _ hm => nomatch hm⟩
  | v :: vs, hp => by
    obtain ⟨fs, h1, h2, h3⟩ := firsts_B (vs := vs) fun u hm => hp u (List.mem_cons_of_mem _ hm)
    obtain ⟨x, y, a, o, n, rfl, ho, hc, hd⟩ := hp v List.mem_cons_self
    refine ⟨.bool x :: fs, PySem.W.KatTups.cons ho hc hd rfl h1, congrArg (· + 1) h2, fun f hm => ?_⟩
    rcases List.mem_cons.mp hm with e | hm
    · exact ⟨x, e⟩
    · exact h3 f hm
theorem able_B {a : Addr} {vs : List Value} {k : Value → Bool × Bool} (h0 : 0 < vs.length) (hp : ∀ v ∈ vs, IsPB s.heap v (k v).1 (k v).2) (ha : ∀ o, s.heap.get? a = some o → o.cls ≠ .type "tuple") : SortableO prog w A s a vs fun v u => ltB (k v) (k u) := by
  intro h' keep
  have hp' : ∀ v ∈ vs, IsPB h' v (k v).1 (k v).2 := fun v hm => by
    obtain ⟨b, o, n, e, ho, hc, hd⟩ := hp v hm
    exact ⟨b, o, n, e, keep b o (fun z => by subst z; exact ha o ho hc) ho, hc, hd⟩
  obtain ⟨fs, h1, h2, h3⟩ := firsts_B fun v hm => ⟨_, _, hp' v hm⟩
  refine ⟨tuples' true, fun Q E hq => PySem.W.kat_kind (T := .type "bool") h1 (by omega) (fun f hm => ?_) (by rfl) ?_, cmp_B hp'⟩
  · obtain ⟨x, rfl⟩ := h3 f hm
    exact PySem.W.Looks.now
  · have e : (Value.type "bool" != Value.type "tuple") = true := by first | decide +kernel | rfl | decide
    rw [e]
    exact hq
end
/-- sorted(l), l a list of pairs of truth values -/
def rSortB (K : PySem.W.Frag) : List V → Hp → VK → Prop := fun vs H Q => ∃ (a : Addr) (zs : List ((Bool × Bool) × V)), vs = [.ref a] ∧ SqL K H a (zs.map (·.2)) ∧ (∀ z ∈ zs, ∃ t, z.2 = .ref t ∧ SqT K H t [.bl z.1.1, .bl z.1.2]) ∧
  ∀ p, H p = none → Q (.ref p) (upd H p (.lst ((isort (fun x y => ltB x.1 y.1) zs).map (·.2))))
theorem back_ref {v : V} {u : Value} {t : Addr} (r : RelV v u) (e : v = .ref t) : u = .ref t := by
  subst e
  exact r
theorem cr_sortB {X : Cx} : CallR X (.builtin "sorted") (rSortB X.K) := by
  intro pins s σ H vs us Q I r h
  obtain ⟨a, zs, rfl, hs, hz, q⟩ := h
  obtain ⟨its, rv, hl, hsz⟩ := I.list hs
  obtain ⟨u, rfl, ru⟩ := vals1 r
  obtain rfl : u = Value.ref a := ru
  -- what stands at an address tells its key
  generalize hk : (fun x : V => match zs.find? (fun z => decide (z.2 = x)) with
    | some z => z.1
    | none => (false, false)) = kV
  have same : ∀ z ∈ zs, kV z.2 = z.1 := fun z hm => by
    rw [← hk]
    dsimp only
    split
    · rename_i z2 e
      have m2 := List.mem_of_find?_eq_some e
      have e2 : z2.2 = z.2 := by simpa using List.find?_some e
      obtain ⟨t, et, ht⟩ := hz z hm
      obtain ⟨t2, et2, ht2⟩ := hz z2 m2
      rw [e2, et] at et2
      cases et2
      have := I.tuple_inj ht ht2
      simp only [List.cons.injEq, V.bl.injEq, and_true] at this
      exact Prod.ext this.1.symm this.2.symm
    · rename_i e
      have := List.find?_eq_none.mp e z hm
      simp at this
  have hzs : zs = (zs.map (·.2)).map fun x => (kV x, x) := by
    rw [List.map_map]
    conv => lhs; rw [← List.map_id zs]
    refine List.map_congr_left fun z hm => ?_
    show z = (kV z.2, z.2)
    rw [same z hm]
  have hgoal : (isort (fun x y : (Bool × Bool) × V => ltB x.1 y.1) zs).map (·.2) = isort (fun x y => ltB (kV x) (kV y)) (zs.map (·.2)) := by
    have e1 := isort_map (f := fun x : V => (kV x, x)) (lt' := fun x y : (Bool × Bool) × V => ltB x.1 y.1) (zs.map (·.2))
    rw [← hzs] at e1
    rw [← e1, List.map_map]
    exact List.map_id _
  rw [hgoal] at q
  obtain ⟨e1, e2⟩ := refs_back rv fun x m => by
    obtain ⟨z, hm, rfl⟩ := List.mem_map.mp m
    obtain ⟨t, e, _⟩ := hz z hm
    exact ⟨t, e⟩
  have hpb : ∀ v ∈ its, IsPB s.heap v (kV (backV v)).1 (kV (backV v)).2 := fun v hv => by
    have hm : backV v ∈ zs.map (·.2) := by rw [e1]; exact List.mem_map.mpr ⟨v, hv, rfl⟩
    obtain ⟨z, hzm, ez⟩ := List.mem_map.mp hm
    obtain ⟨t, et, ht⟩ := hz z hzm
    obtain ⟨t', rfl⟩ := e2 v hv
    have e3 : V.ref t' = V.ref t := ez.symm.trans et
    cases e3
    obtain ⟨i2, r2, ⟨o, ho, hc, n, hd⟩, _⟩ := I.tuple ht
    obtain ⟨u1, u2, rfl, ri, rj⟩ := vals2 r2
    cases ri
    cases rj
    rw [← ez, same z hzm]
    exact ⟨_, o, n, rfl, ho, hc, hd⟩
  have hlen : its.length ≤ sizeLine := by rw [← rv.length]; exact hsz
  refine sorted_ord (swo_B fun u => kV (backV u)) hl.isList hlen (fun h2 g b hb kk => able_B (s := { s with heap := g }) (k := fun u => kV (backV u)) (by omega) (fun v hm => ?_) fun o e => ?_) fun out hs2 hb2 => ?_
  · obtain ⟨c, o, n, e, ho, hc, hd⟩ := hpb v hm
    exact ⟨c, o, n, e, (kk c o ho).2, hc, hd⟩
  · have e' : some o = some (seqObj "list" its.toArray 0) := e.symm.trans hb
    cases e'
    intro c
    exact absurd (Value.type.inj c) (by decide)
  · have h3 : ∀ u ∈ out, ∃ a, u = Value.ref a := fun u hu => e2 u (hb2.perm.mem_iff.mp hu)
    obtain ⟨n, hn⟩ := sortedAll_at s.heap its out.toArray
    have O := swo_B kV
    have b1 : Stb (fun x y => ltB (kV x) (kV y)) (out.map backV) (its.map backV) := Stb.map O backV hb2
    have b2 := isort_stb O (zs.map (·.2))
    rw [e1] at b2 q
    have b3 : Stb (fun x y => ltB (kV x) (kV y)) (out.map backV) (isort (fun x y => ltB (kV x) (kV y)) (its.map backV)) := b1.trans ⟨b2.perm.symm, fun x => (b2.cls x).symm⟩
    have e4 := stb_uniq O (srtd_map hs2) (isort_srt O _) b3
    rw [← e4] at q
    refine ⟨.ref (s.heap.objs.size + 1), upd H (s.heap.objs.size + 1) (.lst (out.map backV)), I.laid (t' := s.toks) (fun b o e => sortedAll_old e) (Nat.le_succ _) ⟨?_, out, n, vals_back h3, hn⟩, rfl, q _ (I.hok.fresh (Nat.le_succ _))⟩
    rw [b1.len, ← e1]
    exact hsz
/-- .. on values -/
def asPB : List LV → Option (List ((Bool × Bool) × LV))
  | [] => some []
  | .tup [.bl b, .bl c] :: xs => (asPB xs).map (((b, c), .tup [.bl b, .bl c]) :: ·)
  | _ => none
def fSortB (vs : List LV) (h : List LO) : R LV := match vs with
  | [v] => match v.lsf h with
    | some xs => match asPB xs with
      | some zs => .ok (.vl ((isort (fun x y => ltB x.1 y.1) zs).map (·.2))) h
      | none => .bad
    | none => .bad
  | _ => .bad
theorem asPB_of {S : Sg} {F : Addr → Prop} {ι : List Addr} {H : Hp} : ∀ {xs : List LV} {zs : List ((Bool × Bool) × LV)} {vs : List V}, asPB xs = some zs → RVs S F ι H xs vs → ∃ ws : List ((Bool × Bool) × LV × V), ws.map (fun w => (w.1, w.2.1)) = zs ∧ ws.map (fun w => w.2.2) = vs ∧
    ∀ w ∈ ws, RV S F ι H w.2.1 w.2.2 ∧ ∃ t, w.2.2 = .ref t ∧ SqT S.K H t [.bl w.1.1, .bl w.1.2]
  | [], _, _, e, z => by cases e; cases z; exact ⟨[], rfl, rfl, fun _ m => nomatch m⟩
  | x :: xs, zs, vs, e, z => by
    unfold asPB at e
    split at e
    · rename_i h1
      cases h1
    · rename_i b c ys h1
      cases h1
      simp only [Option.map_eq_some_iff] at e
      obtain ⟨zs', e1, rfl⟩ := e
      cases z with
      | cons p q =>
        obtain ⟨ws, w1, w2, w3⟩ := asPB_of e1 q
        have p' := p
        cases p with
        | @tup t _ _ hs hr =>
          refine ⟨((b, c), .tup [.bl b, .bl c], .ref t) :: ws, by rw [List.map_cons, w1], by rw [List.map_cons, w2], fun w m => ?_⟩
          rcases List.mem_cons.mp m with rfl | m
          · refine ⟨p', t, rfl, ?_⟩
            cases hr with
            | cons r1 r2 =>
              cases r1
              cases r2 with
              | cons r3 r4 =>
                cases r3
                cases r4
                exact hs
          · exact w3 w m
    · cases e
theorem RVs.maps {S : Sg} {F : Addr → Prop} {ι : List Addr} {H : Hp} : ∀ {ws : List ((Bool × Bool) × LV × V)}, (∀ w ∈ ws, RV S F ι H w.2.1 w.2.2) → RVs S F ι H (ws.map fun w => w.2.1) (ws.map fun w => w.2.2)
  | [], _ => .nil
  | w :: ws, h => .cons (h w List.mem_cons_self) (RVs.maps fun u m => h u (List.mem_cons_of_mem _ m))
theorem vc_sortB {S : Se} {E : XK} : VC S E (rSortB S.K) fSortB := fun F ι h H xs vs Q rp z o => by
  unfold fSortB at o
  split at o
  · rename_i v
    split at o
    · rename_i ys e
      split at o
      · rename_i zs e2
        cases z with
        | cons a b =>
          cases b
          obtain ⟨p, us, rfl, hs, zz⟩ := lsf_of rp a e
          obtain ⟨ws, w1, w2, w3⟩ := asPB_of e2 zz
          have m1 := isort_map (f := fun w : (Bool × Bool) × LV × V => (w.1, w.2.1)) (lt' := fun x y : (Bool × Bool) × LV => ltB x.1 y.1) ws
          have m2 := isort_map (f := fun w : (Bool × Bool) × LV × V => (w.1, w.2.2)) (lt' := fun x y : (Bool × Bool) × V => ltB x.1 y.1) ws
          rw [w1] at m1
          refine ⟨p, ws.map fun w => (w.1, w.2.2), rfl, ?_, fun z hm => ?_, fun l hl => ?_⟩
          · rw [List.map_map]
            have e3 : ws.map ((fun x : (Bool × Bool) × V => x.2) ∘ fun w => (w.1, w.2.2)) = us := w2
            rw [e3]
            exact hs
          · obtain ⟨w, hw, rfl⟩ := List.mem_map.mp hm
            exact (w3 w hw).2
          · rw [← m2, List.map_map]
            rw [← m1, List.map_map] at o
            refine ok_vl rp (RVs.maps (ws := isort (fun a b => ltB a.1 b.1) ws) fun w hw => ?_) o hl
            exact (w3 w ((isort_stb (swo_B (fun w : (Bool × Bool) × LV × V => w.1)) ws).perm.mem_iff.mp hw)).1
      · exact o.elim
    · exact o.elim
  · exact o.elim
theorem call_sortS {X : Cx} (S : Se) (hK : X.K = S.K := by rfl) : CallR X (.builtin "sorted") (rSortB S.K) := by
  rw [← hK]
  exact cr_sortB
end Rm
namespace Rm
open PySem PySem.Spec PyProof.Rows L2 RZ PpSet
/-! ### what the top has written, for the tables -/
def FnG (K : PySem.W.Frag) (x nm qual : Str) (st : Stmt) : Prop := ∃ f fd, Fun K nm qual st f fd ∧ PySem.W.nsIn K mainGlobals x = some (some (.ref f))
theorem FnG.go {K : PySem.W.Frag} {x nm qual : Str} {st : Stmt} {h : Heap} {mg : Str → Option Value} (F : FnG K x nm qual st) (X : K.In h) (G : h.Ns mainGlobals mg) : ∃ f fd, Fun K nm qual st f fd ∧ mg x = some (.ref f) := by
  obtain ⟨f, fd, F, a⟩ := F
  exact ⟨f, fd, F, PySem.W.mg_of X G a⟩
def MtG (K : PySem.W.Frag) (C : Addr) (nm qual : Str) (st : Stmt) : Prop := ∃ f fd, Fun K nm qual st f fd ∧ PySem.W.findIn K (.ref C) nm = some (some (.ref f)) ∧ PySem.W.isFn K (.ref f) = true ∧ PySem.W.keepIn K (.ref f) = true
structure ClG (K : PySem.W.Frag) (x : Str) (C : Addr) : Prop where
  g : PySem.W.nsIn K mainGlobals x = some (some (.ref C))
  cl : Cls K C
  mks : PySem.W.makesIn K C = true
  kp : PySem.W.keepIn K (.ref C) = true
  ha : PySem.W.findIn K (.ref C) "__class__" = some (some (.builtin "object.__class__"))
  hm : PySem.W.mroIn K C (.type "object") = some true
structure DictG (K : PySem.W.Frag) (w : World) (a : Addr) : Prop where
  ex : ∃ es n, K.lookup a = some ⟨.type "dict", none, .dict es n, #[]⟩ ∧ PySem.W.KeysLit w.params es.toList ∧ (a == sysModules) = false
theorem str_eq {x : Str} {l : List Nat} (h : x.cps.toList = l) : (⟨l.toArray⟩ : Str) = x := by
  subst h
  cases x
  simp
theorem DictG.kin {K : PySem.W.Frag} {w : World} {a : Addr} {x : Str} {r : Option Value} {b : Bool} (D : DictG K w a) (e : PySem.W.nsIn K a x = some r) (h : r.isSome = b) : KIn K w a x b := by
  obtain ⟨es, n, l, k, o⟩ := D.ex
  exact ⟨es, n, r, l, k, o, e, h⟩
theorem DictG.get {K : PySem.W.Frag} {w : World} {a : Addr} {x : Str} {u : Value} {v : V} (D : DictG K w a) (e : PySem.W.nsIn K a x = some (some u)) (r : RelV v u) : KDct K w a x v := by
  obtain ⟨es, n, l, k, o⟩ := D.ex
  exact ⟨es, n, u, l, k, e, r⟩
section
variable {S : Sg} {p a : Addr} {x y : Str} {k z : List Nat} {o : Option LV} {v : LV} {t : KT} {tk : Tok}
def KEnt (S : Sg) (p : Addr) (k : List Nat) (o : Option LV) : Prop := KIn S.K S.w p ⟨k.toArray⟩ o.isSome ∧ ∀ v, o = some v → ∃ x, KDct S.K S.w p ⟨k.toArray⟩ x ∧ ∀ F ι H, RV S F ι H v x
theorem kEnt_none (D : DictG S.K S.w p) (e : PySem.W.nsIn S.K p x = some none) (hx : x.cps.toList = k) : KEnt S p k none := ⟨by rw [str_eq hx]; exact D.kin e rfl, fun v h => by cases h⟩
theorem kEnt_str (D : DictG S.K S.w p) (he : ∃ tk, PySem.W.nsIn S.K p x = some (some (.str y tk))) (hx : x.cps.toList = k) (hy : y.cps.toList = z) : KEnt S p k (some (.str z)) := by
  obtain ⟨tk, e⟩ := he
  refine ⟨by rw [str_eq hx]; exact D.kin e rfl, fun v h => ?_⟩
  cases h
  refine ⟨.str y, by rw [str_eq hx]; exact D.get e ⟨_, rfl⟩, fun F ι H => ?_⟩
  rw [← str_eq hy]
  exact .str z
theorem kEnt_ref (D : DictG S.K S.w p) (e : PySem.W.nsIn S.K p x = some (some (.ref a))) (hx : x.cps.toList = k) (hz : ∀ F ι H, RV S F ι H v (.ref a)) : KEnt S p k (some v) := ⟨by rw [str_eq hx]; exact D.kin e rfl, fun u h => by
  cases h
  exact ⟨.ref a, by rw [str_eq hx]; exact D.get e rfl, hz⟩⟩
theorem kTab_nil : KTab S p [] := ⟨fun k o h => by simp at h, fun k v h => by simp at h⟩
theorem kTab_cons (e : KEnt S p k o) (r : KTab S p t) : KTab S p ((k, o) :: t) := by
  refine ⟨fun k' o' h => ?_, fun k' v h => ?_⟩
  · rw [List.lookup_cons] at h
    split at h
    · rename_i hk
      cases h
      rw [eq_of_beq hk]
      exact e.1
    · exact r.has _ _ h
  · rw [List.lookup_cons] at h
    split at h
    · rename_i hk
      cases h
      rw [eq_of_beq hk]
      exact e.2 v rfl
    · exact r.get _ _ h
end
/-- a written pair of texts -/
structure PairG (K : PySem.W.Frag) (p : Addr) (y z : Str) : Prop where
  ex : ∃ (dd : Option Addr) (t u : Tok) (n : Nat) (sl : Array (Option Value)), K.lookup p = some ⟨.type "tuple", dd, .seq #[.str y t, .str z u] n, sl⟩ ∧ t ≠ 0 ∧ u ≠ 0 ∧ t ≠ u
theorem PairG.kp {K : PySem.W.Frag} {p : Addr} {y z : Str} (h : PairG K p y z) (hyz : (y == z) = false) : KPair K p y z := by
  obtain ⟨dd, t, u, n, sl, l, a, b, c⟩ := h.ex
  exact ⟨dd, t, u, n, sl, l, a, b, c, hyz⟩
theorem sqt_ofG {K : PySem.W.Frag} {a : Addr} {dd : Option Addr} {its : Array Value} {n : Nat} {sl : Array (Option Value)} {xs : List V} (l : K.lookup a = some ⟨.type "tuple", dd, .seq its n, sl⟩) (hz : its.size ≤ 100) (r : Vals xs its.toList) (H : Hp) : SqT K H a xs :=
  .inr ⟨_, its, n, l, rfl, rfl, le_sz (by omega), r⟩
section
variable {S : Sg} {p a : Addr}
theorem rvs_strs {F : Addr → Prop} {ι : List Addr} {H : Hp} : ∀ (us : List Str), RVs S F ι H ((us.map fun u => u.cps.toList).map LV.str) (us.map V.str)
  | [] => .nil
  | u :: us => .cons (by
      have e : V.str u = V.str ⟨u.cps.toList.toArray⟩ := by rw [str_eq rfl]
      show RV S F ι H (.str u.cps.toList) (V.str u)
      rw [e]
      exact .str _) (rvs_strs us)
theorem rv_strs {us : List Str} {ls : List (List Nat)} (h : ∀ H, SqT S.K H a (us.map V.str)) (e : (us.map fun u => u.cps.toList) = ls) (F : Addr → Prop) (ι : List Addr) (H : Hp) : RV S F ι H (.tup (ls.map .str)) (.ref a) := by
  subst e
  exact .tup (h H) (rvs_strs us)
theorem PairG.rv {y z : Str} {l1 l2 : List Nat} (h : PairG S.K a y z) (e1 : y.cps.toList = l1) (e2 : z.cps.toList = l2) (F : Addr → Prop) (ι : List Addr) (H : Hp) : RV S F ι H (.tup [.str l1, .str l2]) (.ref a) := by
  obtain ⟨dd, t, u, n, sl, l, _⟩ := h.ex
  have s : SqT S.K H a [.str y, .str z] := sqt_ofG (xs := [.str y, .str z]) l (show (2 : Nat) ≤ 100 by decide) (.cons ⟨t, rfl⟩ (.cons ⟨u, rfl⟩ .nil)) H
  rw [← str_eq e1, ← str_eq e2] at s
  exact .tup s (.cons (.str _) (.cons (.str _) .nil))
def PairsG (K : PySem.W.Frag) (as : List Addr) (ps : List (List Nat × List Nat)) : Prop := as.length = ps.length ∧ ∀ (i : Nat) (a : Addr) (q : List Nat × List Nat), as[i]? = some a → ps[i]? = some q → KPair K a ⟨q.1.toArray⟩ ⟨q.2.toArray⟩ ∧ 1 ≤ q.1.length
theorem pairsG_nil {K : PySem.W.Frag} : PairsG K [] [] := ⟨rfl, fun i a q h => by simp at h⟩
theorem pairsG_cons {K : PySem.W.Frag} {as : List Addr} {ps : List (List Nat × List Nat)} {y z : Str} {l1 l2 : List Nat} (h : PairG K a y z) (ne : (y == z) = false) (e1 : y.cps.toList = l1) (e2 : z.cps.toList = l2) (n1 : 1 ≤ l1.length) (r : PairsG K as ps) : PairsG K (a :: as) ((l1, l2) :: ps) := by
  refine ⟨congrArg (· + 1) r.1, fun i b q hb hq => ?_⟩
  cases i with
  | zero =>
    cases hb; cases hq
    exact ⟨by rw [str_eq e1, str_eq e2]; exact h.kp ne, n1⟩
  | succ i => exact r.2 i b q (by simpa using hb) (by simpa using hq)
def REnt (S : Sg) (p : Addr) (k : List Nat) (ps : List (List Nat × List Nat)) : Prop := ∃ (tR : Addr) (as : List Addr), KDct S.K S.w p ⟨k.toArray⟩ (.ref tR) ∧ (∀ H, SqT S.K H tR (as.map V.ref)) ∧ as.length = ps.length ∧
    ∀ (i : Nat) (a : Addr) (q : List Nat × List Nat), as[i]? = some a → ps[i]? = some q → KPair S.K a ⟨q.1.toArray⟩ ⟨q.2.toArray⟩ ∧ 1 ≤ q.1.length
theorem rEnt {x : Str} {k : List Nat} {as : List Addr} {ps : List (List Nat × List Nat)} (D : DictG S.K S.w p) (e : PySem.W.nsIn S.K p x = some (some (.ref a))) (hx : x.cps.toList = k) (r : ∀ H, SqT S.K H a (as.map V.ref)) (q : PairsG S.K as ps) : REnt S p k ps := ⟨a, as, by rw [str_eq hx]; exact D.get e rfl, r, q.1, q.2⟩
theorem rTab_nil : RTab S p [] := ⟨fun k o h => by simp at h⟩
theorem rTab_cons {k : List Nat} {ps : List (List Nat × List Nat)} {t : RT} (e : REnt S p k ps) (r : RTab S p t) : RTab S p ((k, ps) :: t) := by
  refine ⟨fun k' o' h => ?_⟩
  rw [List.lookup_cons] at h
  split at h
  · rename_i hk
    cases h
    rw [eq_of_beq hk]
    exact e
  · exact r.ok _ _ h
end
section
variable {S : Se}
def FldP (S : Se) (f : Str) (C i : Nat) : Prop := Cls S.K (S.ct C) ∧ NoAttr S.K (S.ct C) f ∧ (S.nm C).idxOf f = i ∧ i < (S.nm C).length ∧ (S.nm C).length < 1000
theorem fldP {f : Str} {C i : Nat} {l : List Str} (c : Cls S.K (S.ct C)) (n : PySem.W.findIn S.K (.ref (S.ct C)) f = some none) (hn : S.nm C = l) (h : (l.idxOf f = i ∧ i < l.length ∧ l.length < 1000)) : FldP S f C i := by
  subst hn
  exact ⟨c, n, h⟩
theorem fld1 {f : Str} {C i : Nat} (h : FldP S f C i) : Fld S f [(C, i)] := ⟨fun D j e => by
  rw [List.lookup_cons] at e
  split at e
  · rename_i hk
    cases e
    rw [eq_of_beq hk]
    exact h
  · cases e⟩
theorem fld2 {f : Str} {C i : Nat} {t : List (Nat × Nat)} (h : FldP S f C i) (r : Fld S f t) : Fld S f ((C, i) :: t) := ⟨fun D j e => by
  rw [List.lookup_cons] at e
  split at e
  · rename_i hk
    cases e
    rw [eq_of_beq hk]
    exact h
  · exact r.ok _ _ e⟩
theorem isT2 {u : Value} {C D : Nat} {b c : Bool} (oC : ObjC S C) (oD : ObjC S D) (kC : PySem.W.kitOne S.K (.ref (S.ct C)) u = some b) (kD : PySem.W.kitOne S.K (.ref (S.ct D)) u = some c) : IsT S u (tbOwn [(C, b), (D, c)] none) := isT_own fun E d e => by
  rw [List.lookup_cons] at e
  split at e
  · rename_i hk
    cases e
    rw [eq_of_beq hk]
    exact ⟨oC, kC⟩
  · rw [List.lookup_cons] at e
    split at e
    · rename_i hk
      cases e
      rw [eq_of_beq hk]
      exact ⟨oD, kD⟩
    · cases e
/-- what is asked of a law's def -/
def spLawR (K : PySem.W.Frag) : Sp := fun vs H Q _ => ∃ (a : Addr) (ns : List Int), vs = [.ref a] ∧ SqL K H a (ns.map V.int) ∧ ns.length ≤ 63 ∧ Only H ∧ ∀ H', Q (.bl true) H'
theorem rvs_ints {S : Sg} {F : Addr → Prop} {ι : List Addr} {H : Hp} : ∀ ns : List Int, RVs S F ι H (ns.map LV.int) (ns.map V.int)
  | [] => .nil
  | _ :: ns => .cons (.int _) (rvs_ints ns)
theorem law_imp {m : MF} (hm : ∀ ns : List Int, ns.length ≤ 63 → ∃ h', m [.fz (ns.map .int)] [] = .ok (.bl true) h') (vs : List V) (H : Hp) (Q : VK) (E : XK) (h : spLawR S.K vs H Q E) : spM S 1 m vs H Q E := by
  obtain ⟨a, ns, rfl, hS, hl, hO, hQ⟩ := h
  obtain ⟨h', e⟩ := hm ns hl
  refine ⟨rfl, fun _ => False, [], [], [.fz (ns.map .int)], ⟨rfl, .nil, fun _ h => (nomatch h), fun _ h => False.elim h, fun n o a h => by simp at h⟩, .cons (.fz ?_ (rvs_ints ns)) .nil, ?_⟩
  · rcases hS with (z | ⟨o, z⟩) | z
    · rcases hO a with y | ⟨o, xs, y⟩
      · rw [z] at y; cases y
      · rw [z] at y; cases y
    · exact .inl ⟨o, z⟩
    · exact .inr z
  · rw [e]
    intro F' ι' H' x _ _ z
    cases z
    exact hQ _
end
end Rm
namespace Rm
open PySem PySem.Spec PyProof.Rows L2 RZ PpSet
/-! ### the facts of the top, read off the head -/
abbrev dfn (x : Str) (m : Option Str) (nm qual : Str) (st : Stmt) : He.DefD := ⟨(x, m), nm, qual, defArgs st, defBody st, defScope st, [], []⟩
theorem fun_ofD {K : PySem.W.Frag} {x qual : Str} {st : Stmt} {f : Addr} {fd : FuncData} (F : FunD K x qual (defArgs st) (defBody st) (defScope st) [] [] f fd) : Fun K x qual st f fd := by
  obtain ⟨oc, od, dV, kV, doc, pm, an, cdv, ct, osl, e, l, c, hd, _⟩ := F.ex
  rcases hd with ⟨_, e2⟩ | ⟨e2, _⟩
  · subst e2
    exact ⟨⟨oc, od, kV, doc, pm, an, cdv, ct, osl, e, l, c⟩, F.kp⟩
  · exact absurd rfl e2
section
variable {fa : List He.Fa} {fn : List He.DefD} {K : PySem.W.Frag} {x nm qual : Str} {st : Stmt}
theorem fnG_of (c : He.SaysD fa fn K) (i j : Nat) (hd : fn[i]? = some (dfn x none nm qual st)) (hf : fa[j]? = some (He.Fa.glo x)) : FnG K x nm qual st := by
  obtain ⟨fd, F⟩ := c.def_ i hd
  exact ⟨_, fd, fun_ofD F, He.eqO_ok (c.fact j hf)⟩
theorem mtG_of (c : He.SaysD fa fn K) (i j : Nat) (hd : fn[i]? = some (dfn x (some nm) nm qual st)) (hf : fa[j]? = some (He.Fa.meth x nm)) : MtG K (He.ga K x) nm qual st := by
  obtain ⟨fd, F⟩ := c.def_ i hd
  have m := He.meth_ok (c.fact j hf)
  exact ⟨_, fd, fun_ofD F, m.at_, m.fn, m.kp⟩
theorem clG_of (c : He.SaysD fa fn K) (i j k : Nat) (hg : fa[i]? = some (He.Fa.glo x)) (hc : fa[j]? = some (He.Fa.cls x)) (hm : fa[k]? = some (He.Fa.mkr x)) (e1 : He.eqO (PySem.W.findIn K (.ref (He.ga K x)) "__class__") (some (some (.builtin "object.__class__"))) = true)
    (e2 : decide (PySem.W.mroIn K (He.ga K x) (.type "object") = some true) = true) : ClG K x (He.ga K x) :=
  ⟨He.eqO_ok (c.fact i hg), He.cls_ok (c.fact j hc), (He.mkr_ok (c.fact k hm)).makes, (He.mkr_ok (c.fact k hm)).kp, He.eqO_ok e1, of_decide_eq_true e2⟩
end
def seqB (K : PySem.W.Frag) (a : Addr) (vs : List V) : Bool := match K.lookup a with
  | some ⟨.type c, _, .seq its _, _⟩ => decide (c = "tuple") && (decide (its.size ≤ 100) && He.relAll vs its.toList)
  | _ => false
theorem seqB_ok {K : PySem.W.Frag} {a : Addr} {vs : List V} (h : seqB K a vs = true) (H : Hp) : SqT K H a vs := by
  unfold seqB at h
  split at h
  · rename_i c od its n sl q
    obtain ⟨h1, h2⟩ := He.ba h
    obtain ⟨h3, h4⟩ := He.ba h2
    have h3 := of_decide_eq_true h3
    exact .inr ⟨_, its, n, q, congrArg Value.type (of_decide_eq_true h1), rfl, le_sz (by omega), He.relAll_ok h4⟩
  · cases h
def pairB (K : PySem.W.Frag) (a : Addr) (y z : Str) : Bool := match K.lookup a with
  | some ⟨.type c, _, .seq its _, _⟩ => decide (c = "tuple") && (match its.toList with
    | [.str y' t, .str z' u] => decide (y' = y) && (decide (z' = z) && (decide (t ≠ 0) && (decide (u ≠ 0) && decide (t ≠ u))))
    | _ => false)
  | _ => false
theorem pairB_ok {K : PySem.W.Frag} {a : Addr} {y z : Str} (h : pairB K a y z = true) : PairG K a y z := by
  unfold pairB at h
  split at h
  · rename_i c od its n sl q
    obtain ⟨h1, h2⟩ := He.ba h
    split at h2
    · rename_i y' t z' u e
      obtain ⟨h3, h2⟩ := He.ba h2
      obtain ⟨h4, h2⟩ := He.ba h2
      obtain ⟨h5, h2⟩ := He.ba h2
      obtain ⟨h6, h7⟩ := He.ba h2
      have h1 := of_decide_eq_true h1
      have h3 := of_decide_eq_true h3
      have h4 := of_decide_eq_true h4
      subst h1 h3 h4
      obtain ⟨l⟩ := its
      have e : l = [.str y' t, .str z' u] := e
      subst e
      exact ⟨od, t, u, n, sl, q, of_decide_eq_true h5, of_decide_eq_true h6, of_decide_eq_true h7⟩
    · cases h2
  · cases h
/-- the value at a key, the item of a tuple -/
def va (K : PySem.W.Frag) (p : Addr) (k : Str) : Addr := match PySem.W.nsIn K p k with
  | some (some (.ref a)) => a
  | _ => 0
def ia (K : PySem.W.Frag) (t : Addr) (i : Nat) : Addr := match K.lookup t with
  | some ⟨_, _, .seq its _, _⟩ => (match its.toList[i]? with
    | some (.ref a) => a
    | _ => 0)
  | _ => 0
def nsB (K : PySem.W.Frag) (p : Addr) (k y : Str) : Bool := match PySem.W.nsIn K p k with
  | some (some (.str z _)) => decide (z = y)
  | _ => false
theorem nsB_ok {K : PySem.W.Frag} {p : Addr} {k y : Str} (h : nsB K p k y = true) : ∃ tk, PySem.W.nsIn K p k = some (some (.str y tk)) := by
  unfold nsB at h
  split at h
  · rename_i z t q
    have h := of_decide_eq_true h
    subst h
    exact ⟨t, q⟩
  · cases h
theorem dictG_of {K : PySem.W.Frag} {w : World} {a : Addr} (h : ∃ es n, KDict K w a es n) : DictG K w a := by
  obtain ⟨es, n, d⟩ := h
  exact ⟨es, n, d.at_, d.lit, d.low⟩
/-- the objects at told addresses; what is told of them -/
def obsA (as : List Addr) (fa : List He.Fa) (fn : List He.DefD) (ts : List He.Tab) (ex : PySem.W.Frag → Bool) (g : Addr → Option Obj) : He.AlX := (He.obsT fa fn ts (He.frT g as), ex (He.frT g as))
theorem saysA_of {as : List Addr} {fa : List He.Fa} {fn : List He.DefD} {ts : List He.Tab} {ex : PySem.W.Frag → Bool} {w : World} {h : Heap} (e : obsA as fa fn ts ex h.get? = He.valX fn ts w) : He.SaysX fa fn ts [] ex w h (He.frT h.get? as) := by
  have e1 : He.obsT fa fn ts (He.frT h.get? as) = He.valT fn ts w := congrArg (fun z : He.AlX => z.1) e
  have e2 : ex (He.frT h.get? as) = true := congrArg (fun z : He.AlX => z.2) e
  exact { t := e1, more := e2, hd := fun p hp => by simp at hp, out := fun p hp => by simp at hp, empty := fun p hp => by simp at hp }
def hookA (as : List Addr) (fa : List He.Fa) (fn : List He.DefD) (ts : List He.Tab) (ex : PySem.W.Frag → Bool) : PySem.W.Hook where
  α := He.AlX
  obs := fun s => obsA as fa fn ts ex s.heap.get?
  val := fun w => He.valX fn ts w
  says := fun w h => ∃ K : PySem.W.Frag, K.In h ∧ He.SaysX fa fn ts [] ex w h K
  of := fun _ _ e => ⟨_, He.frT_in, saysA_of e⟩
  keeps := fun _ _ _ ⟨K, hK, c⟩ k => ⟨K, PySem.W.Frag.In.keeps hK k, { t := c.t, more := c.more, hd := fun p hp => by simp at hp, out := fun p hp => by simp at hp, empty := fun p hp => by simp at hp }⟩
theorem obsA_eq {as : List Addr} {fa : List He.Fa} {fn : List He.DefD} {ts : List He.Tab} {ex : PySem.W.Frag → Bool} {g : Addr → Option Obj} {s : Shared} (h : ∀ a, g a = s.heap.get? a) : obsA as fa fn ts ex g = (hookA as fa fn ts ex).obs s := by
  have e : g = s.heap.get? := funext h
  rw [e] <;> rfl
/-- one of many -/
theorem all_at {bs : List Bool} (h : bs.all id = true) (i : Nat) {b : Bool} (e : bs[i]? = some b) : b = true := List.all_eq_true.mp h b (List.mem_of_getElem? e)
end Rm
namespace Rm
open PySem PySem.Spec PyProof.Rows L2 RZ PpSet
/-! ### a tuple in a list of tuples -/
theorem hu65 {k : Nat} {A : Around} (r : Room k A) : A.units + 65 < cLine := by have := r.un; omega
def fInD (neg : Bool) (v w : LV) (h : List LO) : R LV := match LV.dat h 20000 v, LV.dat h 20000 w with
  | some d, some (.list ds) => if SeqAt.shaped d && SeqAt.shaped (.list ds) then .ok (.bl (if neg then !(ds.any fun z => PyData.eqv z d) else ds.any fun z => PyData.eqv z d)) h else .bad
  | _, _ => .bad
section
variable {S : Se} {E : XK}
theorem vo_inD : VO S E (rInD S.K) (fInD false) := fun F ι h H x y v w Q rp zx zy o => by
  unfold fInD at o
  split at o
  · rename_i d ds e1 e2
    split at o
    · rename_i hs
      rw [Bool.and_eq_true] at hs
      exact ⟨d, ds, dat_of rp _ _ _ _ e1 zx, dat_of rp _ _ _ _ e2 zy, hs.1, hs.2, Ok.now (rel := RV S.toSg) o rp (.bl _)⟩
    · exact o.elim
  · exact o.elim
theorem vo_niD : VO S E (rNotInD S.K) (fInD true) := fun F ι h H x y v w Q rp zx zy o => by
  unfold fInD at o
  split at o
  · rename_i d ds e1 e2
    split at o
    · rename_i hs
      rw [Bool.and_eq_true] at hs
      exact ⟨d, ds, dat_of rp _ _ _ _ e1 zx, dat_of rp _ _ _ _ e2 zy, hs.1, hs.2, Ok.now (rel := RV S.toSg) o rp (.bl _)⟩
    · exact o.elim
  · exact o.elim
def isFl (v w : LV) (h : List LO) : Bool := isDct w h || flatL v
def fInY (neg : Bool) : LV → LV → List LO → R LV := fun v w h => if isFl v w h = true then fInX neg v w h else fInD neg v w h
def rInY (P : Program) (w : World) (K : PySem.W.Frag) : R2 := fun x y H Q => rInX P w K x y H Q ∨ rInD K x y H Q
def rNiY (P : Program) (w : World) (K : PySem.W.Frag) : R2 := fun x y H Q => rNiX P w K x y H Q ∨ rNotInD K x y H Q
theorem vo_inY : VO S E (rInY S.P S.w S.K) (fInY false) := VO.orH isFl vo_inX vo_inD
theorem vo_niY : VO S E (rNiY S.P S.w S.K) (fInY true) := VO.orH isFl vo_niX vo_niD
theorem op_inYS {X : Cx} (S : Se) (hu : X.A.units + 65 < cLine) (hK : X.K = S.K := by rfl) (hw : X.w = S.w := by rfl) (hP : X.prog = S.P := by rfl) : OpR X (compareOp .In) (rInY S.P S.w S.K) := by
  rw [← hK, ← hw, ← hP]
  exact (op_inX (by omega)).or (op_inD hu)
theorem op_niYS {X : Cx} (S : Se) (hu : X.A.units + 65 < cLine) (hK : X.K = S.K := by rfl) (hw : X.w = S.w := by rfl) (hP : X.prog = S.P := by rfl) : OpR X (compareOp .NotIn) (rNiY S.P S.w S.K) := by
  rw [← hK, ← hw, ← hP]
  exact (op_niX (by omega)).or (op_notInD hu)
def mPar3 (i j l : Nat) (ma : MA) : MS := fun ρ h => (ma ρ h).bind fun vs h1 => match vs with
  | [u, v, w] => .ok (.nx, ((ρ.set i (some u)).set j (some v)).set l (some w)) h1
  | _ => .bad
theorem ss_par3 {i j l : Nat} {tA : TA} {mA : MA} (ha : SA S E tA mA) : SS S E (tPar3 i j l tA) (mPar3 i j l mA) := fun F ι h H ρ σ D rp rs o =>
  ha F ι h H ρ σ _ rp rs (o.seq fun F1 ι1 H1 h1 vs xs _ e1 rp1 z o1 => by
    split at o1
    · rename_i u v w
      cases z with
      | cons a b =>
        cases b with
        | cons c d =>
          cases d with
          | cons e f =>
            cases f
            exact ⟨_, _, _, rfl, Ok.now (rel := relF S) (x := FV.nx _) o1 rp1 ((((rs.ext rp e1).set a i).set c j).set e l)⟩
    · exact o1.elim)
end
end Rm
namespace Rm
open PySem PySem.Spec PyProof.Rows L2 RZ PpSet
theorem hu1 {k : Nat} {A : Around} (r : Room k A) : A.units + 1 < cLine := by have := r.un; omega
/-! ### {text: value, ..}[text] -/
def lkS : List (List Nat) → List LV → List Nat → Option LV
  | k :: ks, v :: vs, t => match lkS ks vs t with
    | some w => some w
    | none => if k = t then some v else none
  | _, _, _ => none
def mDIx (kc : List (List Nat)) (mA : MA) (mi : ME) : ME := fun ρ h => (mA ρ h).safe.bind fun vs h1 => (mi ρ h1).bind fun i h2 => match i with
  | .str t => match lkS kc vs t with
    | some v => .ok v h2
    | none => .bad
  | _ => .bad
abbrev zwK (ks : List Str) (xs : List V) : List (Key × V) := List.zipWith (fun k x => ((.inr k : Key), x)) ks xs
def PrS (S : Se) (E : XK) (trs : List (TE × TE)) (ks : List Str) (mA : MA) : Prop := ∀ F ι h H ρ σ Q, Rep S.toSg F ι h H → RS S F ι H ρ σ → Ok (RVs S.toSg) S E F ι H (mA ρ h) (fun xs H' => Q ((zwK ks xs).map fun kv => (kV kv.1, kv.2)) H') → tPairs trs σ H Q
section
variable {S : Se} {E : XK} {ti tv : TE} {mi mv : ME} {mA : MA} {trs : List (TE × TE)} {ks : List Str}
theorem pr_nil : PrS S E [] [] mNil := fun F ι h H ρ σ Q rp rs o => Ok.now (rel := RVs S.toSg) (v := []) (x := []) o rp .nil
theorem pr_cons {k : Str} (hv : SE S E tv mv) (hr : PrS S E trs ks mA) : PrS S E ((tC (.str k), tv) :: trs) (k :: ks) (mCons mv mA) := fun F ι h H ρ σ Q rp rs o =>
  hv F ι h H ρ σ (fun y H2 => tPairs trs σ H2 fun ps H3 => Q ((.str k, y) :: ps) H3) rp rs (o.seq fun F1 ι1 H1 h1 v y _ e1 rp1 zv o1 => hr F1 ι1 h1 H1 ρ σ _ rp1 (rs.ext rp e1) (o1.seq fun F2 ι2 H2 h2 vs ys _ e2 rp2 zs o2 => Ok.now (rel := RVs S.toSg) (v := v :: vs) (x := y :: ys) o2 rp2 (.cons (zv.ext rp1 e2) zs)))
theorem lk_none {s : Str} : ∀ {ks : List Str} {vs : List LV} {xs : List V} {F : Addr → Prop} {ι : List Addr} {H : Hp}, RVs S.toSg F ι H vs xs → lkS (ks.map fun k => k.cps.toList) vs s.cps.toList = none → ∀ acc, valV (mergeK acc (zwK ks xs)) (.inr s) = valV acc (.inr s)
  | [], _, _, _, _, _, _, _, acc => rfl
  | k :: ks, _, _, _, _, _, .nil, _, acc => rfl
  | k :: ks, _, _, _, _, _, .cons (xs := vs) (vs := xs) z zs, e, acc => by
    rw [List.map_cons] at e
    unfold lkS at e
    split at e
    · cases e
    · rename_i e1
      split at e
      · cases e
      · rename_i n
        show valV (mergeK (putK acc (.inr k) _) (zwK ks xs)) (.inr s) = _
        rw [lk_none zs e1, valV_put, if_neg]
        intro q
        cases q
        exact n rfl
theorem lk_some {s : Str} {v : LV} : ∀ {ks : List Str} {vs : List LV} {xs : List V} {F : Addr → Prop} {ι : List Addr} {H : Hp}, RVs S.toSg F ι H vs xs → lkS (ks.map fun k => k.cps.toList) vs s.cps.toList = some v → ∃ x, RV S.toSg F ι H v x ∧ ∀ acc, valV (mergeK acc (zwK ks xs)) (.inr s) = some x
  | [], _, _, _, _, _, _, e => by rw [List.map_nil] at e; unfold lkS at e; cases e
  | k :: ks, _, _, _, _, _, .nil, e => by rw [List.map_cons] at e; unfold lkS at e; cases e
  | k :: ks, _, _, _, _, _, .cons (xs := vs) (vs := xs) (v := x) z zs, e => by
    rw [List.map_cons] at e
    unfold lkS at e
    split at e
    · rename_i w e1
      cases e
      obtain ⟨x', z', q⟩ := lk_some zs e1
      exact ⟨x', z', fun acc => q _⟩
    · rename_i e1
      split at e
      · rename_i c
        cases e
        refine ⟨x, z, fun acc => ?_⟩
        show valV (mergeK (putK acc (.inr k) x) (zwK ks xs)) (.inr s) = _
        rw [lk_none zs e1, valV_put, if_pos]
        have : s = k := by
          cases s
          cases k
          congr 1
          exact (Array.toList_inj.mp c).symm
        rw [this]
      · cases e
theorem se_dix (kc : List (List Nat)) (hp : PrS S E0 trs ks mA) (hi : SE S E ti mi) (hk : (ks.map fun k => k.cps.toList) = kc) (hl : ks.length ≤ 15) : SE S E (tDGet (tDisp trs) ti) (mDIx kc mA mi) := fun F ι h H ρ σ Q rp rs o p hpn => by
  subst hk
  obtain ⟨ex0, rp0⟩ := apart (S := S) (u := .dK []) rp hpn
  have np : p ∉ ι := fun m => rp.dom p (rp.inF p m) hpn
  refine hp _ ι h _ ρ σ _ rp0 (rs.ext rp ex0) (Ok.seqB (rel := RVs S.toSg) o fun F1 ι1 H1 h1 vs xs _ e1 rp1 zs o1 => ?_)
  obtain ⟨s1, s2⟩ := stays e1 np (by rw [upd_same])
  refine ⟨s1, zwK ks xs, rfl, by rw [List.length_zipWith]; omega, ?_⟩
  obtain ⟨j1, j2, j3⟩ := join (S := S) (v := .dK (mergeK [] (zwK ks xs))) hpn (ex0.trans e1) rp1 rp.dom (e1.more _ (.inr rfl)) s2 s1 (fun _ z => nomatch z) (fun _ _ z => nomatch z)
  refine hi _ ι1 h1 _ ρ σ _ j2 (rs.ext rp j1) (Ok.seq (rel := RV S.toSg) (o1.shift j1) fun F3 ι3 H3 h3 i y _ e3 rp3 zi o3 => ?_)
  split at o3
  · rename_i t _
    cases zi
    split at o3
    · rename_i v e
      obtain ⟨x, z, q⟩ := lk_some (s := ⟨t.toArray⟩) (zs.fwd j3 _ _) (by simpa using e)
      refine ⟨p, x, rfl, ?_, Ok.now (rel := RV S.toSg) o3 rp3 (z.ext j2 e3)⟩
      rw [← q []]
      exact DGet.k (k := .inr ⟨t.toArray⟩) (e3.keep p _ s2 upd_same)
    · exact o3.elim
  · exact o3.elim
end
/-! ### text.split(text) -/
def fSplit (v w : LV) (h : List LO) : R LV := match v, w with
  | .str x, .str y => if (y.length == 0) = false ∧ x.length ≤ 60000 then .ok (.vl ((Txt.split ⟨x.toArray⟩ ⟨y.toArray⟩).map fun u => LV.str u.cps.toList)) h else .bad
  | _, _ => .bad
def rSplitT : V → List V → Hp → VK → Prop := fun x xs H Q => ∃ a b, x = .str a ∧ xs = [.str b] ∧ (b.length == 0) = false ∧ a.length + 2 ≤ sizeLine ∧ rNewStrs (Txt.split a b) H Q
theorem mt_splitT {X : Cx} : MtR X "str.split" rSplitT := mt_split
section
variable {S : Se} {E : XK}
theorem vo_split : VO S E (fun x y H Q => rSplitT x [y] H Q) fSplit := fun F ι h H x y v w Q rp zx zy o => by
  unfold fSplit at o
  split at o
  · cases zx; cases zy
    split at o
    · rename_i x y c
      refine ⟨_, _, rfl, rfl, c.1, ?_, fun p hp => ok_vl rp ?_ o hp⟩
      · have e : (60002 : Nat) ≤ sizeLine := by decide
        exact Nat.le_trans (Nat.add_le_add_right c.2 2) e
      · have := rvs_strs (S := S.toSg) (F := F) (ι := ι) (H := H) (Txt.split ⟨x.toArray⟩ ⟨y.toArray⟩)
        rw [List.map_map] at this
        exact this
    · exact o.elim
  · exact o.elim
end
end Rm
namespace Rm
open PySem PySem.Spec PyProof.Rows L2 RZ PpSet
/-! ### dict([(key, value), ..]), the keys tuples -/
inductive Folds : List (NestedKey × Addr) → List V → List (NestedKey × Addr × V) → List (NestedKey × Addr) → List V → Prop
  | nil {kas : List (NestedKey × Addr)} {xs : List V} : Folds kas xs [] kas xs
  | new {kas kas' : List (NestedKey × Addr)} {xs xs' : List V} {k : NestedKey} {q : Addr} {v : V} {ps : List (NestedKey × Addr × V)} : k ∉ kas.map (·.1) → Folds (kas ++ [(k, q)]) (xs ++ [v]) ps kas' xs' → Folds kas xs ((k, q, v) :: ps) kas' xs'
  | old {kas kas' : List (NestedKey × Addr)} {xs xs' : List V} {k : NestedKey} {q : Addr} {v : V} {j : Nat} {ps : List (NestedKey × Addr × V)} : (kas.map (·.1))[j]? = some k → Folds kas (xs.set j v) ps kas' xs' → Folds kas xs ((k, q, v) :: ps) kas' xs'
abbrev PV : List (NestedKey × Addr × V) → List (NestedKey × Addr × Value) → Prop := Paired fun x y => x.1 = y.1 ∧ x.2.1 = y.2.1 ∧ RelV x.2.2 y.2.2
theorem folds_core {kas kas' : List (NestedKey × Addr)} {xs xs' : List V} {ps : List (NestedKey × Addr × V)} (f : Folds kas xs ps kas' xs') : ∀ {us : List Value} {ps' : List (NestedKey × Addr × Value)}, (kas.map (·.1)).Nodup → kas.length = us.length → Vals xs us → PV ps ps' →
    ∃ us', Vals xs' us' ∧ storedAllH (entL kas us) ps' = entL kas' us' := by
  induction f with
  | nil => intro us ps' _ _ hv p; cases p; exact ⟨us, hv, rfl⟩
  | @new kas kas' xs xs' k q v ps hk f ih =>
    intro us ps' hn hl hv p
    cases p with
    | @cons _ y _ l₂ h t =>
      obtain ⟨k', q', u⟩ := y
      obtain ⟨rfl, rfl, ru⟩ := h
      have hno : atKey (entL kas us) k = none := by
        have z := at_entL hl k
        rw [decide_eq_false hk] at z
        cases e : atKey (entL kas us) k with
        | none => rfl
        | some p => rw [e] at z; cases z
      obtain ⟨us', h1, h2⟩ := ih (us := us ++ [u]) (by
        rw [List.map_append, List.nodup_append]
        refine ⟨hn, by simp, fun a ha b hb => ?_⟩
        have e : b = k := by simpa using hb
        rw [e]
        rintro rfl
        exact hk ha) (by rw [List.length_append, List.length_append, hl]; rfl) (hv.append (.cons ru .nil)) t
      refine ⟨us', h1, ?_⟩
      show storedAllH (storedH (entL kas us) k q u) l₂ = _
      rw [storedH_new hno, show entL kas us ++ [(k, q, u)] = entL (kas ++ [(k, q)]) (us ++ [u]) from (entL_app (kbs := [(k, q)]) (ws := [u]) hl).symm]
      exact h2
  | @old kas kas' xs xs' k q v j ps hj f ih =>
    intro us ps' hn hl hv p
    cases p with
    | @cons _ y _ l₂ h t =>
      obtain ⟨k', q', u⟩ := y
      obtain ⟨rfl, rfl, ru⟩ := h
      obtain ⟨⟨k2, q2⟩, hkq, e2⟩ : ∃ p, kas[j]? = some p ∧ p.1 = k := by
        rw [List.getElem?_map] at hj
        cases e : kas[j]? with
        | none => rw [e] at hj; cases hj
        | some p => rw [e] at hj; exact ⟨p, rfl, Option.some.inj hj⟩
      obtain rfl : k2 = k := e2
      have hj2 : j < us.length := by rw [← hl]; exact (List.getElem?_eq_some_iff.mp hkq).1
      obtain ⟨us', h1, h2⟩ := ih (us := us.set j u) hn (by rw [List.length_set]; exact hl) (Vals.set ru j hv) t
      refine ⟨us', h1, ?_⟩
      show storedAllH (storedH (entL kas us) k2 q u) l₂ = _
      rw [storedH_old (at_entI hl hn hkq (List.getElem?_eq_getElem hj2)), putAt_ent hn hl hj]
      exact h2
def rDictN (P : Program) (w : World) (K : PySem.W.Frag) : List V → Hp → VK → Prop := fun vs H Q => ∃ (a : Addr) (ps : List (Addr × NestedKey × Addr × V)) (kas : List (NestedKey × Addr)) (xs : List V), vs = [.ref a] ∧ SqL K H a ((ps.map (·.1)).map V.ref) ∧
  (∀ p ∈ ps, SqT K H p.1 [.ref p.2.2.1, p.2.2.2] ∧ Nk K H (.ref p.2.2.1) p.2.1 ∧ p.2.1.depth ≤ 8) ∧ Folds [] [] (ps.map (·.2)) kas xs ∧ ∀ d o, H d = none → (d == sysModules) = false → Q (.ref d) (upd H d (.ext (dvF P w d o kas xs)))
section
variable {X : Cx}
theorem pairsN_of {pins : List (Addr × Obj)} {σ : L2.St} {H : Hp} {s : Shared} (I : Inv X pins σ H s) : ∀ {ps : List (Addr × NestedKey × Addr × V)}, (∀ p ∈ ps, SqT X.K H p.1 [.ref p.2.2.1, p.2.2.2] ∧ Nk X.K H (.ref p.2.2.1) p.2.1 ∧ p.2.1.depth ≤ 8) →
    ∃ ps' : List (NestedKey × Addr × Value), PV (ps.map (·.2)) ps' ∧ ps'.length = ps.length ∧ (∀ x ∈ ps', (tkN X.prog X.w).is s.heap x.1 x.2.1) ∧ ∀ (j : Nat) (x : NestedKey × Addr × Value), ps'[j]? = some x → ∃ b : Addr, (ps.map (·.1))[j]? = some b ∧ IsTup s.heap b #[.ref x.2.1, x.2.2]
  | [], _ => ⟨[], .nil, rfl, (fun _ m => nomatch m), (fun j x e => by simp at e)⟩
  | (b, k, q, v) :: ps, h => by
    obtain ⟨ps', r, hl, hk, hp⟩ := pairsN_of I fun p m => h p (List.mem_cons_of_mem _ m)
    obtain ⟨h1, h2, h3⟩ := h _ (List.mem_cons_self ..)
    obtain ⟨its, rv, ht, _⟩ := I.tuple h1
    obtain ⟨u, y, ei, ru, ry⟩ := vals2 rv
    subst ei
    cases ru
    refine ⟨(k, q, y) :: ps', .cons ⟨rfl, rfl, ry⟩ r, by rw [List.length_cons, List.length_cons, hl], fun x m => ?_, fun j x e => ?_⟩
    · rcases List.mem_cons.mp m with rfl | m
      · exact key_is I h2 h3
      · exact hk x m
    · cases j with
      | zero =>
        have e' : (k, q, y) = x := Option.some.inj e
        subst e'
        exact ⟨b, rfl, ht⟩
      | succ j =>
        obtain ⟨b', e1, e2⟩ := hp j x (by simpa using e)
        exact ⟨b', by simpa using e1, e2⟩
theorem call_dictN (hc : X.calm = true) (hu : X.A.units + 65 < cLine) : CallR X (.type "dict") (rDictN X.prog X.w X.K) := by
  rintro pins s σ H xs us Q I r ⟨a, ps, kas, xs', rfl, hq, hp, fo, q⟩
  obtain ⟨u, rfl, rx⟩ := vals1 r
  cases rx
  obtain ⟨its, rv, pl, hz⟩ := I.list hq
  have ei := refs_at rv
  subst ei
  rw [List.length_map, List.length_map] at hz
  obtain ⟨ps', rel, hl, hk, hpr⟩ := pairsN_of I hp
  obtain ⟨o, n, ho, hcl, hd, hdat⟩ := pl
  obtain ⟨us', hv', e'⟩ := folds_core fo (us := []) (by simp) rfl .nil rel
  refine call_dict_pairsH (knd := tkN X.prog X.w) (ps := ps') (PairArg.list a _ (fun j => ((ps.map (·.1))[j]?).getD 0) (ps'.map fun x => (Value.ref x.2.1, x.2.2))) (I.ok.hd hc) (show X.A.units + 1 + 1 + 8 < cLine by omega) ⟨⟨o, n, ho, hcl, hd, hdat⟩, ⟨by simp [hl], fun j k v e => ?_⟩⟩ ⟨by simp, fun i key v e => ?_⟩ (fun h' hh x m => ?_) (by rw [List.length_map, hl]; exact hz) fun h' tk hd' hh => ?_
  · rw [List.getElem?_map] at e
    cases hx : ps'[j]? with
    | none => rw [hx] at e; cases e
    | some x =>
      rw [hx] at e
      cases e
      obtain ⟨b, e1, e2⟩ := hpr j x hx
      refine ⟨?_, .inl ?_⟩
      · have e3 : ((ps.map (·.1)).map Value.ref).toArray[j]? = some (.ref b) := by rw [List.getElem?_toArray, List.getElem?_map, e1]; rfl
        simp only [e1, Option.getD_some]
        exact e3
      · simp only [e1, Option.getD_some]
        exact e2
  · have e2 : (ps'.map fun x => (Value.ref x.2.1, x.2.2))[i]? = some (key, v) := e
    rw [List.getElem?_map] at e2
    cases hx : ps'[i]? with
    | none => rw [hx] at e2; cases e2
    | some x =>
      rw [hx] at e2
      cases e2
      exact ⟨x.1, x.2.1, rfl, rfl⟩
  · exact nestedKind_stays.stays (fun b o vs n e _ => hh b o (Nat.ne_of_lt (Heap.lt_size e)) (by simp) e) (hk x m)
  · have hm : (s.heap.objs.size == sysModules) = false := beq_eq_false_iff_ne.mpr (Nat.ne_of_gt I.big)
    rw [show storedAllH [] ps' = entL kas us' from e'] at hd'
    obtain ⟨o', es', ep', ho', hx', hdt', he', _, _⟩ := hd'
    have f : dvF X.prog X.w s.heap.objs.size o' kas xs' h' := ⟨ho', es', ep', us', hx', hdt', hv', he'⟩
    exact ⟨.ref s.heap.objs.size, _, I.laid (t' := tk) (fun b o e => hh b o (by simp) e) (Nat.le_refl _) (dvF_obj f), rfl, q _ o' (I.hok.fresh (Nat.le_refl _)) hm⟩
end
/-- the pairs, one after the other -/
def foldL (ks vs : List LV) : List LV → Option (List LV × List LV)
  | [] => some (ks, vs)
  | .tup [.tup ts, v] :: ps => if kfit (.tup ts) 8 = true then (if kix (.tup ts) ks < ks.length then foldL ks (vs.set (kix (.tup ts) ks) v) ps else foldL (ks ++ [.tup ts]) (vs ++ [v]) ps) else none
  | _ :: _ => none
def fDictN (vs : List LV) (h : List LO) : R LV := match vs with
  | [.vl ps] => if ps.length ≤ 60000 then (match foldL [] [] ps with
    | some (ks, ws) => .ok (.vd ks ws) h
    | none => .bad) else .bad
  | _ => .bad
section
variable {S : Se} {E : XK} {F : Addr → Prop} {ι : List Addr} {H : Hp}
theorem fold_ok : ∀ {ls : List LV} {us : List V} {ks vs ks' vs' : List LV} {kas : List (NestedKey × Addr)} {xs : List V}, RVs S.toSg F ι H ls us → foldL ks vs ls = some (ks', vs') → keysOk kas xs → LV.keys ks = some (kas.map (·.1)) → RVs S.toSg F ι H ks (kas.map fun k => V.ref k.2) → RVs S.toSg F ι H vs xs → kas.length + ls.length ≤ 60000 →
    ∃ (ps : List (Addr × NestedKey × Addr × V)) (kas' : List (NestedKey × Addr)) (xs' : List V), us = (ps.map (·.1)).map V.ref ∧ (∀ p ∈ ps, SqT S.K H p.1 [.ref p.2.2.1, p.2.2.2] ∧ Nk S.K H (.ref p.2.2.1) p.2.1 ∧ p.2.1.depth ≤ 8) ∧ Folds kas xs (ps.map (·.2)) kas' xs' ∧
      keysOk kas' xs' ∧ LV.keys ks' = some (kas'.map (·.1)) ∧ RVs S.toSg F ι H ks' (kas'.map fun k => V.ref k.2) ∧ RVs S.toSg F ι H vs' xs'
  | [], _, _, _, _, _, kas, xs, .nil, e, ok, hk, z1, z2, _ => by
    unfold foldL at e
    cases e
    exact ⟨[], kas, xs, rfl, (fun _ m => nomatch m), .nil, ok, hk, z1, z2⟩
  | l :: ls, _, ks, vs, ks', vs', kas, xs, .cons (v := u) (vs := us) z zs, e, ok, hk, z1, z2, hl => by
    unfold foldL at e
    split at e
    · rename_i a; cases a
    · rename_i ts v ps a
      cases a
      split at e
      · rename_i hf
        obtain ⟨k, k1, k2⟩ := kfit_of _ _ hf
        cases z with
        | @tup b _ ys t1 t2 =>
          cases t2 with
          | @cons _ _ kx _ zk t3 =>
            cases t3 with
            | @cons _ _ vx _ zv t4 =>
              cases t4
              have nk := nk_of _ _ _ zk k1
              have hlen : ks.length = kas.length := by have := z1.length; rw [List.length_map] at this; exact this
              cases zk with
              | @tup q _ _ q1 q2 =>
                rw [List.length_cons] at hl
                split at e
                · rename_i lt
                  have hj := (kix_of k1 hk).1 lt
                  obtain ⟨ps, kas', xs', e1, e2, e3, e4⟩ := fold_ok zs e ⟨ok.1, by rw [List.length_set]; exact ok.2.1, ok.2.2⟩ hk z1 (z2.set zv _) (by omega)
                  refine ⟨(b, k, q, vx) :: ps, kas', xs', by rw [e1]; rfl, fun p m => ?_, .old hj e3, e4⟩
                  rcases List.mem_cons.mp m with rfl | m
                  · exact ⟨t1, nk, k2⟩
                  · exact e2 p m
                · rename_i lt
                  have nin := (kix_of k1 hk).2 lt
                  obtain ⟨ps, kas', xs', e1, e2, e3, e4⟩ := fold_ok (kas := kas ++ [(k, q)]) zs e (keysOk_app (v := vx) ok nin k2 (by omega)) (by rw [List.map_append]; exact keys_app hk k1) (by rw [List.map_append]; exact z1.append (.cons (.tup q1 q2) .nil)) (z2.append (.cons zv .nil)) (by rw [List.length_append, List.length_singleton]; omega)
                  refine ⟨(b, k, q, vx) :: ps, kas', xs', by rw [e1]; rfl, fun p m => ?_, .new nin e3, e4⟩
                  rcases List.mem_cons.mp m with rfl | m
                  · exact ⟨t1, nk, k2⟩
                  · exact e2 p m
      · cases e
    · cases e
theorem vc_dictN : VC S E (rDictN S.P S.w S.K) fDictN := fun F ι h H xs vs Q rp z o => by
  unfold fDictN at o
  split at o
  · rename_i ps
    split at o
    · rename_i hl
      split at o
      · rename_i ks ws e
        cases z with
        | cons a b =>
          cases b
          cases a with
          | @vl a _ us g1 g2 g3 =>
            obtain ⟨pz, kas, xs', e1, e2, e3, ok, e4, e5, e6⟩ := fold_ok g3 e keysOk_nil rfl .nil .nil (by simpa using hl)
            subst e1
            exact ⟨a, pz, kas, xs', rfl, .inl (.inl g1), e2, e3, fun d ob hp low => o F ι _ _ (EX.new hp) (rp.new hp) (.vd upd_same (nF_of_none rp hp) low ok e4 (e5.fwd (Fwd.new rp hp) _ _) (e6.fwd (Fwd.new rp hp) _ _))⟩
      · exact o.elim
    · exact o.elim
  · exact o.elim
end
theorem call_dictNS {X : Cx} (S : Se) (hc : X.calm = true) (hu : X.A.units + 65 < cLine) (hK : X.K = S.K := by rfl) (hw : X.w = S.w := by rfl) (hP : X.prog = S.P := by rfl) : CallR X (.type "dict") (rDictN S.P S.w S.K) := by
  rw [← hK, ← hw, ← hP]
  exact call_dictN hc hu
end Rm
namespace Rm
open PySem PySem.Spec PyProof.Rows L2 RZ PpSet
/-! ### {text: value, ..} that stays, .get(text, value), [text] -/
def mSd (kc : List (List Nat)) (mA : MA) : ME := fun ρ h => (mA ρ h).safe.bind fun vs h1 => .ok (.sd kc vs) h1
def mGet2 (md mi mx : ME) : ME := fun ρ h => (md ρ h).bind fun d h1 => match d with
  | .sd kc vs => (mi ρ h1).bind fun i h2 => (mx ρ h2).bind fun x h3 => match i with
    | .str t => .ok ((lkS kc vs t).getD x) h3
    | _ => .bad
  | _ => .bad
section
variable {S : Se} {E : XK} {td ti tx : TE} {md mi mx : ME} {mA : MA} {trs : List (TE × TE)} {ks : List Str}
theorem se_sd (kc : List (List Nat)) (hp : PrS S E0 trs ks mA) (hk : (ks.map fun k => k.cps.toList) = kc) (hl : ks.length ≤ 15) : SE S E (tDisp trs) (mSd kc mA) := fun F ι h H ρ σ Q rp rs o p hpn => by
  obtain ⟨ex0, rp0⟩ := apart (S := S) (u := .dK []) rp hpn
  have np : p ∉ ι := fun m => rp.dom p (rp.inF p m) hpn
  refine hp _ ι h _ ρ σ _ rp0 (rs.ext rp ex0) (Ok.seqB (rel := RVs S.toSg) o fun F1 ι1 H1 h1 vs xs _ e1 rp1 zs o1 => ?_)
  obtain ⟨s1, s2⟩ := stays e1 np (by rw [upd_same])
  refine ⟨s1, zwK ks xs, rfl, by rw [List.length_zipWith]; omega, ?_⟩
  obtain ⟨j1, j2, j3⟩ := join (S := S) (v := .dK (mergeK [] (zwK ks xs))) hpn (ex0.trans e1) rp1 rp.dom (e1.more _ (.inr rfl)) s2 s1 (fun _ z => nomatch z) (fun _ _ z => nomatch z)
  exact o1 _ _ _ _ j1 j2 (.sd (ks := ks) upd_same (fun z => z.2 rfl) hk (zs.fwd j3 _ _))
theorem se_get2 (hd : SE S E td md) (hi : SE S E ti mi) (hx : SE S E tx mx) : SE S E (tDGet2 td ti tx) (mGet2 md mi mx) := fun F ι h H ρ σ Q rp rs o =>
  hd F ι h H ρ σ _ rp rs (o.seq fun F1 ι1 H1 h1 d dx _ e1 rp1 zd o1 => by
    cases zd with
    | @sd a ks kc vs xs g1 g2 g3 g4 =>
      refine ⟨a, rfl, .inl ⟨_, .inl g1⟩, hi F1 ι1 h1 H1 ρ σ _ rp1 (rs.ext rp e1) (o1.seq fun F2 ι2 H2 h2 i y _ e2 rp2 zi o2 => hx F2 ι2 h2 H2 ρ σ _ rp2 ((rs.ext rp e1).ext rp1 e2) (o2.seq fun F3 ι3 H3 h3 x z _ e3 rp3 zx o3 => ?_))⟩
      obtain ⟨s1, s2⟩ := stays e2 (fun m => g2 (rp1.inF _ m)) g1
      have s3 := e3.keep a _ s2 s1
      split at o3
      · rename_i t _
        cases zi
        refine ⟨_, DGet.k (k := .inr ⟨t.toArray⟩) s3, ?_⟩
        have zs := (g4.ext rp1 e2).ext rp2 e3
        cases e : lkS kc vs t with
        | some v =>
          obtain ⟨x', z', q⟩ := lk_some (s := ⟨t.toArray⟩) (ks := ks) zs (by rw [g3]; simpa using e)
          rw [e] at o3
          rw [q []]
          exact Ok.now (rel := RV S.toSg) o3 rp3 z'
        | none =>
          have q := lk_none (s := ⟨t.toArray⟩) (ks := ks) zs (by rw [g3]; simpa using e) []
          rw [e] at o3
          rw [q]
          exact Ok.now (rel := RV S.toSg) o3 rp3 zx
      · exact o3.elim
    | _ => exact o1.elim)
end
/-! ### -i, xs[::-1], xs.pop(0) -/
def fNeg (v : LV) (h : List LO) : R LV := match v with
  | .int i => .ok (.int (-i)) h
  | _ => .bad
def mRev (ma : ME) : ME := fun ρ h => (ma ρ h).bind fun v h1 => match v.lsf h1 with
  | some xs => .ok (.vl xs.reverse) h1
  | none => .bad
def fPop0 (v w : LV) (h : List LO) : R LV := match v, w with
  | .ref n, .int 0 => match h[n]? with
    | some (.lst (y :: ys)) => .ok y (h.set n (.lst ys))
    | _ => .bad
  | _, _ => .bad
def mPop0 (ma mb : ME) : ME := fun ρ h => (ma ρ h).bind fun v h1 => match v.lst h1 with
  | some _ => (mb ρ h1).bind fun w h2 => fPop0 v w h2
  | none => .bad
section
variable {S : Se} {E : XK} {ta tb : TE} {ma mb : ME}
theorem vu_neg : VU S E (rU fun i => .int (-i)) fNeg := fun F ι h H x v Q rp z o => by
  unfold fNeg at o
  split at o
  · cases z
    exact ⟨_, rfl, Ok.now (rel := RV S.toSg) o rp (.int _)⟩
  · exact o.elim
theorem RVs.reverse {S : Sg} {F : Addr → Prop} {ι : List Addr} {H : Hp} : ∀ {xs : List LV} {vs : List V}, RVs S F ι H xs vs → RVs S F ι H xs.reverse vs.reverse
  | [], _, .nil => .nil
  | x :: xs, _, .cons a b => by
    rw [List.reverse_cons, List.reverse_cons]
    exact (RVs.reverse b).append (.cons a .nil)
theorem se_rev (ha : SE S E ta ma) : SE S E (tRevL S.K ta) (mRev ma) := fun F ι h H ρ σ Q rp rs o =>
  ha F ι h H ρ σ _ rp rs (o.seq fun F1 ι1 H1 h1 v x _ e1 rp1 z o1 => by
    split at o1
    · rename_i xs e
      obtain ⟨a, vs, rfl, q, zs⟩ := lsf_of rp1 z e
      exact ⟨a, vs, rfl, q, fun p hp => ok_vl rp1 zs.reverse o1 hp⟩
    · exact o1.elim)
theorem se_pop0 (ha : SE S E ta ma) (hb : SE S E tb mb) : SE S E (tBM S.K "list" rPopAt ta (tCons tb tNil)) (mPop0 ma mb) := fun F ι h H ρ σ Q rp rs o =>
  ha F ι h H ρ σ _ rp rs (o.seq fun F1 ι1 H1 h1 v x _ e1 rp1 zx o1 => by
    split at o1
    · rename_i xs0 e0
      obtain ⟨a0, vs0, rfl, q0, _⟩ := lst_of rp1 zx e0
      refine ⟨.inl ⟨rfl, vs0, .of q0⟩, hb F1 ι1 h1 H1 ρ σ _ rp1 (rs.ext rp e1) (o1.seq fun F2 ι2 H2 h2 w y _ e2 rp2 zy o2 => ?_)⟩
      have zx2 := zx.ext rp1 e2
      unfold fPop0 at o2
      split at o2
      · split at o2
        · rename_i u us hx
          cases zy
          cases zx2 with
          | ref q =>
            have g := rp2.at hx q
            cases g with
            | @lst _ _ vv g1 g2 =>
              cases g2 with
              | @cons _ _ yv ws zu zus =>
                exact ⟨_, _, 0, 0, yv, rfl, rfl, g1, by decide, by decide, (by show seqIndex? 0 (ws.length + 1) = some 0; unfold seqIndex?; simp), rfl, ok_set rp2 q zus zu o2⟩
        · exact o2.elim
      · exact o2.elim
    · exact o1.elim)
end
theorem pe_revLS {X : Cx} (S : Se) {e : Expr} {te : TE} {k : Nat} {p1 p2 p3 pos : Pos} (he : PE X e te) (hK : X.K = S.K := by rfl) : PE X (.Subscript e (.Slice none none (some (.UnaryOp .USub (.Constant (.int 1) k p1) p2)) p3) pos) (tRevL S.K te) := by
  rw [← hK]
  exact pe_revL he
end Rm
namespace Rm
open PySem PySem.Spec PyProof.Rows L2 RZ PpSet
/-! ### enumerate(text) -/
def Ites (x : Str) : It := ⟨fun i _ => i < x.cps.size, fun i H v H' => ∃ T c, v = .ref T ∧ H T = none ∧ H' = upd H T (.tup [.int (i : Nat), .str ⟨#[c]⟩]) ∧ x.cps[i]? = some c, fun i _ => x.cps.size ≤ i⟩
theorem turn_enumS {P : Program} {w : World} {K : PySem.W.Frag} {elts : List Expr} {kk : Nat} {tpos : Pos} (e it : Addr) (x : Str) (t : Tok) (ty : String) (hty : ty = "str_ascii_iterator" ∨ ty = "str_iterator") :
    Turn P w K (.Tuple elts kk tpos) (Ites x) [e, it] e (fun i h => (∃ old, IsEnum h e it ((i : Nat) : Int) old) ∧ h.IsStrIter it ty x t i ∧ e ≠ it ∧ i ≤ x.cps.size) where
  mem := by simp
  obj := fun i h st b hb => by
    obtain ⟨⟨old, he⟩, ⟨o, ho, hc, hd⟩, _⟩ := st
    have e' : b = e ∨ b = it := by simpa using hb
    rcases e' with z | z
    · rw [z]; exact ⟨_, he, fun v q => nomatch q⟩
    · rw [z]; exact ⟨o, ho, fun v q => by rw [hd] at q; cases q⟩
  keep := fun i h h' st k => let ⟨⟨old, he⟩, ⟨o, ho, r⟩, hne, hle⟩ := st; ⟨⟨old, k e (by simp) _ he⟩, ⟨o, k it (by simp) o ho, r⟩, hne, hle⟩
  item := by
    intro X hP hw hK hc i pins s σ H E I hf st hg
    subst hP hw hK
    obtain ⟨⟨old, he⟩, hit, hne, hle⟩ := st
    have D : Draws X.prog X.w X.A.in1 it [it] x.cps.size (fun i v => ∃ c u, x.cps[i]? = some c ∧ v = .str ⟨#[c]⟩ u) (fun i h => h.IsStrIter it ty x t i) := by
      rcases hty with e | e
      · rw [e]; exact Draws.strAscii (show X.A.in1.handled = none from I.ok.hd hc) it x t
      · rw [e]; exact Draws.strWide (show X.A.in1.handled = none from I.ok.hd hc) it x t
    have hel : e < s.heap.objs.size := Heap.lt_size he
    have hil : it < s.heap.objs.size := by obtain ⟨_, q, _⟩ := hit; exact Heap.lt_size q
    refine wpAny_pyNext_enum_itemD D he hit hg hne (by simpa using hne) fun v h' tk hv ho hit' hT hsz hk => ?_
    obtain ⟨c, u, hcx, rfl⟩ := hv
    refine ⟨_, rfl, wpAny_letOwnedTupleGo_enum (s := { s with heap := h', toks := tk + 1 }) ho fun h'' he' sb => ?_⟩
    have hT2 : h''.get? s.heap.objs.size = some { cls := .type "tuple", data := .seq #[.int i tk, .str ⟨#[c]⟩ u] } := (sb.2 _ (Nat.ne_of_gt hel)).trans hT
    have new : ObjOk X.prog X.w (upd H s.heap.objs.size (.tup [.int (i : Nat), .str ⟨#[c]⟩])) h'' s.heap.objs.size (.tup [.int (i : Nat), .str ⟨#[c]⟩]) :=
      ⟨by show 2 ≤ sizeLine; decide, [.int i tk, .str ⟨#[c]⟩ u], .cons ⟨_, rfl⟩ (.cons ⟨_, rfl⟩ .nil), ⟨_, hT2, rfl, _, rfl⟩⟩
    have I1 : Inv X pins σ (upd H s.heap.objs.size (.tup [.int (i : Nat), .str ⟨#[c]⟩])) { s with heap := h'', toks := tk + 1 } :=
      I.turnedNew (ch := [e, it]) (fun b ob hb q => (sb.2 b (fun z => hb (by simp [z]))).trans (hk b ob (fun z => hb (by simp [z])) (fun z => hb (by simp [z])) q)) hf (Nat.le_refl _) new
    have hit2 : h''.IsStrIter it ty x t (i + 1) := by
      obtain ⟨o, q, r⟩ := hit'
      exact ⟨o, (sb.2 it (Ne.symm hne)).trans q, r⟩
    refine ⟨.ref s.heap.objs.size, _, I1, rfl, ⟨_, c, rfl, I.hok.fresh (Nat.le_refl _), rfl, hcx⟩, ⟨⟨.str ⟨#[c]⟩ u, ?_⟩, hit2, hne, hg⟩, fun b hb => ?_⟩
    · have e1 : ((i + 1 : Nat) : Int) = (i : Int) + 1 := by omega
      rw [e1]; exact he'
    · have hb' : b < s.heap.objs.size := by
        have e' : b = e ∨ b = it := by simpa using hb
        rcases e' with z | z
        · rw [z]; exact hel
        · rw [z]; exact hil
      rw [upd_ne (Nat.ne_of_lt hb')]
      exact (hf b hb).1
  done := by
    intro X hP hw hK hc i pins s σ H E I hf st hg
    subst hP hw hK
    obtain ⟨⟨old, he⟩, hit, hne, hle⟩ := st
    have ei : i = x.cps.size := Nat.le_antisymm hle hg
    subst ei
    have D : Draws X.prog X.w X.A.in1 it [it] x.cps.size (fun i v => ∃ c u, x.cps[i]? = some c ∧ v = .str ⟨#[c]⟩ u) (fun i h => h.IsStrIter it ty x t i) := by
      rcases hty with e | e
      · rw [e]; exact Draws.strAscii (show X.A.in1.handled = none from I.ok.hd hc) it x t
      · rw [e]; exact Draws.strWide (show X.A.in1.handled = none from I.ok.hd hc) it x t
    obtain ⟨f0, f1, f2, f3, f4, f5⟩ := hf it (by simp)
    exact wpAny_pyNext_enum_endD D he hit fun h' eb => ⟨rfl, I.turned (t' := s.toks) (fun b o hb q => eb b o hb q) f0 f1 f3 f4 f5⟩
  self := fun A i s Q E st h => let ⟨⟨_, he⟩, _⟩ := st; wpAny_pyIter_enum he h
def iEnumS (ta : TA) : TI := fun σ H R => ta σ H fun vs H1 => ∃ x, vs = [.str x] ∧ R (Ites x) H1
theorem strIter_ty (x : Str) : strIterType x = "str_ascii_iterator" ∨ strIterType x = "str_iterator" := by
  unfold strIterType
  split
  · exact .inl rfl
  · exact .inr rfl
theorem pi_enumT {X : Cx} {e : Expr} {ta : TA} {p pos tpos : Pos} {elts : List Expr} {kk : Nat} (hg : Gl X "enumerate") (hm : X.mg "enumerate" = none) (ha : PA X [e] ta) (hs : starEach [e] X.env = [(false, eval e X.env)] := by rfl) :
    PI X (.Tuple elts kk tpos) (.Call (.Name "enumerate" p) [e] [] pos) (iEnumS ta) := by
  refine ⟨fun pins s σ H R I h => ?_⟩
  refine Call_ (ld_blt I hg hm boot_enumerate (PyProof.Rows.callWith_type1 (thn (ha.run pos pins s σ H _ I h) fun us s1 ⟨vs, H1, I1, r1, q1⟩ => ?_) hs rfl))
  obtain ⟨x, ex, q⟩ := q1
  subst ex
  cases r1 with
  | cons r rr =>
    cases rr
    obtain ⟨t, rfl⟩ := r
    refine call_enumerate_str fun h' he hit hsz hk => wpAny_pyIter_enum he ?_
    have I2 : Inv X pins σ H1 { s1 with heap := h' } := I1.kept (t' := s1.toks) hk
    refine ⟨s1.heap.objs.size + 1, [s1.heap.objs.size + 1, s1.heap.objs.size], _, _, H1, rfl, I2, turn_enumS (s1.heap.objs.size + 1) s1.heap.objs.size x t _ (strIter_ty x), ⟨⟨.none, he⟩, hit, Nat.succ_ne_self _, Nat.zero_le _⟩, fun b hb => ?_, q⟩
    have e' : b = s1.heap.objs.size + 1 ∨ b = s1.heap.objs.size := by simpa using hb
    have hle : s1.heap.objs.size ≤ b := by
      rcases e' with z | z
      · rw [z]; exact Nat.le_add_right _ _
      · rw [z]; exact Nat.le_refl _
    exact I1.fpOk hle (I1.hok.fresh hle)
def iEnumX (K : PySem.W.Frag) (ta : TA) : TI := fun σ H R => iEnum K ta σ H R ∨ iEnumS ta σ H R
theorem pi_enumX {X : Cx} (S : Se) {e : Expr} {ta : TA} {p pos tpos : Pos} {elts : List Expr} {kk : Nat} (hg : Gl X "enumerate") (hm : X.mg "enumerate" = none) (ha : PA X [e] ta) (hs : starEach [e] X.env = [(false, eval e X.env)] := by rfl) (hK : X.K = S.K := by rfl) :
    PI X (.Tuple elts kk tpos) (.Call (.Name "enumerate" p) [e] [] pos) (iEnumX S.K ta) := by
  rw [← hK]
  exact PI.or (pi_enum hg hm ha hs) (pi_enumT hg hm ha hs)
def mEnumX (ma : MA) : MI := fun ρ h => (ma ρ h).bind fun vs h1 => match vs with
  | [.vl xs] => .ok (.vals (enumL 0 xs)) h1
  | [.str a] => .ok (.vals (enumL 0 (a.map fun c => .str [c]))) h1
  | _ => .bad
section
variable {S : Se} {E : XK} {tA : TA} {mA : MA}
theorem si_enumS (ha : SA S E tA mA) : SI S E (iEnumS tA) (fun ρ h => (mA ρ h).bind fun vs h1 => match vs with
  | [.str a] => .ok (.vals (enumL 0 (a.map fun c => .str [c]))) h1
  | _ => .bad) := fun F ι h H ρ σ Q rp rs o =>
  ha F ι h H ρ σ _ rp rs (o.seq fun F1 ι1 H1 h1 vs xs0 q0 e1 rp1 z o1 => by
    clear q0
    split at o1
    · rename_i a
      cases z with
      | cons z b =>
        cases b
        cases z
        refine ⟨_, rfl, Ok.now (rel := WalkAt S) o1 rp1 fun F' ι' h' H' i e r => ?_⟩
        show match some (enumL 0 (a.map fun c => LV.str [c]))[i]? with | some (some v) => _ | some none => _ | none => _
        rw [enumL_get, List.getElem?_map]
        cases hx : a[i]? with
        | none =>
          have := List.getElem?_eq_none_iff.mp hx
          show (a.toArray).size ≤ i
          simpa using this
        | some c =>
          refine ⟨(by show i < (a.toArray).size; simpa using (List.getElem?_eq_some_iff.mp hx).1), fun v H'' hv => ?_⟩
          obtain ⟨T, c2, rfl, hT, rfl, q1⟩ := hv
          have e2 : c2 = c := by
            have q2 : a[i]? = some c2 := by simpa using q1
            rw [hx] at q2
            exact (Option.some.inj q2).symm
          subst e2
          rw [Nat.zero_add]
          exact new_pair r hT (.int _) (.str [c2])
    · exact o1.elim)
theorem si_enumX (ha : SA S E tA mA) : SI S E (iEnumX S.K tA) (mEnumX mA) := fun F ι h H ρ σ Q rp rs o => by
  cases hm : mA ρ h with
  | bad =>
    simp only [mEnumX, hm, R.bind] at o
    exact o.elim
  | er c h' =>
    refine .inl (si_enum ha F ι h H ρ σ Q rp rs ?_)
    simp only [mEnum, mEnumX, hm, R.bind] at o ⊢
    exact o
  | ok vs h1 =>
    by_cases d : ∃ a, vs = [.str a]
    · obtain ⟨a, rfl⟩ := d
      refine .inr (si_enumS ha F ι h H ρ σ Q rp rs ?_)
      simp only [mEnumX, hm, R.bind] at o ⊢
      exact o
    · refine .inl (si_enum ha F ι h H ρ σ Q rp rs ?_)
      simp only [mEnum, mEnumX, hm, R.bind] at o ⊢
      split at o
      · exact o
      · exact absurd ⟨_, rfl⟩ d
      · exact o.elim
end
/-! ### list(text) -/
def signsV (x : Str) : List V := x.cps.toList.map fun c => V.str ⟨#[c]⟩
def rListT : List V → Hp → VK → Prop := fun xs H Q => ∃ x : Str, xs = [.str x] ∧ x.cps.size ≤ 60000 ∧ ∀ p, H p = none → Q (.ref p) (upd H p (.lst (signsV x)))
theorem call_listT {X : Cx} (hc : X.calm = true) : CallR X (.type "list") rListT := by
  rintro pins s σ H xs us Q I r ⟨x, rfl, hl, q⟩
  obtain ⟨u, rfl, t, rfl⟩ := vals1 r
  refine call_list_str (I.ok.hd hc) x t (fun h' tk acc' c' kp e it => ?_) (le_sz hl)
  have rv : Vals (signsV x) acc'.toList := by
    refine vals_of_idx _ _ (by rw [Array.length_toList, it.1]; simp [signsV]) fun j v hj => ?_
    obtain ⟨c, u, hcx, rfl⟩ := it.2 j v (by rw [← Array.getElem?_toList]; exact hj)
    refine ⟨.str ⟨#[c]⟩, ?_, ⟨u, rfl⟩⟩
    unfold signsV
    rw [List.getElem?_map, Array.getElem?_toList, hcx]
    rfl
  exact ⟨.ref s.heap.objs.size, _, I.laid (t' := tk) kp (Nat.le_refl _) (show ObjOk X.prog X.w _ h' _ (.lst (signsV x)) from ⟨le_sz (by simpa [signsV] using hl), acc'.toList, c', rv, by simpa using e⟩), rfl, q _ (I.hok.fresh (Nat.le_refl _))⟩
def rListY (P : Program) (w : World) (K : PySem.W.Frag) : List V → Hp → VK → Prop := fun xs H Q => rListX P w K xs H Q ∨ rListT xs H Q
def fListY (vs : List LV) (h : List LO) : R LV := match vs with
  | [.str a] => if a.length ≤ 60000 then .ok (.vl (a.map fun c => .str [c])) h else .bad
  | vs => fListX vs h
theorem rvs_signs {S : Sg} {F : Addr → Prop} {ι : List Addr} {H : Hp} : ∀ a : List Nat, RVs S F ι H (a.map fun c => LV.str [c]) (a.map fun c => V.str ⟨#[c]⟩)
  | [] => .nil
  | c :: a => .cons (.str [c]) (rvs_signs a)
theorem vc_listY {S : Se} {E : XK} : VC S E (rListY S.P S.w S.K) fListY := fun F ι h H xs vs Q rp z o => by
  unfold fListY at o
  split at o
  · rename_i a
    split at o
    · rename_i hl
      cases z with
      | cons z b =>
        cases b
        cases z
        refine .inr ⟨_, rfl, by simpa using hl, fun p hp => ok_vl rp ?_ o hp⟩
        exact rvs_signs a
    · exact o.elim
  · exact .inl (vc_listX F ι h H xs _ Q rp z o)
theorem call_listYS {X : Cx} (S : Se) (hc : X.calm = true) (hK : X.K = S.K := by rfl) (hw : X.w = S.w := by rfl) (hP : X.prog = S.P := by rfl) : CallR X (.type "list") (rListY S.P S.w S.K) := by
  rw [← hK, ← hw, ← hP]
  exact (call_listX hc).or (call_listT hc)
/-! ### xs + ys that changes later -/
def fAddM (v w : LV) (h : List LO) : R LV := match v.lst h, w.lst h with
  | some xs, some ys => if xs.length + ys.length ≤ 60000 then .ok (.ref h.length) (h ++ [.lst (xs ++ ys)]) else .bad
  | _, _ => .bad
theorem vo_addM {S : Se} {E : XK} : VO S E (rAddAll S.K) fAddM := fun F ι h H x y v w Q rp zx zy o => by
  unfold fAddM at o
  split at o
  · rename_i xs ys e1 e2
    split at o
    · rename_i hl
      obtain ⟨a, vs, rfl, h1, z1⟩ := lst_of rp zx e1
      obtain ⟨b, ws, rfl, h2, z2⟩ := lst_of rp zy e2
      refine .inr (.inr (.inl ⟨_, _, _, _, rfl, rfl, h1, h2, le_sz (by rw [← z1.length, ← z2.length]; exact hl), fun p hp => o _ _ _ _ (EX.newM hp) (rp.newM hp (.lst upd_same ((z1.append z2).fwd ((EX.newM (S := S) hp).fwd rp) _ _))) (.ref ?_)⟩))
      rw [← rp.len, List.getElem?_append_right (Nat.le_refl _)]
      simp
    · exact o.elim
  · exact o.elim
end Rm
namespace Rm
open PySem PySem.Spec PyProof.Rows L2 RZ PpSet CwR
/-! ### a token is out behind a written text -/
structure PE1 (X : Cx) (e : Expr) (t : TE) : Prop where
  run : ∀ (pins : List (Addr × Obj)) (s : Shared) (σ : L2.St) (H : Hp) (Q : VK), Inv X pins σ H s → t σ H Q → wpAny (model X.prog X.w) X.A (eval e X.env) (fun u s' => 1 ≤ s'.toks ∧ EP X pins σ Q u s') X.xe s
theorem pe1_addK {X : Cx} {a : Expr} {c : Str} {j : Nat} {cp pos : Pos} {r : R2} {ta : TE} (ho : OpR X (binaryOp .Add) r) (ha : PE X a ta) : PE1 X (.BinOp a .Add (.Constant (.str c) j cp) pos) (tOp r ta (tC (.str c))) := by
  constructor
  intro pins s σ H Q I h
  refine wpAny_BinOp (thn (ha.run pins s σ H _ I h) ?_)
  rintro v s1 ⟨x, H1, I1, r1, q1⟩
  refine Calls.Constant_str ?_
  have z := ho pins { s1 with toks := s1.toks + 1 } σ H1 x (.str c) v (.str c s1.toks) Q (I1.tok _) r1 ⟨_, rfl⟩ q1
  refine wpAny_mono (PySem.wpAny_toks z) ?_ (fun _ _ z => z.2)
  rintro u s2 ⟨hk, e⟩
  exact ⟨Nat.le_trans (Nat.succ_le_succ (Nat.zero_le _)) hk, e⟩
theorem pa1_cons {X : Cx} {e : Expr} {es : List Expr} {te : TE} {ta : TA} (ha : PE1 X e te) (hr : PAT X es ta) (hs : starEach (e :: es) X.env = (false, eval e X.env) :: starEach es X.env := by rfl) : PA X (e :: es) (tCons te ta) := by
  constructor
  intro pos pins s σ H Q I h
  rw [hs]
  refine Calls.spliced_cons (wpAny_mono (ha.run pins s σ H _ I h) ?_ (fun _ _ z => z))
  rintro v s1 ⟨hk, x, H1, I1, r1, q1⟩
  refine wpAny_mono (hr pos pins s1 σ H1 _ hk I1 q1) ?_ (fun _ _ z => z)
  rintro us s2 ⟨xs, H2, I2, r2, q2⟩
  exact ⟨x :: xs, H2, I2, .cons r1 r2, q2⟩
/-! ### text.replace(written, written) -/
def mReplC (m : ME) (y z : List Nat) : ME := fun ρ h => (m ρ h).bind fun v h1 => match v with
  | .str x => if x.length ≤ 1000 ∧ z.length ≤ 1000 then .ok (.str (Txt.replace ⟨x.toArray⟩ ⟨y.toArray⟩ ⟨z.toArray⟩).cps.toList) h1 else .bad
  | _ => .bad
section
variable {S : Se} {E : XK} {ta : TE} {ma : ME}
theorem se_replC {y z : Str} {yl zl : List Nat} (ha : SE S E ta ma) (hy : y.cps.toList = yl := by decide +kernel) (hz : z.cps.toList = zl := by decide +kernel) : SE S E (tReplC ta y z) (mReplC ma yl zl) := fun F ι h H ρ σ Q rp rs o => by
  subst hy hz
  refine ha F ι h H ρ σ _ rp rs (o.seq fun F1 ι1 H1 h1 v x _ e1 rp1 zx o1 => ?_)
  cases zx with
  | str a =>
    dsimp only at o1
    split at o1
    · rename_i c
      refine ⟨_, rfl, ?_, ?_⟩
      · have h1 : (⟨a.toArray⟩ : Str).length = a.length := by show a.toArray.size = _; simp
        have h2 : z.length = z.cps.toList.length := by show z.cps.size = _; simp
        rw [h1, h2]
        have : (a.length + 1) * z.cps.toList.length ≤ 1001 * 1000 := Nat.mul_le_mul (by omega) c.2
        omega
      · exact Ok.now (rel := RV S.toSg) o1 rp1 (by
          have := RV.str (S := S.toSg) (F := F1) (ι := ι1) (H := H1) (Txt.replace ⟨a.toArray⟩ y z).cps.toList
          simpa using this)
    · exact o1.elim
  | _ => exact o1.elim
end
end Rm
namespace Rm
open PySem PySem.Spec PyProof.Rows L2 RZ PpSet
/-! ### != by an own __eq__, at the library's level -/
section
variable {M : Model} {prog : Program} {w : World} {A : Around} {E : Value → Shared → Prop} {s : Shared} {K : PySem.W.Frag} {x C f : Addr} {ox : Obj} {od : Option Obj} {y tb : Value}
theorem ifBound_objNe {args : List Value} {Q : Option Value → Shared → Prop} (X : K.In s.heap) (I : PySem.W.InstAt s.heap x ox C od) (hs : PySem.W.findIn K (.ref C) "__ne__" = some (some (.builtin "object.__ne__")))
    (h : wpAny M A (call (.builtin "object.__ne__") (.ref x :: args)) (fun v => Q (some v)) E s) : wpAny M A (callSpecialIfBound? (.ref x) "__ne__" args) Q E s := by
  simp only [callSpecialIfBound?, bindSpecialIfBound?]
  refine wpAny_holding (wpAny_bind (wpAny_bind (wpAny_bind (I.type.here ((PySem.W.looks_findIn X hs).here ?_)))))
  refine wpAny_bind (wpAny_askSetting (wpAny_ite ?_))
  have fin : wpAny M A (call (.builtin "object.__ne__") ([.ref x] ++ args) >>= fun v => pure (some v)) Q E s := wpAny_bind (wpAny_mono h (fun v s' h' => wpAny_pure h') fun _ _ h' => h')
  split
  · exact wpAny_bind (wpAny_of_eq (F.cmp_object.ne.bind _) (wpAny_pure (by exact fin)))
  · exact wpAny_tryCatch (wpAny_bind (wpAny_of_eq (F.cmp_object.ne.bind _) (wpAny_pure (by exact fin))))
theorem entry_ne {Q : Fin → Shared → Prop} (hu : A.units < cLine) (X : K.In s.heap) (I : PySem.W.InstAt s.heap x ox C od) (hs : PySem.W.findIn K (.ref C) "__eq__" = some (some (.ref f))) (hf : PySem.W.isFn K (.ref f) = true)
    (h : wpAny (model prog w) A (call (.ref f) [.ref x, y]) (fun v s' => ∃ b, v = .bool b ∧ Q (.done (.ret (.bool (!b)))) s') E s) : wpAny (model prog w) A (Builtin.«object.__ne__» ⟨[.ref x, y], []⟩) Q E s := by
  unfold Builtin.«object.__ne__»
  repeat (first
    | with_reducible refine wpAny_cRoomFor hu ?_
    | (refine wpAny_bind (m := callSpecialIfBound? (.ref x) (Str.ofString "__eq__") [y])
        (PySem.W.ifBound_K X I hs hf (wpAny_mono h (fun r s' hr => by
          obtain ⟨b, rfl, hq⟩ := hr
          repeat (first | exact hq | exact wpAny_pure hq | exact wpAny_truthy_bool hq | (refine wpAny_bind (m := truthy (.bool _)) (wpAny_truthy_bool ?_)) | wp_step)) fun _ _ e => e)))
    | wp_step)
theorem cmp_ne {Q : Value → Shared → Prop} (hu : A.units + 1 < cLine) (X : K.In s.heap) (I : PySem.W.InstAt s.heap x ox C od) (hb : PySem.W.Looks (model prog w) s.heap (typeOf y) tb) (hn : PySem.W.notFirst K C tb = true)
    (hm : PySem.W.mroIn K C (.type "object") = some true) (hne : PySem.W.findIn K (.ref C) "__ne__" = some (some (.builtin "object.__ne__"))) (hs : PySem.W.findIn K (.ref C) "__eq__" = some (some (.ref f))) (hf : PySem.W.isFn K (.ref f) = true)
    (h : wpAny (model prog w) A.in1 (call (.ref f) [.ref x, y]) (fun v s' => ∃ b, v = .bool b ∧ Q (.bool (!b)) s') E s) : wpAny (model prog w) A (richCompare .NotEq (.ref x) y) Q E s := by
  have one : wpAny (model prog w) A (tryCompare (.ref x) (cmpInfo .NotEq).2.1 y) (fun r s' => ∃ v, r = some v ∧ Q v s') E s := by
    unfold tryCompare
    refine wpAny_bind (ifBound_objNe X I hne (wpAny_call (codeAny_call_builtin F.cmp_object.ne.plain F.cmpEntry_ne (PySem.W.check_slot F.cmpKind_ne F.cmpSplit_ne (I.type.andThen (PySem.W.looks_mroIn X hm)) (F.cmpArgs_ne _ _) (entry_ne (A := A.in1) hu X I hs hf (wpAny_mono h (fun v s' hv => ?_) fun _ _ e => e))))))
    obtain ⟨b, rfl, q⟩ := hv
    exact ⟨b, rfl, wpAny_pure ⟨_, rfl, q⟩⟩
  unfold richCompare
  simp only [oneThing_ref]
  refine wpAny_holding (wpAny_bind (wpAny_cRoomFor (Nat.lt_of_succ_lt hu) ?_))
  refine wpAny_bind (I.type.here (wpAny_bind (hb.here ?_)))
  split
  · rename_i q
    have e : PySem.W.subIn K tb (.ref C) = some false := by
      rcases Bool.or_eq_true_iff.mp hn with e | e
      · rw [beq_iff_eq.mp e] at q; simp at q
      · exact beq_iff_eq.mp e
    refine wpAny_bind ((PySem.W.looks_subIn X e).here ?_)
    simp only [Bool.false_eq_true, if_false]
    refine wpAny_bind (wpAny_mono one (fun r s' z => ?_) fun _ _ e => e)
    obtain ⟨v, rfl, hq⟩ := z
    exact wpAny_pure hq
  · refine wpAny_bind (wpAny_pure ?_)
    simp only [Bool.false_eq_true, if_false]
    refine wpAny_bind (wpAny_mono one (fun r s' z => ?_) fun _ _ e => e)
    obtain ⟨v, rfl, hq⟩ := z
    exact wpAny_pure hq
end
/-! ### == and != by an own __eq__, over the abstract heap -/
def rOwnE (K : PySem.W.Frag) (C : Addr) (neg : Bool) (sp : Sp) (E : XK) : R2 := fun x y H Q => ∃ a dx fs t, x = .ref a ∧ H a = some (.ins C dx fs) ∧ TyX K H y t ∧ PySem.W.notFirst K C t = true ∧ sp [x, y] H (fun v H' => ∃ b, v = .bl b ∧ Q (.bl (if neg then !b else b)) H') E
section
variable {X : Cx} {n : Nat} {C f : Addr} {fd : FuncData} {ps : List Str} {sp : Sp} {E : XK} {CX : CXT}
theorem own_run (F : FnOk X.prog X.w X.K X.mg X.base CX n f fd ps sp) (hb : Binds X.K fd ps []) (hx : Passes CX X E) {A : Around} {pins : List (Addr × Obj)} {σ : L2.St} {H : Hp} {s : Shared} {x y : V} {u v : Value} {Q : VK} (hr : Room n A) (e0 : Env0 X.prog X.w X.K X.mg X.base A X.stack s H) (I : Inv X pins σ H s) (rx : RelV x u) (ry : RelV y v)
    (q : sp [x, y] H (fun v H' => ∃ b, v = .bl b ∧ Q (.bl b) H') E) : wpAny (model X.prog X.w) A (call (.ref f) [u, v]) (fun w s' => ∃ b H', w = .bool b ∧ Inv X pins σ H' s' ∧ Q (.bl b) H') X.xe s := by
  have hl := F.len _ _ _ _ q
  have r2 : Vals [x, y] [u, v] := .cons rx (.cons ry .nil)
  refine wpAny_call (codeAny_mono (F.run A X.stack s H ⟨[u, v], []⟩ [u, v] [x, y] _ E hr e0 (by
    have := hb s [u, v] I.kIn (by simpa using hl)
    simpa using this) r2 q) fun r s' hq => ?_)
  cases r with
  | error e => exact hx pins σ H s e s' I hq
  | ok fl =>
    cases fl with
    | ret w =>
      obtain ⟨z, H', I', rz, b, ez, ex⟩ := I.after hq
      subst ez
      cases rz
      exact ⟨b, H', rfl, I', ex⟩
    | next => exact False.elim hq
    | brk => exact False.elim hq
    | cont => exact False.elim hq
theorem op_ownEq (F : FnOk X.prog X.w X.K X.mg X.base CX n f fd ps sp) (hb : Binds X.K fd ps []) (hx : Passes CX X E) (hr : Room n X.A) (hs : PySem.W.findIn X.K (.ref C) "__eq__" = some (some (.ref f))) (hf : PySem.W.isFn X.K (.ref f) = true) : OpR X (compareOp .Eq) (rOwnE X.K C false sp E) := by
  intro pins s σ H x y v u Q I rx ry h
  obtain ⟨a, dx, fs, t, rfl, ha, ty, hn, q⟩ := h
  cases (show v = Value.ref a from rx)
  obtain ⟨mA, J, _⟩ := ins_get I.hok ha
  obtain ⟨od, J, _⟩ := J.look
  obtain ⟨m, hF⟩ := I.fr
  obtain ⟨P, Z, p, _⟩ := kit_of I ry ty
  show wpAny (model X.prog X.w) X.A (richCompare .Eq (.ref a) u) (EP X pins σ Q) X.xe s
  refine PySem.W.cmp_K (op := .Eq) (tb := t) hr.units0 hF I.ok.mod.kin J (Z.ty _ _ I.kIn p) hn hs hf (wpAny_mono (own_run F hb hx hr I.env0 I rx ry q) (fun w s' z => ?_) fun _ _ x => x)
  obtain ⟨b, H', rfl, I', q'⟩ := z
  exact ⟨.bl b, H', I', rfl, q'⟩
theorem op_ownNe (F : FnOk X.prog X.w X.K X.mg X.base CX n f fd ps sp) (hb : Binds X.K fd ps []) (hx : Passes CX X E) (hr : Room (n + 1) X.A) (hs : PySem.W.findIn X.K (.ref C) "__eq__" = some (some (.ref f))) (hf : PySem.W.isFn X.K (.ref f) = true)
    (hm : PySem.W.mroIn X.K C (.type "object") = some true) (hne : PySem.W.findIn X.K (.ref C) "__ne__" = some (some (.builtin "object.__ne__"))) : OpR X (compareOp .NotEq) (rOwnE X.K C true sp E) := by
  intro pins s σ H x y v u Q I rx ry h
  obtain ⟨a, dx, fs, t, rfl, ha, ty, hn, q⟩ := h
  cases (show v = Value.ref a from rx)
  obtain ⟨mA, J, _⟩ := ins_get I.hok ha
  obtain ⟨od, J, _⟩ := J.look
  obtain ⟨P, Z, p, _⟩ := kit_of I ry ty
  have hu : X.A.units + 1 < cLine := by
    have := hr.in1.units0
    exact this
  show wpAny (model X.prog X.w) X.A (richCompare .NotEq (.ref a) u) (EP X pins σ Q) X.xe s
  refine cmp_ne (tb := t) hu I.kIn J (Z.ty _ _ I.kIn p) hn hm hne hs hf (wpAny_mono (own_run (Q := fun z H' => ∃ b, z = .bl b ∧ Q (.bl (!b)) H') F hb hx hr.in1 I.env0.in1 I rx ry ?_) (fun w s' z => ?_) fun _ _ x => x)
  · have e : (fun v H' => ∃ b, v = V.bl b ∧ Q (.bl (if true = true then !b else b)) H') = fun v H' => ∃ b, v = V.bl b ∧ ∃ c, V.bl b = V.bl c ∧ Q (.bl (!c)) H' := by
      funext v H'
      refine propext ⟨fun ⟨b, e, q⟩ => ⟨b, e, b, rfl, q⟩, fun ⟨b, e, c, e2, q⟩ => ?_⟩
      cases e2
      exact ⟨b, e, q⟩
    rw [← e]
    exact q
  · obtain ⟨b, H', rfl, I', c, e, q'⟩ := z
    cases e
    exact ⟨b, rfl, .bl (!b), H', I', rfl, q'⟩
end
/-! ### over values -/
theorem sub_ty {K : PySem.W.Frag} {C : Addr} {n : String} (h : n = "NoneType" ∨ n = "bool" ∨ n = "int" ∨ n = "str" ∨ n = "tuple" ∨ n = "list") : PySem.W.notFirst K C (.type n) = true := by
  have e1 : fastBuiltinMro "NoneType" = some [.type "NoneType", .type "object"] := by decide +kernel
  have e2 : fastBuiltinMro "bool" = some [.type "bool", .type "int", .type "object"] := by decide +kernel
  have e3 : fastBuiltinMro "int" = some [.type "int", .type "object"] := by decide +kernel
  have e4 : fastBuiltinMro "str" = some [.type "str", .type "object"] := by decide +kernel
  have e5 : fastBuiltinMro "tuple" = some [.type "tuple", .type "object"] := by decide +kernel
  have e6 : fastBuiltinMro "list" = some [.type "list", .type "object"] := by decide +kernel
  unfold PySem.W.notFirst PySem.W.subIn
  rcases h with h | h | h | h | h | h <;> subst h <;> simp [e1, e2, e3, e4, e5, e6]
/-- the class C has its own ==, at f; and it stands above none of those of ds -/
structure EqC (S : Se) (C : Nat) (f : Addr) (ds : List Nat) : Prop where
  eq : PySem.W.findIn S.K (.ref (S.ct C)) "__eq__" = some (some (.ref f))
  fn : PySem.W.isFn S.K (.ref f) = true
  ne : PySem.W.findIn S.K (.ref (S.ct C)) "__ne__" = some (some (.builtin "object.__ne__"))
  mro : PySem.W.mroIn S.K (S.ct C) (.type "object") = some true
  oth : ∀ D ∈ ds, ObjC S D ∧ PySem.W.notFirst S.K (S.ct C) (.ref (S.ct D)) = true
def tyE (ds : List Nat) (h : List LO) (w : LV) : Bool := match w with
  | .obj D _ => ds.contains D
  | w => (tyN h w).isSome
def mEqI (neg : Bool) (C : Nat) (ds : List Nat) (f : MF) (ma mb : ME) : ME := fun ρ h => (ma ρ h).bind fun v h1 => match v with
  | .obj C' fs => if C' = C then (mb ρ h1).bind fun w h2 => (if tyE ds h2 w = true then (if LV.pures [.obj C' fs, w] = true then match f [.obj C' fs, w] [] with
      | .ok v h' => match outV h' v with
        | some (.bl b) => .ok (.bl (if neg then !b else b)) h2
        | _ => .bad
      | _ => .bad
    else .bad) else .bad) else .bad
  | _ => .bad
section
variable {S : Se} {E E' : XK} {ta tb : TE} {ma mb : ME} {C : Nat} {f : Addr} {ds : List Nat} {g : MF}
theorem tyE_of (k : EqC S C f ds) {F : Addr → Prop} {ι : List Addr} {H : Hp} {h : List LO} (rp : Rep S.toSg F ι h H) {w : LV} {y : V} (z : RV S.toSg F ι H w y) (e : tyE ds h w = true) : ∃ t, TyX S.K H y t ∧ PySem.W.notFirst S.K (S.ct C) t = true := by
  by_cases c : ∃ D xs, w = .obj D xs
  · obtain ⟨D, xs, rfl⟩ := c
    cases z with
    | obj a n c d =>
      have e : ds.contains D = true := e
      obtain ⟨oc, nf⟩ := k.oth D (by simpa using e)
      exact ⟨_, .base (.ins a oc.cl oc.ha oc.hn oc.htk oc.hm), nf⟩
  · have e2 : (tyN h w).isSome = true := by
      cases w <;> first | exact e | exact absurd ⟨_, _, rfl⟩ c
    obtain ⟨n, hn⟩ := Option.isSome_iff_exists.mp e2
    refine ⟨_, tyN_of rp z hn, sub_ty ?_⟩
    cases w <;> simp [tyN] at hn <;> first | (subst hn; simp; done) | skip
    split at hn
    · injection hn with hn
      subst hn
      simp
    · cases hn
theorem se_eqI (neg : Bool) (k : EqC S C f ds) (ha : SE S E ta ma) (hb : SE S E tb mb) : SE S E (tOp (rOwnE S.K (S.ct C) neg (spM S 2 g) E') ta tb) (mEqI neg C ds g ma mb) := fun F ι h H ρ σ Q rp rs o =>
  ha F ι h H ρ σ _ rp rs (o.seq fun F1 ι1 H1 h1 v x _ e1 rp1 z o1 => by
    cases z with
    | @obj a C' dx fs xs q nF hnm hfs =>
      dsimp only at o1
      split at o1
      · rename_i hC
        subst hC
        refine hb F1 ι1 h1 H1 ρ σ _ rp1 (rs.ext rp e1) (o1.seq fun F2 ι2 H2 h2 w y _ e2 rp2 zw o2 => ?_)
        have z0 : RV S.toSg F1 ι1 H1 (.obj C' xs) (.ref a) := .obj q nF hnm hfs
        have z1 : RV S.toSg F2 ι2 H2 (.obj C' xs) (.ref a) := z0.ext rp1 e2
        split at o2
        · rename_i ht
          split at o2
          · rename_i hp
            obtain ⟨t, ty, nf⟩ := tyE_of k rp2 zw ht
            cases z1 with
            | @obj _ _ dx2 fs2 _ q2 nF2 hnm2 hfs2 =>
              refine ⟨a, dx2, fs2, t, rfl, q2, ty, nf, ?_⟩
              refine iso_run (S := S) (E := E) (f := g) (n := 2) (vs := [.obj C' xs, w]) rp2 (.cons (.obj q2 nF2 hnm2 hfs2) (.cons zw .nil)) rfl hp ?_
              cases r : g [.obj C' xs, w] [] with
              | ok v h' =>
                rw [r] at o2
                dsimp only at o2 ⊢
                split at o2
                · rename_i b hb'
                  rw [hb']
                  intro F3 ι3 H3 x3 e3 rp3 z3
                  cases z3
                  exact ⟨b, rfl, o2 F3 ι3 H3 _ e3 rp3 (.bl _)⟩
                · exact o2.elim
              | er c h' => rw [r] at o2; exact o2.elim
              | bad => rw [r] at o2; exact o2.elim
          · exact o2.elim
        · exact o2.elim
      · exact o1.elim
    | _ => exact o1.elim)
end
end Rm
namespace Rm
open PySem PySem.Spec PyProof.Rows L2 RZ PpSet
/-! ### None in a dict of tuples -/
section
variable {prog : Program} {w : World} {A : Around} {E : Value → Shared → Prop} {s : Shared} {d : Addr} {xs : List (NestedKey × Addr × Value)}
theorem mayTell_none {stored : List Value} {Q : Bool → Shared → Prop} (hst : ∀ v ∈ stored, ∃ k b, v = Value.ref b ∧ (tkN prog w).is s.heap k b) (h : Q false s) : wpAny (model prog w) A (tableMayTell .none stored) Q E s := by
  unfold tableMayTell
  split
  · exact wpAny_pure h
  · refine wpAny_bind (QuietAt.byValue (n := 8) (v := .none) rfl _ _ _ ?_)
    simp only [Bool.not_true, Bool.false_eq_true, if_false]
    refine wpAny_bind ?_
    refine wpAny_forIn_list _ (fun rest r s' => s' = s ∧ r = (none, ()) ∧ ∀ v ∈ rest, ∃ k b, v = Value.ref b ∧ (tkN prog w).is s.heap k b) _ ?_ ?_ _ _ ⟨rfl, rfl, hst⟩
    · rintro x rest r s' ⟨rfl, rfl, hr⟩
      obtain ⟨k', b, rfl, hb⟩ := hr x List.mem_cons_self
      refine wpAny_bind ((tkN prog w).quiet hb ?_)
      simp only [Bool.not_true, Bool.false_eq_true, if_false]
      exact wpAny_pure ⟨rfl, rfl, fun v hv => hr v (List.mem_cons_of_mem _ hv)⟩
    · rintro r s' ⟨rfl, rfl, _⟩
      exact wpAny_pure h
theorem find_none {o : Obj} {es ep} {hN : Int} {Q : Option Nat → Shared → Prop} (hu : A.units + 9 < cLine) (ho : s.heap.get? d = some o) (hd : o.data = .dict es ep) (he : es.toList = xs.map (entryOfKey (tkN prog w))) (his : ∀ x ∈ xs, (tkN prog w).is s.heap x.1 x.2.1)
    (h : Q none s) : wpAny (model prog w) A (dictFind d .none hN) Q E s := by
  have hmem : ∀ e ∈ es, ∃ x ∈ xs, e = entryOfKey (tkN prog w) x := by
    intro e hin
    have : e ∈ xs.map (entryOfKey (tkN prog w)) := he ▸ Array.mem_toList_iff.mpr hin
    obtain ⟨x, hx, rfl⟩ := List.mem_map.mp this
    exact ⟨x, hx, rfl⟩
  have hst : ∀ v ∈ (placesWithHash es.size (fun i => es[i]?.map (·.hash)) hN).filterMap (fun i => es[i]?.map (·.key)), ∃ k' b, v = Value.ref b ∧ (tkN prog w).is s.heap k' b := by
    intro v hv
    obtain ⟨i, _, hi⟩ := List.mem_filterMap.mp hv
    cases hei : es[i]? with
    | none => rw [hei] at hi; cases hi
    | some e =>
      rw [hei] at hi
      obtain rfl : e.key = v := by simpa using hi
      obtain ⟨x, hx, rfl⟩ := hmem e (Array.mem_of_getElem? hei)
      exact ⟨x.1, x.2.1, rfl, his x hx⟩
  unfold dictFind
  try with_reducible refine wpAny_holding ?_
  refine wpAny_bind (wpAny_dictEntries ho hd ?_)
  dsimp only
  by_cases hall : ((Value.none :: (placesWithHash es.size (fun i => es[i]?.map (·.hash)) hN).filterMap (fun i => es[i]?.map (·.key))).all carriedByValue) = true
  · rw [if_pos hall]
    have hp : ∀ i ∈ placesWithHash es.size (fun i => es[i]?.map (·.hash)) hN, es[i]? = none := by
      intro i hi
      cases hei : es[i]? with
      | none => rfl
      | some e =>
        have hm : e.key ∈ (placesWithHash es.size (fun i => es[i]?.map (·.hash)) hN).filterMap (fun i => es[i]?.map (·.key)) := List.mem_filterMap.mpr ⟨i, hi, by rw [hei]; rfl⟩
        obtain ⟨k', b, e2, _⟩ := hst _ hm
        have := List.all_eq_true.mp hall _ (List.mem_cons_of_mem _ hm)
        rw [e2] at this
        cases this
    unfold dictWalkPlain
    refine wpAny_bind ?_
    refine wpAny_forIn_list _ (fun rest b s' => s' = s ∧ b = (none, ()) ∧ ∀ i ∈ rest, es[i]? = none) _ ?_ ?_ _ _ ⟨rfl, rfl, hp⟩
    · rintro x rest b s' ⟨rfl, rfl, hr⟩
      rw [hr x List.mem_cons_self]
      exact wpAny_pure ⟨rfl, rfl, fun i hi => hr i (List.mem_cons_of_mem _ hi)⟩
    · rintro b s' ⟨rfl, rfl, _⟩
      exact wpAny_pure h
  · rw [if_neg hall]
    by_cases hone : (((placesWithHash es.size (fun i => es[i]?.map (·.hash)) hN).filterMap (fun i => es[i]?.map (·.key))) == [Value.none]) = true <;>
    (first | rw [if_pos hone] | rw [if_neg hone]) <;> (first | refine wpAny_bind (wpAny_pure ?_) | refine wpAny_bind (mayTell_none hst ?_)) <;> (
      rw [if_neg (by simp)]
      refine wpAny_bind ?_
      refine wpAny_forIn_list _ (fun rest b s' => s' = s ∧ b = (none, none)) _ ?_ ?_ _ _ ⟨rfl, rfl⟩
      · rintro x rest b s' ⟨rfl, rfl⟩
        cases hei : es[x]? with
        | none => exact wpAny_pure ⟨rfl, rfl⟩
        | some e =>
          obtain ⟨y, hy, rfl⟩ := hmem e (Array.mem_of_getElem? hei)
          have hib := his y hy
          have hk : NestedKey.beq y.1 .none = false := by
            cases hq : y.1 with
            | none => rw [hq] at hib; cases hib.1
            | num i => rw [hq] at hib; cases hib.1
            | text t => rw [hq] at hib; cases hib.1
            | tup ks => rfl
          dsimp only
          by_cases hh : ((entryOfKey (tkN prog w) y).hash == hN) = true
          · rw [if_pos hh]
            have hnone : NestedIs s'.heap .none .none := .none
            refine wpAny_bind (wpAny_dictEpoch ho hd (wpAny_bind (eqAt_key y.1 .none A s' _ _ hib.1 hnone (by have := hib.2; simp only [NestedKey.depth]; omega) prog w _ _ (wpAny_bind (wpAny_dictEpoch ho hd ?_)))))
            show wpAny _ _ (if (ep != ep) = true then _ else _) _ E _
            rw [if_neg (by simp)]
            rw [hk]
            simp only [Bool.false_eq_true, if_false]
            refine wpAny_bind (wpAny_rule ?_)
            first | rw [if_neg (by simp)] | skip
            first
              | exact wpAny_pure ⟨rfl, rfl⟩
              | exact wpAny_bind (wpAny_pure (wpAny_pure ⟨rfl, rfl⟩))
          · rw [if_neg hh]
            exact wpAny_pure ⟨rfl, rfl⟩
      · rintro b s' ⟨rfl, rfl⟩
        exact wpAny_pure h)
theorem get_none {Q : Option Value → Shared → Prop} (hu : A.units + 9 < cLine) (hm : s.heap.DictOfH (tkN prog w) d xs) (h : Q none { s with toks := s.toks + NestedKey.draws .none }) : wpAny (model prog w) A (dictGet d .none) Q E s := by
  obtain ⟨o, es, ep, ho, _, hd, he, his, hn⟩ := hm
  unfold dictGet
  try with_reducible refine wpAny_holding ?_
  refine wpAny_bind (pyHash_key (w := w) .none .none A s _ .none (by simp only [NestedKey.depth]; omega) (wpAny_bind (find_none (s := { s with toks := s.toks + NestedKey.draws .none }) hu ho hd he his (wpAny_pure ?_))))
  exact h
theorem has_none {Q : Value → Shared → Prop} (hu : A.in1.units + 9 < cLine) (hd : (d == sysModules) = false) (hm : s.heap.DictOfH (tkN prog w) d xs) (h : Q (.bool false) { s with toks := s.toks + NestedKey.draws .none }) : wpAny (model prog w) A (contains (.ref d) .none) (fun b s' => Q (.bool b) s') E s := by
  unfold contains
  try with_reducible refine wpAny_holding ?_
  refine wpAny_bind (wpAny_specialOf hm.typeIs slot_dict_contains.lookup ?_)
  show wpAny _ _ (if (some (Value.builtin "dict.__contains__") == some Value.none) = true then _ else _) _ E s
  rw [if_neg (by rw [beq_builtin_none]; exact Bool.false_ne_true)]
  refine wpAny_bind (wpAny_callSpecialUnlessNone?_slot (name := Str.ofString "__contains__") hm.typeIs slot_dict_contains
    (wpAny_call_entry slot_dict_contains hm.typeIs entry_dict_contains ?_ (args_dict_contains _ _)))
  show wpAny _ _ (dictGet d .none >>= _) _ _ s
  refine wpAny_bind (get_none hu hm ?_)
  show wpAny _ _ (Builtin.Dict.pendingKey? d .none >>= _) _ _ _
  exact wpAny_bind (wpAny_pendingKey_other hd (wpAny_pure ⟨_, rfl, wpAny_truthy_bool h⟩))
end
def rNonIn (P : Program) (w : World) (K : PySem.W.Frag) (neg : Bool) : R2 := fun x y H Q => ∃ (d : Addr) (o : Obj) (kas : List (NestedKey × Addr)) (xs : List V), x = .non ∧ y = .ref d ∧ DN P w K H d o kas xs ∧ Q (.bl neg) H
section
variable {X : Cx}
theorem op_nonNi (hu : X.A.units + 11 < cLine) : OpR X (compareOp .NotIn) (rNonIn X.prog X.w X.K true) := by
  rintro pins s σ H x y v u Q I rx ry ⟨d, o, kas, xs, rfl, rfl, D, hQ⟩
  cases rx
  cases ry
  obtain ⟨_, es, ep, us, _, _, _, hl, _, dd⟩ := D.dict I
  show wpAny _ _ (do return Value.bool (!(← contains (.ref d) .none))) _ _ s
  refine wpAny_bind (wpAny_mono (has_none (Q := fun b s' => b = .bool false ∧ s' = { s with toks := s.toks + NestedKey.draws .none }) (show X.A.units + 1 + 9 < cLine by omega) D.low dd ⟨rfl, rfl⟩) (fun b s' z => ?_) fun _ _ x => x)
  obtain ⟨e, rfl⟩ := z
  cases e
  exact wpAny_pure ⟨.bl _, H, I.tok _, rfl, hQ⟩
theorem op_nonIn (hu : X.A.units + 11 < cLine) : OpR X (compareOp .In) (rNonIn X.prog X.w X.K false) := by
  rintro pins s σ H x y v u Q I rx ry ⟨d, o, kas, xs, rfl, rfl, D, hQ⟩
  cases rx
  cases ry
  obtain ⟨_, es, ep, us, _, _, _, hl, _, dd⟩ := D.dict I
  show wpAny _ _ (do return Value.bool (← contains (.ref d) .none)) _ _ s
  refine wpAny_bind (wpAny_mono (has_none (Q := fun b s' => b = .bool false ∧ s' = { s with toks := s.toks + NestedKey.draws .none }) (show X.A.units + 1 + 9 < cLine by omega) D.low dd ⟨rfl, rfl⟩) (fun b s' z => ?_) fun _ _ x => x)
  obtain ⟨e, rfl⟩ := z
  cases e
  exact wpAny_pure ⟨.bl _, H, I.tok _, rfl, hQ⟩
end
def isNo : LV → Bool
  | .non => true
  | _ => false
def fNon (neg : Bool) (v w : LV) (h : List LO) : R LV := match v with
  | .non => match w.dct h with
    | some _ => .ok (.bl neg) h
    | none => .bad
  | _ => .bad
def fInZ (neg : Bool) : LV → LV → List LO → R LV := fun v w h => if isNo v = true then fNon neg v w h else fInY neg v w h
section
variable {S : Se} {E : XK}
theorem vo_non {neg : Bool} : VO S E (rNonIn S.P S.w S.K neg) (fNon neg) := fun F ι h H x y v w Q rp zx zy o => by
  unfold fNon at o
  split at o
  · split at o
    · rename_i p e
      obtain ⟨ks, vs⟩ := p
      obtain ⟨d, ob, kas, xs, rfl, D, hk, _, _⟩ := dct_of rp zy e
      cases zx
      exact ⟨d, ob, kas, xs, rfl, rfl, D, Ok.now (rel := RV S.toSg) o rp (.bl _)⟩
    · exact o.elim
  · exact o.elim
def rInZ (P : Program) (w : World) (K : PySem.W.Frag) : R2 := fun x y H Q => rNonIn P w K false x y H Q ∨ rInY P w K x y H Q
def rNiZ (P : Program) (w : World) (K : PySem.W.Frag) : R2 := fun x y H Q => rNonIn P w K true x y H Q ∨ rNiY P w K x y H Q
theorem vo_inZ : VO S E (rInZ S.P S.w S.K) (fInZ false) := VO.orH (fun v _ _ => isNo v) vo_non vo_inY
theorem vo_niZ : VO S E (rNiZ S.P S.w S.K) (fInZ true) := VO.orH (fun v _ _ => isNo v) vo_non vo_niY
theorem op_inZS {X : Cx} (S : Se) (hu : X.A.units + 65 < cLine) (hK : X.K = S.K := by rfl) (hw : X.w = S.w := by rfl) (hP : X.prog = S.P := by rfl) : OpR X (compareOp .In) (rInZ S.P S.w S.K) := by
  have h1 := op_nonIn (X := X) (by omega)
  rw [hK, hw, hP] at h1
  exact h1.or (op_inYS S hu hK hw hP)
theorem op_niZS {X : Cx} (S : Se) (hu : X.A.units + 65 < cLine) (hK : X.K = S.K := by rfl) (hw : X.w = S.w := by rfl) (hP : X.prog = S.P := by rfl) : OpR X (compareOp .NotIn) (rNiZ S.P S.w S.K) := by
  have h1 := op_nonNi (X := X) (by omega)
  rw [hK, hw, hP] at h1
  exact h1.or (op_niYS S hu hK hw hP)
end
/-! ### dict(pairs) that changes later -/
def fDictM (vs : List LV) (h : List LO) : R LV := match vs with
  | [.vl ps] => if ps.length ≤ 60000 then (match foldL [] [] ps with
    | some (ks, ws) => .ok (.ref h.length) (h ++ [.dic ks ws])
    | none => .bad) else .bad
  | _ => .bad
theorem vc_dictM {S : Se} {E : XK} : VC S E (rDictN S.P S.w S.K) fDictM := fun F ι h H xs vs Q rp z o => by
  unfold fDictM at o
  split at o
  · rename_i ps
    split at o
    · rename_i hl
      split at o
      · rename_i ks ws e
        cases z with
        | cons a b =>
          cases b
          cases a with
          | @vl a _ us g1 g2 g3 =>
            obtain ⟨pz, kas, xs', e1, e2, e3, ok, e4, e5, e6⟩ := fold_ok g3 e keysOk_nil rfl .nil .nil (by simpa using hl)
            subst e1
            refine ⟨a, pz, kas, xs', rfl, .inl (.inl g1), e2, e3, fun d ob hp low => o _ _ _ _ (EX.newM hp) (rp.newM hp (.dic upd_same low ok e4 (e5.fwd ((EX.newM (S := S) hp).fwd rp) _ _) (e6.fwd ((EX.newM (S := S) hp).fwd rp) _ _))) (.ref ?_)⟩
            rw [← rp.len, List.getElem?_append_right (Nat.le_refl _)]
            simp
      · exact o.elim
    · exact o.elim
  · exact o.elim
/-! ### == by an own __eq__, of what may still change: it reads what stands at that time -/
theorem iso_any {S : Se} {F F0 F' : Addr → Prop} {ι ι' : List Addr} {H H' : Hp} {h : List LO} (r : Rep S.toSg F ι h H) (e : EX S.toSg F0 [] H F' ι' H') : EX S.toSg F ι H F ι H' ∧ Rep S.toSg F ι h H' := by
  have k : ∀ a o, H a = some o → H' a = some o := fun a o q => e.keep a o (fun m => nomatch m) q
  have ex : EX S.toSg F ι H F ι H' := ⟨e.tup, fun a o _ q => k a o q, ⟨[], by simp, fun _ m => nomatch m⟩, fun _ z => z, fun _ z n => absurd z n, e.dom⟩
  exact ⟨ex, ⟨r.len, r.nd, r.inF, fun a z q => r.dom a z (e.dom a q), fun n o a q1 q2 => (r.obj n o a q1 q2).fwd (ex.fwd r) fun u q => k a u q⟩⟩
def mEqD (neg : Bool) (C : Nat) (ds : List Nat) (f : MF) (ma mb : ME) : ME := fun ρ h => (ma ρ h).bind fun v h1 => (mb ρ h1).bind fun w h2 => match LV.deep h2 100000 v with
  | some (.obj C' fs) => if C' = C then (match LV.deep h2 100000 w with
      | some w' => if tyE ds [] w' = true then (match f [.obj C' fs, w'] [] with
          | .ok (.bl b) _ => .ok (.bl (if neg then !b else b)) h2
          | _ => .bad) else .bad
      | none => .bad) else .bad
  | _ => .bad
theorem se_eqD {S : Se} {E E' : XK} {ta tb : TE} {ma mb : ME} {C : Nat} {f : Addr} {ds : List Nat} {g : MF} (neg : Bool) (k : EqC S C f ds) (ha : SE S E ta ma) (hb : SE S E tb mb) : SE S E (tOp (rOwnE S.K (S.ct C) neg (spM S 2 g) E') ta tb) (mEqD neg C ds g ma mb) := fun F ι h H ρ σ Q rp rs o =>
  ha F ι h H ρ σ _ rp rs (o.seq fun F1 ι1 H1 h1 v x _ e1 rp1 z o1 => hb F1 ι1 h1 H1 ρ σ _ rp1 (rs.ext rp e1) (o1.seq fun F2 ι2 H2 h2 w y _ e2 rp2 zw o2 => by
    have z2 := z.ext rp1 e2
    have rn : Rep S.toSg (fun _ => False) [] [] H2 := ⟨rfl, .nil, fun _ m => (nomatch m), fun _ z => z.elim, fun n o a q => by simp at q⟩
    split at o2
    · rename_i C' fs hv
      split at o2
      · rename_i hC
        subst hC
        split at o2
        · rename_i w' hw
          split at o2
          · rename_i ht
            have d1 : RV S.toSg (fun _ => False) [] H2 (.obj C' fs) x := RV.deep rp2 (fun _ _ z => z) (fun _ z => z.elim) _ _ _ _ hv z2
            have d2 : RV S.toSg (fun _ => False) [] H2 w' y := RV.deep rp2 (fun _ _ z => z) (fun _ z => z.elim) _ _ _ _ hw zw
            obtain ⟨t, ty, nf⟩ := tyE_of k rn d2 ht
            cases d1 with
            | @obj a _ dx fs2 _ q nF hnm hfs =>
              refine ⟨a, dx, fs2, t, rfl, q, ty, nf, rfl, _, [], [], [.obj C' fs, w'], rn, .cons (.obj q nF hnm hfs) (.cons d2 .nil), ?_⟩
              cases r : g [.obj C' fs, w'] [] with
              | ok v h' =>
                rw [r] at o2
                cases v with
                | bl b =>
                  intro F3 ι3 H3 x3 e3 rp3 z3
                  cases z3
                  obtain ⟨ex, rpb⟩ := iso_any rp2 e3
                  exact ⟨b, rfl, o2 F2 ι2 H3 _ ex rpb (.bl _)⟩
                | _ => exact o2.elim
              | er c h' => rw [r] at o2; exact o2.elim
              | bad => rw [r] at o2; exact o2.elim
          · exact o2.elim
        · exact o2.elim
      · exact o2.elim
    · exact o2.elim))
/-! ### list(x) that changes later -/
def fListM (vs : List LV) (h : List LO) : R LV := match vs with
  | [v] => match v.seq h with
    | some xs => .ok (.ref h.length) (h ++ [.lst xs])
    | none => .bad
  | _ => .bad
theorem vc_listM {S : Se} {E : XK} : VC S E (rListY S.P S.w S.K) fListM := fun F ι h H xs vs Q rp z o => by
  unfold fListM at o
  split at o
  · cases z with
    | cons a b =>
      cases b
      split at o
      · rename_i ys e
        obtain ⟨p, zs, rfl, hs, z⟩ := seq_of rp a e
        refine .inl (.inr ⟨p, zs, rfl, hs, fun l hl => o _ _ _ _ (EX.newM hl) (rp.newM hl (.lst upd_same (z.fwd ((EX.newM (S := S) hl).fwd rp) _ _))) (.ref ?_)⟩)
        rw [← rp.len, List.getElem?_append_right (Nat.le_refl _)]
        simp
      · exact o.elim
  · exact o.elim
/-! ### len(dict) -/
def rLenDN (P : Program) (w : World) (K : PySem.W.Frag) : List V → Hp → VK → Prop := fun vs H Q => ∃ (d : Addr) (o : Obj) (kas : List (NestedKey × Addr)) (xs : List V), vs = [.ref d] ∧ DN P w K H d o kas xs ∧ kas.length ≤ 60000 ∧ Q (.int kas.length) H
theorem call_lenDN {X : Cx} : CallR X (.builtin "len") (rLenDN X.prog X.w X.K) := by
  intro pins s σ H xs us Q I r h
  obtain ⟨p, o, kas, ys, rfl, D, hl0, q⟩ := h
  obtain ⟨u, rfl, rx⟩ := vals1 r
  obtain rfl : u = .ref p := rx
  obtain ⟨_, es, ep, ws, _, _, _, hl, _, dd⟩ := D.dict I
  refine call_len_dictH D.low dd (by rw [entL_len hl]; omega) ?_
  rw [entL_len hl]
  exact ⟨.int ((kas.length : Nat) : Int), H, I.tok _, ⟨_, rfl⟩, q⟩
theorem call_lenDNS {X : Cx} (S : Se) (hK : X.K = S.K := by rfl) (hw : X.w = S.w := by rfl) (hP : X.prog = S.P := by rfl) : CallR X (.builtin "len") (rLenDN S.P S.w S.K) := by
  rw [← hK, ← hw, ← hP]
  exact call_lenDN
def fLenD (vs : List LV) (h : List LO) : R LV := match vs with
  | [v] => match v.dct h with
    | some (ks, _) => if ks.length ≤ 60000 then .ok (.int ks.length) h else .bad
    | none => .bad
  | _ => .bad
theorem vc_lenD {S : Se} {E : XK} : VC S E (rLenDN S.P S.w S.K) fLenD := fun F ι h H xs vs Q rp z o => by
  unfold fLenD at o
  split at o
  · split at o
    · rename_i ks ws e
      split at o
      · rename_i hl
        cases z with
        | cons a b =>
          cases b
          obtain ⟨d, ob, kas, xs', rfl, D, hk, h1, h2⟩ := dct_of rp a e
          have e2 := h1.length
          rw [List.length_map] at e2
          refine ⟨d, ob, kas, xs', rfl, D, by omega, ?_⟩
          rw [← e2]
          exact Ok.now (rel := RV S.toSg) o rp (.int _)
      · exact o.elim
    · exact o.elim
  · exact o.elim
/-! ### isinstance of an own class: instances, and values of built-in types -/
def tbOwnX (t : List (Nat × Bool)) (tys : List String) (h : List LO) (v : LV) : Option Bool := match v with
  | .obj C _ => t.lookup C
  | v => match tyN h v with
    | some n => if n ∈ tys then some false else none
    | none => none
theorem isT_ownX {S : Se} {u : Value} {t : List (Nat × Bool)} {tys : List String} (hk : ∀ C b, t.lookup C = some b → ObjC S C ∧ PySem.W.kitOne S.K (.ref (S.ct C)) u = some b) (ht : ∀ n ∈ tys, PySem.W.kitOne S.K (.type n) u = some false) : IsT S u (tbOwnX t tys) := ⟨fun F ι h H v x b rp z e => by
  by_cases c : ∃ D xs, v = .obj D xs
  · obtain ⟨D, xs, rfl⟩ := c
    cases z with
    | obj a n c d =>
      obtain ⟨oc, k⟩ := hk _ _ e
      exact ⟨_, .base (.ins a oc.cl oc.ha oc.hn oc.htk oc.hm), k⟩
  · have e2 : (match tyN h v with | some n => if n ∈ tys then some false else none | none => none) = some b := by
      cases v <;> first | exact e | exact absurd ⟨_, _, rfl⟩ c
    split at e2
    · rename_i n hn
      split at e2
      · rename_i hm
        cases e2
        exact ⟨.type n, tyN_of rp z hn, ht n hm⟩
      · cases e2
    · cases e2⟩
theorem isT2X {S : Se} {u : Value} {C D : Nat} {b c : Bool} (oC : ObjC S C) (oD : ObjC S D) (kC : PySem.W.kitOne S.K (.ref (S.ct C)) u = some b) (kD : PySem.W.kitOne S.K (.ref (S.ct D)) u = some c) (k1 : PySem.W.kitOne S.K (.type "list") u = some false) (k2 : PySem.W.kitOne S.K (.type "int") u = some false) : IsT S u (tbOwnX [(C, b), (D, c)] ["list", "int"]) := isT_ownX (fun E d e => by
    simp only [List.lookup_cons, List.lookup_nil] at e
    split at e
    · rename_i q
      cases e
      rw [beq_iff_eq.mp q]
      exact ⟨oC, kC⟩
    · split at e
      · rename_i q
        cases e
        rw [beq_iff_eq.mp q]
        exact ⟨oD, kD⟩
      · cases e) fun n hn => by
    simp only [List.mem_cons, List.not_mem_nil, or_false] at hn
    rcases hn with e | e <;> rw [e] <;> assumption
theorem eqC2 {S : Se} {C D : Nat} {f : Addr} (eq : PySem.W.findIn S.K (.ref (S.ct C)) "__eq__" = some (some (.ref f))) (fn : PySem.W.isFn S.K (.ref f) = true) (ne : PySem.W.findIn S.K (.ref (S.ct C)) "__ne__" = some (some (.builtin "object.__ne__"))) (oC : ObjC S C) (oD : ObjC S D)
    (nf : PySem.W.notFirst S.K (S.ct C) (.ref (S.ct D)) = true) : EqC S C f [C, D] := ⟨eq, fn, ne, oC.hm, fun E hE => by
    simp only [List.mem_cons, List.not_mem_nil, or_false] at hE
    rcases hE with e | e
    · subst e
      exact ⟨oC, by unfold PySem.W.notFirst; simp⟩
    · subst e
      exact ⟨oD, nf⟩⟩
end Rm
namespace K04
open PySem PySem.Spec PyProof.Rows L2 RZ PpSet Rm
def topS (i : Nat) : Stmt := PySem.Challenge.pw_turnedends_k04_whole_alike_shown.main.body.getD i (.Pass ⟨0, 0, 0, 0⟩)
def kt__MADE_OF : KT := [([97, 110, 121], some (.tup [(.str [97]), (.str [110]), (.str [114])])), ([98, 97, 114, 101], some (.tup [(.str [97]), (.str [110])])), ([108, 111, 110, 101], some (.tup [(.str [97]), (.str [114])]))]
def kt__PLAIN : KT := [([97, 108, 108], some (.str [114, 110])), ([98, 111, 116, 104], none), ([99, 97, 114, 101], none), ([108, 111, 110, 101], some (.str [114])), ([108, 111, 110, 101, 115], none), ([112, 97, 105, 114, 115], none)]
def kt__HELD : KT := [([97, 108, 108], none), ([98, 111, 116, 104], some (.tup [(.str []), (.str [110])])), ([99, 97, 114, 101], none), ([108, 111, 110, 101], none), ([108, 111, 110, 101, 115], some (.tup [(.str [114]), (.str [110])])), ([112, 97, 105, 114, 115], some (.tup [(.str []), (.str [114])]))]
def rt__REPLACED : RT := [([97, 108, 108], [([110], [114, 110])]), ([98, 111, 116, 104], [([114, 110], [110]), ([114], [110])]), ([99, 97, 114, 101], [([114, 110], [110]), ([110], [114, 110])]), ([108, 111, 110, 101], [([110], [114])]), ([108, 111, 110, 101, 115], [([114, 110], [120]), ([114], [110]), ([120], [114, 110])]), ([112, 97, 105, 114, 115], [([114, 110], [110])])]
abbrev s__law_number : Stmt := topS 41
theorem sc__law_number : FnScope ["script", "index", "cells", "cell", "low", "high", "total", "blend"] ["script", "index"] (defScope s__law_number) := ⟨rfl, rfl, rfl, by decide +kernel, rfl, by decide +kernel, by decide +kernel⟩
def mb__law_number : MS := (mSeq (mAsg (mIf (mB (mOp (fEq true) (mVar 0) (mLst mNil))) (mSl (mVar 0) mNoP (mPart (mC (.int 63)))) (mLst (mCons (mC (.int 5)) mNil))) (mName 2)) (mSeq (mAsg (mOp fAdd (mOp fIxX (mVar 2) (mOp fMod (mCB fInt (mCons (mVar 1) mNil)) (mCB fLen (mCons (mVar 2) mNil)))) (mOp fMul (mC (.int 13)) (mOp fDiv (mVar 1) (mCB fLen (mCons (mVar 2) mNil))))) (mName 3)) (mSeq (mPar 4 5 (mCons (mOp fMod (mCB fInt (mCons (mVar 3) mNil)) (mC (.int 1000003))) (mCons (mOp fMod (mCB fInt (mCons (mOp fDiv (mVar 3) (mC (.int 1000003))) mNil)) (mC (.int 999983))) mNil))) (mSeq (mAsg (mOp fMod (mCB fInt (mCons (mCB fSum (mCons (mVar 2) mNil)) mNil)) (mC (.int 65521))) (mName 6)) (mSeq (mAsg (mOp fMod (mCB fInt (mCons (mOp fAdd (mOp fAdd (mOp fMul (mOp fAdd (mVar 4) (mOp fMul (mC (.int 977)) (mVar 1))) (mC (.int 48271))) (mOp fMul (mC (.int 31)) (mVar 5))) (mVar 6)) mNil)) (mC (.int 2147483647))) (mName 7)) (mRet (mOp fAdd (mOp fMul (mOp fMod (mCB fInt (mCons (mOp fMul (mVar 7) (mOp fAdd (mOp fAdd (mVar 7) (mOp fMul (mC (.int 31)) (mVar 1))) (mC (.int 7)))) mNil)) (mC (.int 2147483629))) (mC (.int 65537))) (mVar 5))))))))
def m__law_number : MF := mFn 8 mb__law_number
abbrev s__law_take : Stmt := topS 42
theorem sc__law_take : FnScope ["draw", "many"] ["draw", "many"] (defScope s__law_take) := ⟨rfl, rfl, rfl, by decide +kernel, rfl, by decide +kernel, by decide +kernel⟩
def mb__law_take : MS := (mSeq (mAsg (mOp fAdd (mOp fIxX (mVar 0) (mC (.int 1))) (mC (.int 1))) (mGSub fSetX (mVar 0) (mC (.int 1)))) (mRet (mOp fMod (mCB fInt (mCons (mCall 2 m__law_number (mCons (mOp fIxX (mVar 0) (mC (.int 0))) (mCons (mCB fInt (mCons (mOp fIxX (mVar 0) (mC (.int 1))) mNil)) mNil))) mNil)) (mVar 1))))
def m__law_take : MF := mFn 2 mb__law_take
abbrev s__law_pick : Stmt := topS 43
theorem sc__law_pick : FnScope ["draw", "things"] ["draw", "things"] (defScope s__law_pick) := ⟨rfl, rfl, rfl, by decide +kernel, rfl, by decide +kernel, by decide +kernel⟩
def mb__law_pick : MS := (mRet (mOp fIxX (mVar 1) (mCallS 2 m__law_take (mCons (mVar 0) (mCons (mCB fLen (mCons (mVar 1) mNil)) mNil)))))
def m__law_pick : MF := mFn 2 mb__law_pick
abbrev s__law_way : Stmt := topS 44
theorem sc__law_way : FnScope ["draw", "most", "words", "place"] ["draw", "most"] (defScope s__law_way) := ⟨rfl, rfl, rfl, by decide +kernel, rfl, by decide +kernel, by decide +kernel⟩
def mb__law_way : MS := (mSeq (mAsg (mLst (mCons (mC (.str [97, 108, 108])) (mCons (mC (.str [98, 111, 116, 104])) (mCons (mC (.str [99, 97, 114, 101])) (mCons (mC (.str [108, 111, 110, 101])) (mCons (mC (.str [108, 111, 110, 101, 115])) (mCons (mC (.str [112, 97, 105, 114, 115])) mNil))))))) (mName 2)) (mRet (mCB fTuple (mCons (mLc (mRng1 (mCons (mCallS 2 m__law_take (mCons (mVar 0) (mCons (mOp fAdd (mVar 1) (mC (.int 1))) mNil))) mNil)) (mName 3) mYes (mCallS 2 m__law_pick (mCons (mVar 0) (mCons (mOp fAdd (mVar 2) (mLst (mCons (mC (.str [112, 97, 105, 114, 115])) (mCons (mC (.str [99, 97, 114, 101])) mNil)))) mNil))) [3]) mNil))))
def m__law_way : MF := mFn 4 mb__law_way
abbrev s_Alike_init : Stmt := inClass (topS 38) 0
theorem sc_Alike_init : FnScope ["self", "rows"] ["self", "rows"] (defScope s_Alike_init) := ⟨rfl, rfl, rfl, by decide +kernel, rfl, by decide +kernel, by decide +kernel⟩
def mb_Alike_init : MS := (mFldSet [(1, 0)] (mVar 0) (mCB fListY (mCons (mVar 1) mNil)))
def m_Alike_init : MF := mFn 2 mb_Alike_init
abbrev s_is_conversion : Stmt := topS 21
theorem sc_is_conversion : FnScope ["word"] ["word"] (defScope s_is_conversion) := ⟨rfl, rfl, rfl, by decide +kernel, rfl, by decide +kernel, by decide +kernel⟩
def mb_is_conversion : MS := (mRet (mAndV (mIsi (tbTy "str") (mVar 0)) (mOp (fInY false) (mVar 0) (mC (.tup [(.str [97, 108, 108]), (.str [98, 111, 116, 104]), (.str [99, 97, 114, 101]), (.str [108, 111, 110, 101]), (.str [108, 111, 110, 101, 115]), (.str [112, 97, 105, 114, 115])])))))
def m_is_conversion : MF := mFn 1 mb_is_conversion
abbrev s_is_way : Stmt := topS 22
theorem sc_is_way : FnScope ["way", "word"] ["way"] (defScope s_is_way) := ⟨rfl, rfl, rfl, by decide +kernel, rfl, by decide +kernel, by decide +kernel⟩
def mb_is_way : MS := (mRet (mAndV (mIsi (tbTy "tuple") (mVar 0)) (mAndV (mOp (fCmp fun i j => decide (i ≤ j)) (mCB fLen (mCons (mVar 0) mNil)) (mC (.int 6))) (mCB fAll (mCons (mLc (mAnyI (mVar 0)) (mName 1) mYes (mCall 1 m_is_conversion (mCons (mVar 1) mNil)) [1]) mNil)))))
def m_is_way : MF := mFn 2 mb_is_way
abbrev s_check_way : Stmt := topS 23
theorem sc_check_way : FnScope ["way"] ["way"] (defScope s_check_way) := ⟨rfl, rfl, rfl, by decide +kernel, rfl, by decide +kernel, by decide +kernel⟩
def mb_check_way : MS := (mIfS (mNot (mTru (mCall 1 m_is_way (mCons (mVar 0) mNil)))) mBad mNext)
def m_check_way : MF := mFn 1 mb_check_way
abbrev s_check_kind : Stmt := topS 9
theorem sc_check_kind : FnScope ["kind"] ["kind"] (defScope s_check_kind) := ⟨rfl, rfl, rfl, by decide +kernel, rfl, by decide +kernel, by decide +kernel⟩
def mb_check_kind : MS := (mIfS (mOr (mNot (mTru (mIsi (tbTy "str") (mVar 0)))) (mB (mOp (fInY true) (mVar 0) (mC (.tup [(.str [97, 110, 121]), (.str [98, 97, 114, 101]), (.str [108, 111, 110, 101]), (.str [112, 97, 105, 114, 101, 100])]))))) mBad mNext)
def m_check_kind : MF := mFn 1 mb_check_kind
abbrev s__check_comparing : Stmt := topS 37
theorem sc__check_comparing : FnScope ["one", "other", "kind"] ["one", "other", "kind"] (defScope s__check_comparing) := ⟨rfl, rfl, rfl, by decide +kernel, rfl, by decide +kernel, by decide +kernel⟩
def mb__check_comparing : MS := (mSeq (mDrop (mCall 1 m_check_way (mCons (mVar 0) mNil))) (mSeq (mDrop (mCall 1 m_check_way (mCons (mVar 1) mNil))) (mDrop (mCall 1 m_check_kind (mCons (mVar 2) mNil)))))
def m__check_comparing : MF := mFn 3 mb__check_comparing
abbrev s_starting : Stmt := topS 30
theorem sc_starting : FnScope ["way"] ["way"] (defScope s_starting) := ⟨rfl, rfl, rfl, by decide +kernel, rfl, by decide +kernel, by decide +kernel⟩
def mb_starting : MS := (mRet (mOp fMul (mTup (mCons (mC (.bl false)) mNil)) (mCB fLen (mCons (mVar 0) mNil))))
def m_starting : MF := mFn 1 mb_starting
abbrev s_RowWalk_first : Stmt := inClass (topS 33) 1
theorem sc_RowWalk_first : FnScope ["self"] ["self"] (defScope s_RowWalk_first) := ⟨rfl, rfl, rfl, by decide +kernel, rfl, by decide +kernel, by decide +kernel⟩
def mb_RowWalk_first : MS := (mRet (mTup (mCons (mCall 1 m_starting (mCons (mFld [(0, 0)] (mVar 0)) mNil)) (mCons (mCall 1 m_starting (mCons (mFld [(0, 1)] (mVar 0)) mNil)) (mCons (mC (.bl false)) (mCons (mC (.str [])) (mCons (mC (.str [])) mNil)))))))
def m_RowWalk_first : MF := mFn 1 mb_RowWalk_first
abbrev s_coming : Stmt := topS 12
theorem sc_coming : FnScope ["kind", "waits"] ["kind", "waits"] (defScope s_coming) := ⟨rfl, rfl, rfl, by decide +kernel, rfl, by decide +kernel, by decide +kernel⟩
def mb_coming : MS := (mSeq (mIfS (mB (mOp (fEq false) (mVar 0) (mC (.str [112, 97, 105, 114, 101, 100])))) (mRet (mIf (mTru (mVar 1)) (mTup (mCons (mC (.str [110])) mNil)) (mTup (mCons (mC (.str [97])) (mCons (mC (.str [114])) mNil))))) mNext) (mRet (mIxK kt__MADE_OF (mVar 0))))
def m_coming : MF := mFn 2 mb_coming
abbrev s_RowWalk_signs : Stmt := inClass (topS 33) 2
theorem sc_RowWalk_signs : FnScope ["self", "node"] ["self", "node"] (defScope s_RowWalk_signs) := ⟨rfl, rfl, rfl, by decide +kernel, rfl, by decide +kernel, by decide +kernel⟩
def mb_RowWalk_signs : MS := (mRet (mCall 2 m_coming (mCons (mFld [(0, 2)] (mVar 0)) (mCons (mOp fIxX (mVar 1) (mC (.int 2))) mNil))))
def m_RowWalk_signs : MF := mFn 2 mb_RowWalk_signs
abbrev s__read_one : Stmt := topS 26
theorem sc__read_one : FnScope ["word", "flag", "sign", "ahead_of_n", "otherwise", "held"] ["word", "flag", "sign"] (defScope s__read_one) := ⟨rfl, rfl, rfl, by decide +kernel, rfl, by decide +kernel, by decide +kernel⟩
def mb__read_one : MS := (mSeq (mIfS (mB (mInK kt__PLAIN (mVar 0))) (mRet (mTup (mCons (mC (.bl false)) (mCons (mIf (mB (mOp (fEq false) (mVar 2) (mC (.str [110])))) (mIxK kt__PLAIN (mVar 0)) (mVar 2)) mNil)))) mNext) (mSeq (mIfS (mB (mOp (fEq false) (mVar 0) (mC (.str [99, 97, 114, 101])))) (mRet (mTup (mCons (mOp (fEq false) (mVar 2) (mC (.str [114]))) (mCons (mIf (mAnd (mB (mOp (fEq false) (mVar 2) (mC (.str [110])))) (mNot (mTru (mVar 1)))) (mC (.str [114, 110])) (mVar 2)) mNil)))) mNext) (mSeq (mAsg (mIxK kt__HELD (mVar 0)) (mGTup 2 (mGCons (mName 3) (mGCons (mName 4) mGNil)))) (mSeq (mAsg (mC (.str [])) (mName 5)) (mSeq (mIfS (mTru (mVar 1)) (mAsg (mIf (mB (mOp (fEq false) (mVar 2) (mC (.str [110])))) (mVar 3) (mVar 4)) (mName 5)) mNext) (mRet (mTup (mCons (mOp (fEq false) (mVar 2) (mC (.str [114]))) (mCons (mIf (mB (mOp (fEq false) (mVar 2) (mC (.str [114])))) (mVar 5) (mOp fAdd (mVar 5) (mVar 2))) mNil)))))))))
def m__read_one : MF := mFn 6 mb__read_one
abbrev s__read_all : Stmt := topS 27
theorem sc__read_all : FnScope ["word", "flag", "text", "given", "sign", "out"] ["word", "flag", "text"] (defScope s__read_all) := ⟨rfl, rfl, rfl, by decide +kernel, rfl, by decide +kernel, by decide +kernel⟩
def mb__read_all : MS := (mSeq (mAsg (mLstM mNil) (mName 3)) (mSeq (mFor (mAnyI (mVar 2)) (mName 4) (mSeq (mAsg (mCall 3 m__read_one (mCons (mVar 0) (mCons (mVar 1) (mCons (mVar 4) mNil)))) (mGTup 2 (mGCons (mName 1) (mGCons (mName 5) mGNil)))) (mDrop (mApp (mVar 3) (mVar 5))))) (mRet (mTup (mCons (mVar 1) (mCons (mJoin0 (mVar 3)) mNil))))))
def m__read_all : MF := mFn 6 mb__read_all
abbrev s_ending : Stmt := topS 29
theorem sc_ending : FnScope ["way", "standing", "text", "word", "flag", "flag_behind"] ["way", "standing"] (defScope s_ending) := ⟨rfl, rfl, rfl, by decide +kernel, rfl, by decide +kernel, by decide +kernel⟩
def mb_ending : MS := (mSeq (mAsg (mC (.str [])) (mName 2)) (mSeq (mFor (mZip (mCons (mVar 0) (mCons (mVar 1) mNil))) (mGTup 2 (mGCons (mName 3) (mGCons (mName 4) mGNil))) (mSeq (mAsg (mCall 3 m__read_all (mCons (mVar 3) (mCons (mVar 4) (mCons (mVar 2) mNil)))) (mGTup 2 (mGCons (mName 5) (mGCons (mName 2) mGNil)))) (mIfS (mAnd (mTru (mVar 5)) (mB (mInK kt__HELD (mVar 3)))) (mAsg (mOp fAdd (mVar 2) (mOp fIxX (mIxK kt__HELD (mVar 3)) (mC (.int 1)))) (mName 2)) mNext))) (mRet (mVar 2))))
def m_ending : MF := mFn 6 mb_ending
abbrev s_RowWalk_is_fine : Stmt := inClass (topS 33) 4
theorem sc_RowWalk_is_fine : FnScope ["self", "node", "first", "second", "waits", "ahead", "lag"] ["self", "node"] (defScope s_RowWalk_is_fine) := ⟨rfl, rfl, rfl, by decide +kernel, rfl, by decide +kernel, by decide +kernel⟩
def mb_RowWalk_is_fine : MS := (mSeq (mAsg (mVar 1) (mGTup 5 (mGCons (mName 2) (mGCons (mName 3) (mGCons (mName 4) (mGCons (mName 5) (mGCons (mName 6) mGNil))))))) (mRet (mOrV (mVar 4) (mOp (fEq false) (mOp fAdd (mVar 5) (mCall 2 m_ending (mCons (mFld [(0, 0)] (mVar 0)) (mCons (mVar 2) mNil)))) (mOp fAdd (mVar 6) (mCall 2 m_ending (mCons (mFld [(0, 1)] (mVar 0)) (mCons (mVar 3) mNil))))))))
def m_RowWalk_is_fine : MF := mFn 7 mb_RowWalk_is_fine
abbrev s_is_text : Stmt := topS 8
theorem sc_is_text : FnScope ["text", "sign"] ["text"] (defScope s_is_text) := ⟨rfl, rfl, rfl, by decide +kernel, rfl, by decide +kernel, by decide +kernel⟩
def mb_is_text : MS := (mRet (mAndV (mIsi (tbTy "str") (mVar 0)) (mCB fAll (mCons (mLc (mAnyI (mVar 0)) (mName 1) mYes (mOp (fInY false) (mVar 1) (mC (.tup [(.str [97]), (.str [110]), (.str [114])]))) [1]) mNil))))
def m_is_text : MF := mFn 2 mb_is_text
abbrev s_is_standing : Stmt := topS 24
theorem sc_is_standing : FnScope ["way", "standing", "word", "flag"] ["way", "standing"] (defScope s_is_standing) := ⟨rfl, rfl, rfl, by decide +kernel, rfl, by decide +kernel, by decide +kernel⟩
def mb_is_standing : MS := (mSeq (mIfS (mOr (mNot (mTru (mIsi (tbTy "tuple") (mVar 1)))) (mB (mOp (fEq true) (mCB fLen (mCons (mVar 1) mNil)) (mCB fLen (mCons (mVar 0) mNil))))) (mRet (mC (.bl false))) mNext) (mRet (mCB fAll (mCons (mLc (mZip (mCons (mVar 0) (mCons (mVar 1) mNil))) (mGTup 2 (mGCons (mName 2) (mGCons (mName 3) mGNil))) mYes (mAndV (mIsi (tbTy "bool") (mVar 3)) (mNotV (mAndV (mVar 3) (mInK kt__PLAIN (mVar 2))))) [2, 3]) mNil))))
def m_is_standing : MF := mFn 4 mb_is_standing
abbrev s_RowWalk_is_node : Stmt := inClass (topS 33) 5
theorem sc_RowWalk_is_node : FnScope ["self", "node", "first", "second", "waits", "ahead", "lag"] ["self", "node"] (defScope s_RowWalk_is_node) := ⟨rfl, rfl, rfl, by decide +kernel, rfl, by decide +kernel, by decide +kernel⟩
def mb_RowWalk_is_node : MS := (mSeq (mIfS (mOr (mNot (mTru (mIsi (tbTy "tuple") (mVar 1)))) (mB (mOp (fEq true) (mCB fLen (mCons (mVar 1) mNil)) (mC (.int 5))))) (mRet (mC (.bl false))) mNext) (mSeq (mAsg (mVar 1) (mGTup 5 (mGCons (mName 2) (mGCons (mName 3) (mGCons (mName 4) (mGCons (mName 5) (mGCons (mName 6) mGNil))))))) (mSeq (mIfS (mOr (mNot (mTru (mCall 2 m_is_standing (mCons (mFld [(0, 0)] (mVar 0)) (mCons (mVar 2) mNil))))) (mNot (mTru (mCall 2 m_is_standing (mCons (mFld [(0, 1)] (mVar 0)) (mCons (mVar 3) mNil)))))) (mRet (mC (.bl false))) mNext) (mRet (mAndV (mIsi (tbTy "bool") (mVar 4)) (mAndV (mCall 1 m_is_text (mCons (mVar 5) mNil)) (mAndV (mCall 1 m_is_text (mCons (mVar 6) mNil)) (mOrV (mOp (fEq false) (mVar 5) (mC (.str []))) (mOp (fEq false) (mVar 6) (mC (.str [])))))))))))
def m_RowWalk_is_node : MF := mFn 7 mb_RowWalk_is_node
abbrev s_step : Stmt := topS 28
theorem sc_step : FnScope ["way", "standing", "sign", "behind", "text", "word", "flag", "flag_behind"] ["way", "standing", "sign"] (defScope s_step) := ⟨rfl, rfl, rfl, by decide +kernel, rfl, by decide +kernel, by decide +kernel⟩
def mb_step : MS := (mSeq (mAsg (mLstM mNil) (mName 3)) (mSeq (mAsg (mVar 2) (mName 4)) (mSeq (mFor (mZip (mCons (mVar 0) (mCons (mVar 1) mNil))) (mGTup 2 (mGCons (mName 5) (mGCons (mName 6) mGNil))) (mSeq (mAsg (mCall 3 m__read_all (mCons (mVar 5) (mCons (mVar 6) (mCons (mVar 4) mNil)))) (mGTup 2 (mGCons (mName 7) (mGCons (mName 4) mGNil)))) (mDrop (mApp (mVar 3) (mVar 7))))) (mRet (mTup (mCons (mCB fTuple (mCons (mVar 3) mNil)) (mCons (mVar 4) mNil)))))))
def m_step : MF := mFn 8 mb_step
abbrev s_without_common : Stmt := topS 32
theorem sc_without_common : FnScope ["first", "second", "size"] ["first", "second"] (defScope s_without_common) := ⟨rfl, rfl, rfl, by decide +kernel, rfl, by decide +kernel, by decide +kernel⟩
def mb_without_common : MS := (mSeq (mAsg (mC (.int 0)) (mName 2)) (mSeq (mWhile 50000 (mAnd (mB (mOp (fCmp fun i j => decide (i < j)) (mVar 2) (mCB fLen (mCons (mVar 0) mNil)))) (mAnd (mB (mOp (fCmp fun i j => decide (i < j)) (mVar 2) (mCB fLen (mCons (mVar 1) mNil)))) (mB (mOp (fEq false) (mOp fIxX (mVar 0) (mVar 2)) (mOp fIxX (mVar 1) (mVar 2)))))) (mAug 2 (mC (.int 1)) fun i j => i + j)) (mRet (mTup (mCons (mSl (mVar 0) (mPart (mVar 2)) mNoP) (mCons (mSl (mVar 1) (mPart (mVar 2)) mNoP) mNil))))))
def m_without_common : MF := mFn 3 mb_without_common
abbrev s_is_half : Stmt := topS 11
theorem sc_is_half : FnScope ["kind", "sign"] ["kind", "sign"] (defScope s_is_half) := ⟨rfl, rfl, rfl, by decide +kernel, rfl, by decide +kernel, by decide +kernel⟩
def mb_is_half : MS := (mRet (mAndV (mOp (fEq false) (mVar 0) (mC (.str [112, 97, 105, 114, 101, 100]))) (mOp (fEq false) (mVar 1) (mC (.str [114])))))
def m_is_half : MF := mFn 2 mb_is_half
abbrev s_RowWalk_behind : Stmt := inClass (topS 33) 3
theorem sc_RowWalk_behind : FnScope ["self", "node", "sign", "first", "second", "_", "ahead", "lag", "first_behind", "given", "second_behind", "other_given", "rests"] ["self", "node", "sign"] (defScope s_RowWalk_behind) := ⟨rfl, rfl, rfl, by decide +kernel, rfl, by decide +kernel, by decide +kernel⟩
def mb_RowWalk_behind : MS := (mSeq (mAsg (mVar 1) (mGTup 5 (mGCons (mName 3) (mGCons (mName 4) (mGCons (mName 5) (mGCons (mName 6) (mGCons (mName 7) mGNil))))))) (mSeq (mAsg (mCall 3 m_step (mCons (mFld [(0, 0)] (mVar 0)) (mCons (mVar 3) (mCons (mVar 2) mNil)))) (mGTup 2 (mGCons (mName 8) (mGCons (mName 9) mGNil)))) (mSeq (mAsg (mCall 3 m_step (mCons (mFld [(0, 1)] (mVar 0)) (mCons (mVar 4) (mCons (mVar 2) mNil)))) (mGTup 2 (mGCons (mName 10) (mGCons (mName 11) mGNil)))) (mSeq (mAsg (mCall 2 m_without_common (mCons (mOp fAdd (mVar 6) (mVar 9)) (mCons (mOp fAdd (mVar 7) (mVar 11)) mNil))) (mName 12)) (mRet (mTup (mCons (mVar 8) (mCons (mVar 10) (mCons (mCall 2 m_is_half (mCons (mFld [(0, 2)] (mVar 0)) (mCons (mVar 2) mNil))) (mCons (mOp fIxX (mVar 12) (mC (.int 0))) (mCons (mOp fIxX (mVar 12) (mC (.int 1))) mNil)))))))))))
def m_RowWalk_behind : MF := mFn 13 mb_RowWalk_behind
abbrev s_is_closed : Stmt := topS 14
theorem sc_is_closed : FnScope ["walk", "nodes", "found", "node", "sign"] ["walk", "nodes"] (defScope s_is_closed) := ⟨rfl, rfl, rfl, by decide +kernel, rfl, by decide +kernel, by decide +kernel⟩
def mb_is_closed : MS := (mSeq (mIfS (mNot (mTru (mCB fAll (mCons (mLc (mAnyI (mVar 1)) (mName 3) mYes (mMeth 0 2 m_RowWalk_is_node (mVar 0) (mCons (mVar 3) mNil)) [3]) mNil)))) (mRet (mC (.bl false))) mNext) (mSeq (mAsg (mDc (mAnyI (mVar 1)) (mName 3) mYes (mVar 3) (mC (.bl true)) [3]) (mName 2)) (mSeq (mIfS (mB (mOp (fInY true) (mMeth 0 1 m_RowWalk_first (mVar 0) mNil) (mVar 2))) (mRet (mC (.bl false))) mNext) (mSeq (mFor (mAnyI (mVar 2)) (mName 3) (mSeq (mIfS (mNot (mTru (mMeth 0 2 m_RowWalk_is_fine (mVar 0) (mCons (mVar 3) mNil)))) (mRet (mC (.bl false))) mNext) (mFor (mAnyI (mMeth 0 2 m_RowWalk_signs (mVar 0) (mCons (mVar 3) mNil))) (mName 4) (mIfS (mB (mOp (fInY true) (mMeth 0 3 m_RowWalk_behind (mVar 0) (mCons (mVar 3) (mCons (mVar 4) mNil))) (mVar 2))) (mRet (mC (.bl false))) mNext)))) (mRet (mC (.bl true)))))))
def m_is_closed : MF := mFn 5 mb_is_closed
abbrev s_RowWalk_init : Stmt := inClass (topS 33) 0
theorem sc_RowWalk_init : FnScope ["self", "one", "other", "kind"] ["self", "one", "other", "kind"] (defScope s_RowWalk_init) := ⟨rfl, rfl, rfl, by decide +kernel, rfl, by decide +kernel, by decide +kernel⟩
def mb_RowWalk_init : MS := (mSeq (mFldSet [(0, 0)] (mVar 0) (mVar 1)) (mSeq (mFldSet [(0, 1)] (mVar 0) (mVar 2)) (mFldSet [(0, 2)] (mVar 0) (mVar 3))))
def m_RowWalk_init : MF := mFn 4 mb_RowWalk_init
abbrev s_are_rows : Stmt := topS 34
theorem sc_are_rows : FnScope ["one", "other", "kind", "rows"] ["one", "other", "kind", "rows"] (defScope s_are_rows) := ⟨rfl, rfl, rfl, by decide +kernel, rfl, by decide +kernel, by decide +kernel⟩
def mb_are_rows : MS := (mRet (mCall 2 m_is_closed (mCons (mMake 0 3 4 m_RowWalk_init (mCons (mVar 0) (mCons (mVar 1) (mCons (mVar 2) mNil)))) (mCons (mVar 3) mNil))))
def m_are_rows : MF := mFn 4 mb_are_rows
abbrev s_Alike_shows : Stmt := inClass (topS 38) 2
theorem sc_Alike_shows : FnScope ["self", "one", "other", "kind"] ["self", "one", "other", "kind"] (defScope s_Alike_shows) := ⟨rfl, rfl, rfl, by decide +kernel, rfl, by decide +kernel, by decide +kernel⟩
def mb_Alike_shows : MS := (mSeq (mDrop (mCall 3 m__check_comparing (mCons (mVar 1) (mCons (mVar 2) (mCons (mVar 3) mNil))))) (mRet (mCall 4 m_are_rows (mCons (mVar 1) (mCons (mVar 2) (mCons (mVar 3) (mCons (mFld [(1, 0)] (mVar 0)) mNil)))))))
def m_Alike_shows : MF := mFn 4 mb_Alike_shows
abbrev s_Alike_eq : Stmt := inClass (topS 38) 1
theorem sc_Alike_eq : FnScope ["self", "other"] ["self", "other"] (defScope s_Alike_eq) := ⟨rfl, rfl, rfl, by decide +kernel, rfl, by decide +kernel, by decide +kernel⟩
def mb_Alike_eq : MS := (mRet (mAndV (mIsi (tbOwnX [(1, true), (2, false)] ["list", "int"]) (mVar 1)) (mOp (fEq false) (mFld [(1, 0)] (mVar 0)) (mFld [(1, 0)] (mVar 1)))))
def m_Alike_eq : MF := mFn 2 mb_Alike_eq
abbrev s_Parted_init : Stmt := inClass (topS 39) 0
theorem sc_Parted_init : FnScope ["self", "text"] ["self", "text"] (defScope s_Parted_init) := ⟨rfl, rfl, rfl, by decide +kernel, rfl, by decide +kernel, by decide +kernel⟩
def mb_Parted_init : MS := (mFldSet [(2, 0)] (mVar 0) (mVar 1))
def m_Parted_init : MF := mFn 2 mb_Parted_init
abbrev s_fits : Stmt := topS 10
theorem sc_fits : FnScope ["text", "kind"] ["text", "kind"] (defScope s_fits) := ⟨rfl, rfl, rfl, by decide +kernel, rfl, by decide +kernel, by decide +kernel⟩
def mb_fits : MS := (mSeq (mIfS (mB (mOp (fEq false) (mVar 1) (mC (.str [98, 97, 114, 101])))) (mRet (mOp (fInY true) (mC (.str [114])) (mVar 0))) mNext) (mSeq (mIfS (mB (mOp (fEq false) (mVar 1) (mC (.str [108, 111, 110, 101])))) (mRet (mOp (fInY true) (mC (.str [110])) (mVar 0))) mNext) (mSeq (mIfS (mB (mOp (fEq false) (mVar 1) (mC (.str [112, 97, 105, 114, 101, 100])))) (mRet (mChain (fEq false) (fEq false) (mM1 fCount (mVar 0) (mC (.str [114]))) (mM1 fCount (mVar 0) (mC (.str [110]))) (mM1 fCount (mVar 0) (mC (.str [114, 110]))))) mNext) (mRet (mC (.bl true))))))
def m_fits : MF := mFn 2 mb_fits
abbrev s_turn : Stmt := topS 25
theorem sc_turn : FnScope ["way", "text", "word", "old", "new"] ["way", "text"] (defScope s_turn) := ⟨rfl, rfl, rfl, by decide +kernel, rfl, by decide +kernel, by decide +kernel⟩
def mb_turn : MS := (mSeq (mFor (mAnyI (mVar 0)) (mName 2) (mRepl rt__REPLACED 2 3 4 1)) (mRet (mVar 1)))
def m_turn : MF := mFn 5 mb_turn
abbrev s_is_parting : Stmt := topS 35
theorem sc_is_parting : FnScope ["one", "other", "kind", "text"] ["one", "other", "kind", "text"] (defScope s_is_parting) := ⟨rfl, rfl, rfl, by decide +kernel, rfl, by decide +kernel, by decide +kernel⟩
def mb_is_parting : MS := (mRet (mAndV (mCall 1 m_is_text (mCons (mVar 3) mNil)) (mAndV (mCall 2 m_fits (mCons (mVar 3) (mCons (mVar 2) mNil))) (mOp (fEq true) (mCall 2 m_turn (mCons (mVar 0) (mCons (mVar 3) mNil))) (mCall 2 m_turn (mCons (mVar 1) (mCons (mVar 3) mNil)))))))
def m_is_parting : MF := mFn 4 mb_is_parting
abbrev s_Parted_shows : Stmt := inClass (topS 39) 2
theorem sc_Parted_shows : FnScope ["self", "one", "other", "kind"] ["self", "one", "other", "kind"] (defScope s_Parted_shows) := ⟨rfl, rfl, rfl, by decide +kernel, rfl, by decide +kernel, by decide +kernel⟩
def mb_Parted_shows : MS := (mSeq (mDrop (mCall 3 m__check_comparing (mCons (mVar 1) (mCons (mVar 2) (mCons (mVar 3) mNil))))) (mRet (mCall 4 m_is_parting (mCons (mVar 1) (mCons (mVar 2) (mCons (mVar 3) (mCons (mFld [(2, 0)] (mVar 0)) mNil)))))))
def m_Parted_shows : MF := mFn 4 mb_Parted_shows
abbrev s_Parted_eq : Stmt := inClass (topS 39) 1
theorem sc_Parted_eq : FnScope ["self", "other"] ["self", "other"] (defScope s_Parted_eq) := ⟨rfl, rfl, rfl, by decide +kernel, rfl, by decide +kernel, by decide +kernel⟩
def mb_Parted_eq : MS := (mRet (mAndV (mIsi (tbOwnX [(1, false), (2, true)] ["list", "int"]) (mVar 1)) (mOp (fEq false) (mFld [(2, 0)] (mVar 0)) (mFld [(2, 0)] (mVar 1)))))
def m_Parted_eq : MF := mFn 2 mb_Parted_eq
abbrev s__law_equal_right : Stmt := topS 61
theorem sc__law_equal_right : FnScope ["rows", "some", "kept", "one"] ["rows"] (defScope s__law_equal_right) := ⟨rfl, rfl, rfl, by decide +kernel, rfl, by decide +kernel, by decide +kernel⟩
def mb__law_equal_right : MS := (mSeq (mPar 1 2 (mCons (mCB fListM (mCons (mVar 0) mNil)) (mCons (mCB fListY (mCons (mVar 0) mNil)) mNil))) (mSeq (mAsg (mMakeS 1 1 2 m_Alike_init (mCons (mVar 1) mNil)) (mName 3)) (mSeq (mDrop (mApp (mVar 1) (mOp fIxX (mVar 1) (mC (.int 0))))) (mSeq (mIfS (mOr (mB (mOp (fEq true) (mFld [(1, 0)] (mVar 3)) (mVar 2))) (mOr (mB (mEqD false 1 [1, 2] m_Alike_eq (mVar 3) (mMakeS 1 1 2 m_Alike_init (mCons (mVar 1) mNil)))) (mOr (mB (mEqD true 1 [1, 2] m_Alike_eq (mVar 3) (mMake 1 1 2 m_Alike_init (mCons (mVar 2) mNil)))) (mOr (mB (mEqD false 1 [1, 2] m_Alike_eq (mVar 3) (mMake 2 1 2 m_Parted_init (mCons (mC (.str [110])) mNil)))) (mB (mEqD false 1 [1, 2] m_Alike_eq (mVar 3) (mVar 2))))))) (mRet (mC (.bl false))) mNext) (mSeq (mIfS (mOr (mB (mEqD true 2 [2, 1] m_Parted_eq (mMake 2 1 2 m_Parted_init (mCons (mC (.str [114, 110])) mNil)) (mMake 2 1 2 m_Parted_init (mCons (mC (.str [114, 110])) mNil)))) (mB (mOp (fEq true) (mFld [(2, 0)] (mMake 2 1 2 m_Parted_init (mCons (mC (.str [114, 110])) mNil))) (mC (.str [114, 110]))))) (mRet (mC (.bl false))) mNext) (mRet (mAndV (mEqD true 2 [2, 1] m_Parted_eq (mMake 2 1 2 m_Parted_init (mCons (mC (.str [114, 110])) mNil)) (mMake 2 1 2 m_Parted_init (mCons (mC (.str [110])) mNil))) (mEqD true 2 [2, 1] m_Parted_eq (mMake 2 1 2 m_Parted_init (mCons (mC (.str [])) mNil)) (mMake 1 1 2 m_Alike_init (mCons (mLst mNil) mNil))))))))))
def m__law_equal_right : MF := mFn 4 mb__law_equal_right
abbrev s__law_first : Stmt := topS 53
theorem sc__law_first : FnScope ["way"] ["way"] (defScope s__law_first) := ⟨rfl, rfl, rfl, by decide +kernel, rfl, by decide +kernel, by decide +kernel⟩
def mb__law_first : MS := (mRet (mOp fMul (mTup (mCons (mC (.bl false)) mNil)) (mCB fLen (mCons (mVar 0) mNil))))
def m__law_first : MF := mFn 1 mb__law_first
abbrev s__law_sign : Stmt := topS 50
theorem sc__law_sign : FnScope ["word", "is_held", "sign", "lone"] ["word", "is_held", "sign"] (defScope s__law_sign) := ⟨rfl, rfl, rfl, by decide +kernel, rfl, by decide +kernel, by decide +kernel⟩
def mb__law_sign : MS := (mSeq (mIfS (mB (mOp (fInY false) (mVar 0) (mTup (mCons (mC (.str [97, 108, 108])) (mCons (mC (.str [108, 111, 110, 101])) mNil))))) (mRet (mTup (mCons (mC (.bl false)) (mCons (mIf (mB (mOp (fEq true) (mVar 2) (mC (.str [110])))) (mVar 2) (mIf (mB (mOp (fEq false) (mVar 0) (mC (.str [97, 108, 108])))) (mC (.str [114, 110])) (mC (.str [114])))) mNil)))) mNext) (mSeq (mIfS (mB (mOp (fEq false) (mVar 0) (mC (.str [99, 97, 114, 101])))) (mRet (mTup (mCons (mOp (fEq false) (mVar 2) (mC (.str [114]))) (mCons (mIf (mAnd (mB (mOp (fEq false) (mVar 2) (mC (.str [110])))) (mNot (mTru (mVar 1)))) (mC (.str [114, 110])) (mVar 2)) mNil)))) mNext) (mSeq (mAsg (mIf (mB (mOp (fEq false) (mVar 0) (mC (.str [112, 97, 105, 114, 115])))) (mC (.str [114])) (mC (.str [110]))) (mName 3)) (mSeq (mIfS (mB (mOp (fEq false) (mVar 2) (mC (.str [114])))) (mRet (mTup (mCons (mC (.bl true)) (mCons (mIf (mTru (mVar 1)) (mVar 3) (mC (.str []))) mNil)))) mNext) (mSeq (mIfS (mAnd (mTru (mVar 1)) (mB (mOp (fEq false) (mVar 2) (mC (.str [110]))))) (mRet (mTup (mCons (mC (.bl false)) (mCons (mIf (mB (mOp (fEq false) (mVar 0) (mC (.str [108, 111, 110, 101, 115])))) (mC (.str [114, 110])) (mC (.str [110]))) mNil)))) mNext) (mRet (mTup (mCons (mC (.bl false)) (mCons (mIf (mTru (mVar 1)) (mOp fAdd (mVar 3) (mVar 2)) (mVar 2)) mNil)))))))))
def m__law_sign : MF := mFn 4 mb__law_sign
abbrev s__law_read : Stmt := topS 51
theorem sc__law_read : FnScope ["way", "standing", "text", "late", "word", "is_held", "found", "sign", "some"] ["way", "standing", "text"] (defScope s__law_read) := ⟨rfl, rfl, rfl, by decide +kernel, rfl, by decide +kernel, by decide +kernel⟩
def mb__law_read : MS := (mSeq (mAsg (mLstM mNil) (mName 3)) (mSeq (mFor (mZip (mCons (mVar 0) (mCons (mVar 1) mNil))) (mGTup 2 (mGCons (mName 4) (mGCons (mName 5) mGNil))) (mSeq (mAsg (mC (.str [])) (mName 6)) (mSeq (mFor (mAnyI (mVar 2)) (mName 7) (mSeq (mAsg (mCall 3 m__law_sign (mCons (mVar 4) (mCons (mVar 5) (mCons (mVar 7) mNil)))) (mGTup 2 (mGCons (mName 5) (mGCons (mName 8) mGNil)))) (mAsg (mOp fAdd (mVar 6) (mVar 8)) (mName 6)))) (mSeq (mDrop (mApp (mVar 3) (mVar 5))) (mAsg (mVar 6) (mName 2)))))) (mRet (mTup (mCons (mCB fTuple (mCons (mVar 3) mNil)) (mCons (mVar 2) mNil))))))
def m__law_read : MF := mFn 9 mb__law_read
abbrev s__law_behind : Stmt := topS 55
theorem sc__law_behind : FnScope ["one", "other", "kind", "row", "sign", "first", "second", "mine", "theirs", "late"] ["one", "other", "kind", "row", "sign"] (defScope s__law_behind) := ⟨rfl, rfl, rfl, by decide +kernel, rfl, by decide +kernel, by decide +kernel⟩
def mb__law_behind : MS := (mSeq (mPar 5 6 (mCons (mCall 3 m__law_read (mCons (mVar 0) (mCons (mOp fIxX (mVar 3) (mC (.int 0))) (mCons (mVar 4) mNil)))) (mCons (mCall 3 m__law_read (mCons (mVar 1) (mCons (mOp fIxX (mVar 3) (mC (.int 1))) (mCons (mVar 4) mNil)))) mNil))) (mSeq (mPar 7 8 (mCons (mOp fAdd (mOp fIxX (mVar 3) (mC (.int 3))) (mOp fIxX (mVar 5) (mC (.int 1)))) (mCons (mOp fAdd (mOp fIxX (mVar 3) (mC (.int 4))) (mOp fIxX (mVar 6) (mC (.int 1)))) mNil))) (mSeq (mWhile 50000 (mAnd (mB (mOp (fEq true) (mVar 7) (mC (.str [])))) (mAnd (mB (mOp (fEq true) (mVar 8) (mC (.str [])))) (mB (mOp (fEq false) (mOp fIxX (mVar 7) (mC (.int 0))) (mOp fIxX (mVar 8) (mC (.int 0))))))) (mPar 7 8 (mCons (mSl (mVar 7) (mPart (mC (.int 1))) mNoP) (mCons (mSl (mVar 8) (mPart (mC (.int 1))) mNoP) mNil)))) (mSeq (mAsg (mTup (mCons (mOp fIxX (mVar 5) (mC (.int 0))) (mCons (mOp fIxX (mVar 6) (mC (.int 0))) (mCons (mAndV (mOp (fEq false) (mVar 2) (mC (.str [112, 97, 105, 114, 101, 100]))) (mOp (fEq false) (mVar 4) (mC (.str [114])))) (mCons (mVar 7) (mCons (mVar 8) mNil)))))) (mName 9)) (mRet (mIf (mOr (mB (mOp (fEq false) (mVar 7) (mC (.str [])))) (mB (mOp (fEq false) (mVar 8) (mC (.str []))))) (mVar 9) (mC .non)))))))
def m__law_behind : MF := mFn 10 mb__law_behind
abbrev s__law_can : Stmt := topS 54
theorem sc__law_can : FnScope ["kind", "is_open", "sign"] ["kind", "is_open", "sign"] (defScope s__law_can) := ⟨rfl, rfl, rfl, by decide +kernel, rfl, by decide +kernel, by decide +kernel⟩
def mb__law_can : MS := (mSeq (mIfS (mB (mOp (fEq false) (mVar 0) (mC (.str [112, 97, 105, 114, 101, 100])))) (mRet (mOp (fEq false) (mOp (fEq false) (mVar 2) (mC (.str [110]))) (mVar 1))) mNext) (mRet (mOp (fEq true) (mVar 2) (mDIx [[97, 110, 121], [98, 97, 114, 101], [108, 111, 110, 101]] (mCons (mC (.str [])) (mCons (mC (.str [114])) (mCons (mC (.str [110])) mNil))) (mVar 0)))))
def m__law_can : MF := mFn 3 mb__law_can
abbrev s__law_walk : Stmt := topS 58
theorem sc__law_walk : FnScope ["one", "other", "kind", "start", "found", "waiting", "row", "sign", "late"] ["one", "other", "kind"] (defScope s__law_walk) := ⟨rfl, rfl, rfl, by decide +kernel, rfl, by decide +kernel, by decide +kernel⟩
def mb__law_walk : MS := (mSeq (mAsg (mTup (mCons (mCall 1 m__law_first (mCons (mVar 0) mNil)) (mCons (mCall 1 m__law_first (mCons (mVar 1) mNil)) (mCons (mC (.bl false)) (mCons (mC (.str [])) (mCons (mC (.str [])) mNil)))))) (mName 3)) (mSeq (mPar 4 5 (mCons (mCB fDictM (mCons (mLst (mCons (mTup (mCons (mVar 3) (mCons (mC (.bl true)) mNil))) mNil)) mNil)) (mCons (mLstM (mCons (mVar 3) mNil)) mNil))) (mSeq (mWhile 50000 (mAnd (mB (mOp (fEq true) (mVar 5) (mLst mNil))) (mB (mOp (fCmp fun i j => decide (i < j)) (mCB fLenD (mCons (mVar 4) mNil)) (mC (.int 200))))) (mSeq (mAsg (mPop0 (mVar 5) (mC (.int 0))) (mName 6)) (mFor (mAnyI (mLc (mAnyI (mTup (mCons (mC (.str [97])) (mCons (mC (.str [110])) (mCons (mC (.str [114])) mNil))))) (mName 7) (mTru (mCall 3 m__law_can (mCons (mVar 2) (mCons (mOp fIxX (mVar 6) (mC (.int 2))) (mCons (mVar 7) mNil))))) (mVar 7) [7])) (mName 7) (mSeq (mAsg (mCall 5 m__law_behind (mCons (mVar 0) (mCons (mVar 1) (mCons (mVar 2) (mCons (mVar 6) (mCons (mVar 7) mNil)))))) (mName 8)) (mIfS (mAnd (mB (mOp (fIsN true) (mVar 8) (mC .non))) (mB (mOp (fInY true) (mVar 8) (mVar 4)))) (mSeq (mAsg (mC (.bl true)) (mGSub fSetX (mVar 4) (mVar 8))) (mDrop (mApp (mVar 5) (mVar 8)))) mNext))))) (mRet (mCB fListY (mCons (mVar 4) mNil))))))
def m__law_walk : MF := mFn 9 mb__law_walk
abbrev s__law_end : Stmt := topS 52
theorem sc__law_end : FnScope ["way", "standing", "text", "word", "is_held", "found", "sign", "some"] ["way", "standing"] (defScope s__law_end) := ⟨rfl, rfl, rfl, by decide +kernel, rfl, by decide +kernel, by decide +kernel⟩
def mb__law_end : MS := (mSeq (mAsg (mC (.str [])) (mName 2)) (mSeq (mFor (mZip (mCons (mVar 0) (mCons (mVar 1) mNil))) (mGTup 2 (mGCons (mName 3) (mGCons (mName 4) mGNil))) (mSeq (mAsg (mC (.str [])) (mName 5)) (mSeq (mFor (mAnyI (mVar 2)) (mName 6) (mSeq (mAsg (mCall 3 m__law_sign (mCons (mVar 3) (mCons (mVar 4) (mCons (mVar 6) mNil)))) (mGTup 2 (mGCons (mName 4) (mGCons (mName 7) mGNil)))) (mAsg (mOp fAdd (mVar 5) (mVar 7)) (mName 5)))) (mSeq (mAsg (mVar 5) (mName 2)) (mIfS (mAnd (mTru (mVar 4)) (mB (mOp (fEq true) (mVar 3) (mC (.str [99, 97, 114, 101]))))) (mAsg (mOp fAdd (mVar 5) (mIf (mB (mOp (fEq false) (mVar 3) (mC (.str [112, 97, 105, 114, 115])))) (mC (.str [114])) (mC (.str [110])))) (mName 2)) mNext))))) (mRet (mVar 2))))
def m__law_end : MF := mFn 8 mb__law_end
abbrev s__law_is_even : Stmt := topS 56
theorem sc__law_is_even : FnScope ["one", "other", "row"] ["one", "other", "row"] (defScope s__law_is_even) := ⟨rfl, rfl, rfl, by decide +kernel, rfl, by decide +kernel, by decide +kernel⟩
def mb__law_is_even : MS := (mRet (mAndV (mOp (fIsN true) (mVar 2) (mC .non)) (mOp (fEq false) (mOp fAdd (mOp fIxX (mVar 2) (mC (.int 3))) (mCall 2 m__law_end (mCons (mVar 0) (mCons (mOp fIxX (mVar 2) (mC (.int 0))) mNil)))) (mOp fAdd (mOp fIxX (mVar 2) (mC (.int 4))) (mCall 2 m__law_end (mCons (mVar 1) (mCons (mOp fIxX (mVar 2) (mC (.int 1))) mNil)))))))
def m__law_is_even : MF := mFn 3 mb__law_is_even
abbrev s__law_are_rows : Stmt := topS 57
theorem sc__law_are_rows : FnScope ["one", "other", "kind", "rows", "known", "row", "sign"] ["one", "other", "kind", "rows"] (defScope s__law_are_rows) := ⟨rfl, rfl, rfl, by decide +kernel, rfl, by decide +kernel, by decide +kernel⟩
def mb__law_are_rows : MS := (mSeq (mAsg (mCB fDictN (mCons (mLc (mAnyI (mVar 3)) (mName 5) mYes (mTup (mCons (mVar 5) (mCons (mC (.bl true)) mNil))) [5]) mNil)) (mName 4)) (mSeq (mIfS (mB (mOp (fInY true) (mTup (mCons (mCall 1 m__law_first (mCons (mVar 0) mNil)) (mCons (mCall 1 m__law_first (mCons (mVar 1) mNil)) (mCons (mC (.bl false)) (mCons (mC (.str [])) (mCons (mC (.str [])) mNil)))))) (mVar 4))) (mRet (mC (.bl false))) mNext) (mSeq (mFor (mAnyI (mVar 4)) (mName 5) (mSeq (mIfS (mAnd (mB (mOp (fEq true) (mOp fIxX (mVar 5) (mC (.int 3))) (mC (.str [])))) (mB (mOp (fEq true) (mOp fIxX (mVar 5) (mC (.int 4))) (mC (.str []))))) (mRet (mC (.bl false))) mNext) (mSeq (mIfS (mAnd (mNot (mTru (mOp fIxX (mVar 5) (mC (.int 2))))) (mNot (mTru (mCall 3 m__law_is_even (mCons (mVar 0) (mCons (mVar 1) (mCons (mVar 5) mNil))))))) (mRet (mC (.bl false))) mNext) (mFor (mAnyI (mLc (mAnyI (mTup (mCons (mC (.str [97])) (mCons (mC (.str [110])) (mCons (mC (.str [114])) mNil))))) (mName 6) (mTru (mCall 3 m__law_can (mCons (mVar 2) (mCons (mOp fIxX (mVar 5) (mC (.int 2))) (mCons (mVar 6) mNil))))) (mVar 6) [6])) (mName 6) (mIfS (mB (mOp (fInZ true) (mCall 5 m__law_behind (mCons (mVar 0) (mCons (mVar 1) (mCons (mVar 2) (mCons (mVar 5) (mCons (mVar 6) mNil)))))) (mVar 4))) (mRet (mC (.bl false))) mNext))))) (mRet (mC (.bl true))))))
def m__law_are_rows : MF := mFn 7 mb__law_are_rows
abbrev s__law_lists_right : Stmt := topS 59
theorem sc__law_lists_right : FnScope ["draw", "one", "other", "kind", "rows", "at", "row", "odd", "more", "both", "cases", "some"] ["draw", "one", "other", "kind"] (defScope s__law_lists_right) := ⟨rfl, rfl, rfl, by decide +kernel, rfl, by decide +kernel, by decide +kernel⟩
def mb__law_lists_right : MS := (mSeq (mAsg (mCall 3 m__law_walk (mCons (mVar 1) (mCons (mVar 2) (mCons (mVar 3) mNil)))) (mName 4)) (mSeq (mAsg (mCallS 2 m__law_take (mCons (mVar 0) (mCons (mCB fLen (mCons (mVar 4) mNil)) mNil))) (mName 5)) (mSeq (mAsg (mOp fIxX (mVar 4) (mVar 5)) (mName 6)) (mSeq (mAsg (mOp fAdd (mOp fAdd (mSl (mVar 6) mNoP (mPart (mC (.int 2)))) (mTup (mCons (mNotV (mOp fIxX (mVar 6) (mC (.int 2)))) mNil))) (mSl (mVar 6) (mPart (mC (.int 3))) mNoP)) (mName 7)) (mSeq (mAsg (mOp fAdd (mSl (mVar 6) mNoP (mPart (mC (.int 3)))) (mTup (mCons (mOp fAdd (mOp fIxX (mVar 6) (mC (.int 3))) (mC (.str [97]))) (mCons (mOp fIxX (mVar 6) (mC (.int 4))) mNil)))) (mName 8)) (mSeq (mAsg (mOp fAdd (mSl (mVar 6) mNoP (mPart (mC (.int 3)))) (mTup (mCons (mC (.str [97])) (mCons (mC (.str [110])) mNil)))) (mName 9)) (mSeq (mAsg (mLst (mCons (mVar 4) (mCons (mOp fAdd (mRev (mVar 4)) (mSl (mVar 4) mNoP (mPart (mC (.int 2))))) (mCons (mOp fAdd (mSl (mVar 4) mNoP (mPart (mVar 5))) (mSl (mVar 4) (mPart (mOp fAdd (mVar 5) (mC (.int 1)))) mNoP)) (mCons (mLst mNil) (mCons (mSl (mVar 4) mNoP (mPart (mC (.int 1)))) (mCons (mOp fAdd (mVar 4) (mLst (mCons (mVar 7) mNil))) (mCons (mOp fAdd (mVar 4) (mLst (mCons (mVar 8) mNil))) (mCons (mOp fAdd (mVar 4) (mLst (mCons (mVar 9) mNil))) mNil))))))))) (mName 10)) (mSeq (mFor (mAnyI (mVar 10)) (mName 11) (mIfS (mB (mOp (fEq true) (mMeth 1 4 m_Alike_shows (mMake 1 1 2 m_Alike_init (mCons (mVar 11) mNil)) (mCons (mVar 1) (mCons (mVar 2) (mCons (mVar 3) mNil)))) (mCall 4 m__law_are_rows (mCons (mVar 1) (mCons (mVar 2) (mCons (mVar 3) (mCons (mVar 11) mNil))))))) (mRet (mC (.bl false))) mNext)) (mRet (mC (.bl true)))))))))))
def m__law_lists_right : MF := mFn 12 mb__law_lists_right
abbrev s__law_text : Stmt := topS 45
theorem sc__law_text : FnScope ["draw", "most", "place"] ["draw", "most"] (defScope s__law_text) := ⟨rfl, rfl, rfl, by decide +kernel, rfl, by decide +kernel, by decide +kernel⟩
def mb__law_text : MS := (mRet (mJoin0 (mLc (mRng1 (mCons (mCallS 2 m__law_take (mCons (mVar 0) (mCons (mOp fAdd (mVar 1) (mC (.int 1))) mNil))) mNil)) (mName 2) mYes (mCallS 2 m__law_pick (mCons (mVar 0) (mCons (mLst (mCons (mC (.str [97])) (mCons (mC (.str [110])) (mCons (mC (.str [114])) (mCons (mC (.str [114])) (mCons (mC (.str [110])) mNil)))))) mNil))) [2])))
def m__law_text : MF := mFn 3 mb__law_text
abbrev s__law_is_of : Stmt := topS 48
theorem sc__law_is_of : FnScope ["text", "kind", "pieces", "sign"] ["text", "kind"] (defScope s__law_is_of) := ⟨rfl, rfl, rfl, by decide +kernel, rfl, by decide +kernel, by decide +kernel⟩
def mb__law_is_of : MS := (mSeq (mIfS (mB (mOp (fInY false) (mVar 1) (mTup (mCons (mC (.str [98, 97, 114, 101])) (mCons (mC (.str [108, 111, 110, 101])) mNil))))) (mRet (mOp (fInY true) (mIf (mB (mOp (fEq false) (mVar 1) (mC (.str [98, 97, 114, 101])))) (mC (.str [114])) (mC (.str [110]))) (mCB fListY (mCons (mVar 0) mNil)))) mNext) (mSeq (mIfS (mB (mOp (fEq false) (mVar 1) (mC (.str [97, 110, 121])))) (mRet (mC (.bl true))) mNext) (mSeq (mAsg (mM1 fSplit (mVar 0) (mC (.str [114, 110]))) (mName 2)) (mRet (mNotV (mCB fAny (mCons (mLc (mAnyI (mCB fListY (mCons (mJoin0 (mVar 2)) mNil))) (mName 3) mYes (mOp (fInY false) (mVar 3) (mTup (mCons (mC (.str [110])) (mCons (mC (.str [114])) mNil)))) [3]) mNil)))))))
def m__law_is_of : MF := mFn 4 mb__law_is_of
abbrev s__law_by : Stmt := topS 46
theorem sc__law_by : FnScope ["word", "text", "found", "at", "sign", "is_ahead", "is_behind", "some"] ["word", "text"] (defScope s__law_by) := ⟨rfl, rfl, rfl, by decide +kernel, rfl, by decide +kernel, by decide +kernel⟩
def mb__law_by : MS := (mSeq (mAsg (mC (.str [])) (mName 2)) (mSeq (mFor (mEnumX (mCons (mVar 1) mNil)) (mGTup 2 (mGCons (mName 3) (mGCons (mName 4) mGNil))) (mSeq (mAsg (mOp (fEq false) (mSl (mVar 1) (mPart (mOp fAdd (mVar 3) (mC (.int 1)))) (mPart (mOp fAdd (mVar 3) (mC (.int 2))))) (mC (.str [110]))) (mName 5)) (mSeq (mAsg (mAndV (mOp (fCmp fun i j => decide (j < i)) (mVar 3) (mC (.int 0))) (mOp (fEq false) (mOp fIxX (mVar 1) (mOp fSub (mVar 3) (mC (.int 1)))) (mC (.str [114])))) (mName 6)) (mIfS (mAnd (mB (mOp (fEq false) (mVar 4) (mC (.str [110])))) (mOr (mB (mOp (fEq false) (mVar 0) (mC (.str [97, 108, 108])))) (mAnd (mB (mOp (fEq false) (mVar 0) (mC (.str [99, 97, 114, 101])))) (mNot (mTru (mVar 6)))))) (mAsg (mOp fAdd (mVar 2) (mC (.str [114, 110]))) (mName 2)) (mIfS (mAnd (mB (mOp (fEq false) (mVar 4) (mC (.str [110])))) (mB (mOp (fEq false) (mVar 0) (mC (.str [108, 111, 110, 101]))))) (mAsg (mOp fAdd (mVar 2) (mC (.str [114]))) (mName 2)) (mIfS (mAnd (mB (mOp (fEq false) (mVar 4) (mC (.str [114])))) (mB (mOp (fInY false) (mVar 0) (mTup (mCons (mC (.str [98, 111, 116, 104])) (mCons (mC (.str [108, 111, 110, 101, 115])) (mCons (mC (.str [112, 97, 105, 114, 115])) mNil))))))) (mSeq (mAsg (mDIx [[98, 111, 116, 104], [108, 111, 110, 101, 115], [112, 97, 105, 114, 115]] (mCons (mLst (mCons (mC (.str [110])) (mCons (mC (.str [])) mNil))) (mCons (mLst (mCons (mC (.str [110])) (mCons (mC (.str [114])) mNil))) (mCons (mLst (mCons (mC (.str [114])) (mCons (mC (.str [])) mNil))) mNil))) (mVar 0)) (mName 7)) (mAsg (mOp fAdd (mVar 2) (mOp fIxX (mVar 7) (mIf (mTru (mVar 5)) (mC (.int 1)) (mC (.int 0))))) (mName 2))) (mAsg (mOp fAdd (mVar 2) (mVar 4)) (mName 2)))))))) (mRet (mVar 2))))
def m__law_by : MF := mFn 8 mb__law_by
abbrev s__law_made : Stmt := topS 47
theorem sc__law_made : FnScope ["way", "text", "word"] ["way", "text"] (defScope s__law_made) := ⟨rfl, rfl, rfl, by decide +kernel, rfl, by decide +kernel, by decide +kernel⟩
def mb__law_made : MS := (mSeq (mFor (mAnyI (mVar 0)) (mName 2) (mAsg (mCall 2 m__law_by (mCons (mVar 2) (mCons (mVar 1) mNil))) (mName 1))) (mRet (mVar 1)))
def m__law_made : MF := mFn 3 mb__law_made
abbrev s__law_texts_right : Stmt := topS 60
theorem sc__law_texts_right : FnScope ["draw", "one", "other", "kind", "pair", "more", "some", "is_text_v", "due", "place", "again", "sign"] ["draw", "one", "other", "kind"] (defScope s__law_texts_right) := ⟨rfl, rfl, rfl, by decide +kernel, rfl, by decide +kernel, by decide +kernel⟩
def mb__law_texts_right : MS := (mSeq (mAsg (mJoin0 (mLc (mRng1 (mCons (mC (.int 4)) mNil)) (mName 9) mYes (mCallS 2 m__law_pick (mCons (mVar 0) (mCons (mLst (mCons (mC (.str [97])) (mCons (mC (.str [114, 110])) mNil))) mNil))) [9])) (mName 4)) (mSeq (mAsg (mLc (mRng1 (mCons (mC (.int 4)) mNil)) (mName 10) mYes (mCallS 2 m__law_text (mCons (mVar 0) (mCons (mC (.int 9)) mNil))) [10]) (mName 5)) (mSeq (mFor (mAnyI (mOp fAdd (mLst (mCons (mC (.str [])) (mCons (mC (.str [110])) (mCons (mC (.str [114])) (mCons (mC (.str [114, 110])) (mCons (mC (.str [114, 114, 110])) (mCons (mVar 4) (mCons (mC (.str [120])) (mCons (mC (.str [114, 110, 120])) (mCons (mC (.str [78])) (mCons (mC (.str [97, 110, 110])) mNil))))))))))) (mVar 5))) (mName 6) (mSeq (mAsg (mCB fAll (mCons (mLc (mAnyI (mCB fListY (mCons (mVar 6) mNil))) (mName 11) mYes (mOp (fInY false) (mVar 11) (mTup (mCons (mC (.str [97])) (mCons (mC (.str [110])) (mCons (mC (.str [114])) mNil))))) [11]) mNil)) (mName 7)) (mSeq (mAsg (mAndV (mVar 7) (mAndV (mCall 2 m__law_is_of (mCons (mVar 6) (mCons (mVar 3) mNil))) (mOp (fEq true) (mCall 2 m__law_made (mCons (mVar 1) (mCons (mVar 6) mNil))) (mCall 2 m__law_made (mCons (mVar 2) (mCons (mVar 6) mNil)))))) (mName 8)) (mIfS (mB (mOp (fEq true) (mMeth 2 4 m_Parted_shows (mMake 2 1 2 m_Parted_init (mCons (mVar 6) mNil)) (mCons (mVar 1) (mCons (mVar 2) (mCons (mVar 3) mNil)))) (mVar 8))) (mRet (mC (.bl false))) mNext)))) (mRet (mC (.bl true))))))
def m__law_texts_right : MF := mFn 12 mb__law_texts_right
abbrev s_law : Stmt := topS 62
theorem sc_law : FnScope ["script", "draw", "turn_v", "one", "other", "kind"] ["script"] (defScope s_law) := ⟨rfl, rfl, rfl, by decide +kernel, rfl, by decide +kernel, by decide +kernel⟩
def mb_law : MS := (mSeq (mAsg (mLstM (mCons (mVar 0) (mCons (mC (.int 0)) mNil))) (mName 1)) (mSeq (mFor (mRng1 (mCons (mC (.int 4)) mNil)) (mName 2) (mSeq (mPar 3 4 (mCons (mCallS 2 m__law_way (mCons (mVar 1) (mCons (mC (.int 3)) mNil))) (mCons (mCallS 2 m__law_way (mCons (mVar 1) (mCons (mC (.int 3)) mNil))) mNil))) (mSeq (mIfS (mB (mOp (fEq false) (mCallS 2 m__law_take (mCons (mVar 1) (mCons (mC (.int 2)) mNil))) (mC (.int 0)))) (mAsg (mCallS 2 m__law_pick (mCons (mVar 1) (mCons (mLst (mCons (mTup (mCons (mTup (mCons (mC (.str [112, 97, 105, 114, 115])) (mCons (mC (.str [97, 108, 108])) mNil))) (mCons (mTup (mCons (mC (.str [99, 97, 114, 101])) mNil)) mNil))) (mCons (mTup (mCons (mTup (mCons (mC (.str [98, 111, 116, 104])) mNil)) (mCons (mTup (mCons (mC (.str [112, 97, 105, 114, 115])) (mCons (mC (.str [108, 111, 110, 101, 115])) mNil))) mNil))) (mCons (mTup (mCons (mVar 3) (mCons (mVar 3) mNil))) mNil)))) mNil))) (mGTup 2 (mGCons (mName 3) (mGCons (mName 4) mGNil)))) mNext) (mSeq (mAsg (mCallS 2 m__law_pick (mCons (mVar 1) (mCons (mLst (mCons (mC (.str [97, 110, 121])) (mCons (mC (.str [98, 97, 114, 101])) (mCons (mC (.str [108, 111, 110, 101])) (mCons (mC (.str [112, 97, 105, 114, 101, 100])) mNil))))) mNil))) (mName 5)) (mSeq (mIfS (mOr (mNot (mTru (mCallS 4 m__law_lists_right (mCons (mVar 1) (mCons (mVar 3) (mCons (mVar 4) (mCons (mVar 5) mNil))))))) (mNot (mTru (mCallS 4 m__law_texts_right (mCons (mVar 1) (mCons (mVar 3) (mCons (mVar 4) (mCons (mVar 5) mNil)))))))) (mRet (mC (.bl false))) mNext) (mIfS (mNot (mTru (mCall 1 m__law_equal_right (mCons (mSl (mCall 3 m__law_walk (mCons (mVar 3) (mCons (mVar 4) (mCons (mVar 5) mNil)))) mNoP (mPart (mC (.int 4)))) mNil)))) (mRet (mC (.bl false))) mNext)))))) (mRet (mC (.bl true)))))
def m_law : MF := mFn 6 mb_law
end K04
namespace K04
open PySem PySem.Spec PyProof.Rows L2 RZ PpSet Rm

def h_fa0 : List He.Fa := [.glo "_law_number",
  .glo "_law_take",
  .glo "_law_pick",
  .glo "_law_way",
  .meth "Alike" "__init__",
  .glo "is_conversion",
  .glo "is_way",
  .glo "check_way",
  .glo "check_kind",
  .glo "_check",
  .glo "starting",
  .meth "RowWalk" "first",
  .glo "coming",
  .meth "RowWalk" "signs",
  .glo "_read_one",
  .glo "_read_all",
  .glo "ending",
  .meth "RowWalk" "is_fine",
  .glo "is_text",
  .glo "is_standing",
  .meth "RowWalk" "is_node",
  .glo "step",
  .glo "without_common",
  .glo "is_half",
  .meth "RowWalk" "behind",
  .glo "is_closed",
  .meth "RowWalk" "__init__",
  .glo "are_rows",
  .meth "Alike" "shows",
  .meth "Alike" "__eq__"]
def h_fa1 : List He.Fa := [.meth "Parted" "__init__",
  .glo "fits",
  .glo "turn",
  .glo "is_parting",
  .meth "Parted" "shows",
  .meth "Parted" "__eq__",
  .glo "_law_equal_right",
  .glo "_law_first",
  .glo "_law_sign",
  .glo "_law_read",
  .glo "_law_behind",
  .glo "_law_can",
  .glo "_law_walk",
  .glo "_law_end",
  .glo "_law_is_even",
  .glo "_law_are_rows",
  .glo "_law_lists_right",
  .glo "_law_text",
  .glo "_law_is_of",
  .glo "_law_by",
  .glo "_law_made",
  .glo "_law_texts_right",
  .glo "law",
  .glo "RowWalk",
  .cls "RowWalk",
  .mkr "RowWalk",
  .glo "Alike",
  .cls "Alike",
  .mkr "Alike",
  .glo "Parted"]
def h_fa2 : List He.Fa := [.cls "Parted",
  .mkr "Parted",
  .noat "Alike" "rows",
  .noat "RowWalk" "other",
  .noat "RowWalk" "one",
  .noat "RowWalk" "kind",
  .noat "Parted" "text",
  .free "int",
  .free "len",
  .free "sum",
  .free "tuple",
  .free "range",
  .free "list",
  .free "isinstance",
  .free "str",
  .int "LONGEST" 6,
  .free "all",
  .free "zip",
  .free "bool",
  .free "dict",
  .free "any",
  .free "enumerate",
  .glo "CONVERSIONS",
  .glo "KINDS",
  .glo "SIGNS",
  .glo "_MADE_OF",
  .glo "_PLAIN",
  .glo "_HELD",
  .glo "_REPLACED"]
abbrev h_fa : List He.Fa := h_fa0 ++ (h_fa1 ++ (h_fa2))
def h_fn0 : List He.DefD := [dfn "_law_number" none "_law_number" "_law_number" s__law_number,
  dfn "_law_take" none "_law_take" "_law_take" s__law_take,
  dfn "_law_pick" none "_law_pick" "_law_pick" s__law_pick,
  dfn "_law_way" none "_law_way" "_law_way" s__law_way,
  dfn "Alike" (some "__init__") "__init__" "Alike.__init__" s_Alike_init,
  dfn "is_conversion" none "is_conversion" "is_conversion" s_is_conversion,
  dfn "is_way" none "is_way" "is_way" s_is_way,
  dfn "check_way" none "check_way" "check_way" s_check_way,
  dfn "check_kind" none "check_kind" "check_kind" s_check_kind,
  dfn "_check" none "_check" "_check" s__check_comparing,
  dfn "starting" none "starting" "starting" s_starting,
  dfn "RowWalk" (some "first") "first" "RowWalk.first" s_RowWalk_first,
  dfn "coming" none "coming" "coming" s_coming,
  dfn "RowWalk" (some "signs") "signs" "RowWalk.signs" s_RowWalk_signs,
  dfn "_read_one" none "_read_one" "_read_one" s__read_one,
  dfn "_read_all" none "_read_all" "_read_all" s__read_all,
  dfn "ending" none "ending" "ending" s_ending,
  dfn "RowWalk" (some "is_fine") "is_fine" "RowWalk.is_fine" s_RowWalk_is_fine,
  dfn "is_text" none "is_text" "is_text" s_is_text,
  dfn "is_standing" none "is_standing" "is_standing" s_is_standing,
  dfn "RowWalk" (some "is_node") "is_node" "RowWalk.is_node" s_RowWalk_is_node,
  dfn "step" none "step" "step" s_step,
  dfn "without_common" none "without_common" "without_common" s_without_common,
  dfn "is_half" none "is_half" "is_half" s_is_half,
  dfn "RowWalk" (some "behind") "behind" "RowWalk.behind" s_RowWalk_behind,
  dfn "is_closed" none "is_closed" "is_closed" s_is_closed,
  dfn "RowWalk" (some "__init__") "__init__" "RowWalk.__init__" s_RowWalk_init,
  dfn "are_rows" none "are_rows" "are_rows" s_are_rows,
  dfn "Alike" (some "shows") "shows" "Alike.shows" s_Alike_shows,
  dfn "Alike" (some "__eq__") "__eq__" "Alike.__eq__" s_Alike_eq]
def h_fn1 : List He.DefD := [dfn "Parted" (some "__init__") "__init__" "Parted.__init__" s_Parted_init,
  dfn "fits" none "fits" "fits" s_fits,
  dfn "turn" none "turn" "turn" s_turn,
  dfn "is_parting" none "is_parting" "is_parting" s_is_parting,
  dfn "Parted" (some "shows") "shows" "Parted.shows" s_Parted_shows,
  dfn "Parted" (some "__eq__") "__eq__" "Parted.__eq__" s_Parted_eq,
  dfn "_law_equal_right" none "_law_equal_right" "_law_equal_right" s__law_equal_right,
  dfn "_law_first" none "_law_first" "_law_first" s__law_first,
  dfn "_law_sign" none "_law_sign" "_law_sign" s__law_sign,
  dfn "_law_read" none "_law_read" "_law_read" s__law_read,
  dfn "_law_behind" none "_law_behind" "_law_behind" s__law_behind,
  dfn "_law_can" none "_law_can" "_law_can" s__law_can,
  dfn "_law_walk" none "_law_walk" "_law_walk" s__law_walk,
  dfn "_law_end" none "_law_end" "_law_end" s__law_end,
  dfn "_law_is_even" none "_law_is_even" "_law_is_even" s__law_is_even,
  dfn "_law_are_rows" none "_law_are_rows" "_law_are_rows" s__law_are_rows,
  dfn "_law_lists_right" none "_law_lists_right" "_law_lists_right" s__law_lists_right,
  dfn "_law_text" none "_law_text" "_law_text" s__law_text,
  dfn "_law_is_of" none "_law_is_of" "_law_is_of" s__law_is_of,
  dfn "_law_by" none "_law_by" "_law_by" s__law_by,
  dfn "_law_made" none "_law_made" "_law_made" s__law_made,
  dfn "_law_texts_right" none "_law_texts_right" "_law_texts_right" s__law_texts_right,
  dfn "law" none "law" "law" s_law]
abbrev h_fn : List He.DefD := h_fn0 ++ (h_fn1)
def h_lo0 : List Str := ["TurnError",
  "BadKind",
  "BadWay",
  "SIGNS",
  "KINDS",
  "_MADE_OF",
  "is_text",
  "check_kind",
  "fits",
  "is_half",
  "coming",
  "is_closed",
  "CONVERSIONS",
  "LONGEST",
  "_REPLACED",
  "_HELD",
  "_PLAIN",
  "is_conversion",
  "is_way",
  "check_way",
  "is_standing",
  "turn",
  "_read_one",
  "_read_all",
  "step",
  "ending",
  "starting",
  "without_common",
  "RowWalk",
  "are_rows"]
def h_lo1 : List Str := ["is_parting",
  "_check",
  "Alike",
  "Parted",
  "_law_number",
  "_law_take",
  "_law_pick",
  "_law_way",
  "_law_text",
  "_law_by",
  "_law_made",
  "_law_is_of",
  "_law_texts",
  "_law_sign",
  "_law_read",
  "_law_end",
  "_law_first",
  "_law_can",
  "_law_behind",
  "_law_is_even",
  "_law_are_rows",
  "_law_walk",
  "_law_lists_right",
  "_law_texts_right",
  "_law_equal_right"]
abbrev h_lo : List Str := h_lo0 ++ (h_lo1)
abbrev h_ts : List He.Tab := [(fun K => He.ga K "_MADE_OF", ["any", "bare", "lone"]), (fun K => He.ga K "_PLAIN", ["all", "lone"]), (fun K => He.ga K "_HELD", ["both", "lones", "pairs"]), (fun K => He.ga K "_REPLACED", ["all", "both", "care", "lone", "lones", "pairs"])]
def h_ex0 (K : PySem.W.Frag) : List Bool := [He.eqO (PySem.W.findIn K (.ref (He.ga K "RowWalk")) "__class__") (some (some (.builtin "object.__class__"))),
  decide (PySem.W.mroIn K (He.ga K "RowWalk") (.type "object") = some true),
  He.eqO (PySem.W.findIn K (.ref (He.ga K "Alike")) "__class__") (some (some (.builtin "object.__class__"))),
  decide (PySem.W.mroIn K (He.ga K "Alike") (.type "object") = some true),
  He.eqO (PySem.W.findIn K (.ref (He.ga K "Parted")) "__class__") (some (some (.builtin "object.__class__"))),
  decide (PySem.W.mroIn K (He.ga K "Parted") (.type "object") = some true),
  He.eqO (PySem.W.specialIn K (.builtin "object.__class__") "__get__") (some (some (.builtin "getset_descriptor.__get__"))),
  decide (PySem.W.takesIn K (.builtin "object.__class__") = some true),
  decide (PySem.W.kitOne K (.ref (He.ga K "Alike")) (.ref (He.ga K "Alike")) = some true),
  decide (PySem.W.kitOne K (.ref (He.ga K "Parted")) (.ref (He.ga K "Alike")) = some false),
  decide (PySem.W.kitOne K (.type "list") (.ref (He.ga K "Alike")) = some false),
  decide (PySem.W.kitOne K (.type "int") (.ref (He.ga K "Alike")) = some false),
  decide (PySem.W.kitOne K (.ref (He.ga K "Alike")) (.ref (He.ga K "Parted")) = some false),
  decide (PySem.W.kitOne K (.ref (He.ga K "Parted")) (.ref (He.ga K "Parted")) = some true),
  decide (PySem.W.kitOne K (.type "list") (.ref (He.ga K "Parted")) = some false),
  decide (PySem.W.kitOne K (.type "int") (.ref (He.ga K "Parted")) = some false),
  He.eqO (PySem.W.findIn K (.ref (He.ga K "Alike")) "__ne__") (some (some (.builtin "object.__ne__"))),
  PySem.W.notFirst K (He.ga K "Alike") (.ref (He.ga K "Parted")),
  He.eqO (PySem.W.findIn K (.ref (He.ga K "Parted")) "__ne__") (some (some (.builtin "object.__ne__"))),
  PySem.W.notFirst K (He.ga K "Parted") (.ref (He.ga K "Alike")),
  seqB K (He.ga K "CONVERSIONS") [.str "all", .str "both", .str "care", .str "lone", .str "lones", .str "pairs"],
  seqB K (He.ga K "KINDS") [.str "any", .str "bare", .str "lone", .str "paired"],
  seqB K (He.ga K "SIGNS") [.str "a", .str "n", .str "r"],
  He.eqO (PySem.W.nsIn K (He.ga K "_MADE_OF") "any") (some (some (.ref (va K (He.ga K "_MADE_OF") "any")))),
  seqB K (va K (He.ga K "_MADE_OF") "any") [.str "a", .str "n", .str "r"],
  He.eqO (PySem.W.nsIn K (He.ga K "_MADE_OF") "bare") (some (some (.ref (va K (He.ga K "_MADE_OF") "bare")))),
  seqB K (va K (He.ga K "_MADE_OF") "bare") [.str "a", .str "n"],
  He.eqO (PySem.W.nsIn K (He.ga K "_MADE_OF") "lone") (some (some (.ref (va K (He.ga K "_MADE_OF") "lone")))),
  seqB K (va K (He.ga K "_MADE_OF") "lone") [.str "a", .str "r"],
  nsB K (He.ga K "_PLAIN") "all" "rn"]
def h_ex1 (K : PySem.W.Frag) : List Bool := [He.eqO (PySem.W.nsIn K (He.ga K "_PLAIN") "both") (some none),
  He.eqO (PySem.W.nsIn K (He.ga K "_PLAIN") "care") (some none),
  nsB K (He.ga K "_PLAIN") "lone" "r",
  He.eqO (PySem.W.nsIn K (He.ga K "_PLAIN") "lones") (some none),
  He.eqO (PySem.W.nsIn K (He.ga K "_PLAIN") "pairs") (some none),
  He.eqO (PySem.W.nsIn K (He.ga K "_HELD") "all") (some none),
  He.eqO (PySem.W.nsIn K (He.ga K "_HELD") "both") (some (some (.ref (va K (He.ga K "_HELD") "both")))),
  pairB K (va K (He.ga K "_HELD") "both") "" "n",
  He.eqO (PySem.W.nsIn K (He.ga K "_HELD") "care") (some none),
  He.eqO (PySem.W.nsIn K (He.ga K "_HELD") "lone") (some none),
  He.eqO (PySem.W.nsIn K (He.ga K "_HELD") "lones") (some (some (.ref (va K (He.ga K "_HELD") "lones")))),
  pairB K (va K (He.ga K "_HELD") "lones") "r" "n",
  He.eqO (PySem.W.nsIn K (He.ga K "_HELD") "pairs") (some (some (.ref (va K (He.ga K "_HELD") "pairs")))),
  pairB K (va K (He.ga K "_HELD") "pairs") "" "r",
  He.eqO (PySem.W.nsIn K (He.ga K "_REPLACED") "all") (some (some (.ref (va K (He.ga K "_REPLACED") "all")))),
  seqB K (va K (He.ga K "_REPLACED") "all") [.ref (ia K (va K (He.ga K "_REPLACED") "all") 0)],
  pairB K (ia K (va K (He.ga K "_REPLACED") "all") 0) "n" "rn",
  He.eqO (PySem.W.nsIn K (He.ga K "_REPLACED") "both") (some (some (.ref (va K (He.ga K "_REPLACED") "both")))),
  seqB K (va K (He.ga K "_REPLACED") "both") [.ref (ia K (va K (He.ga K "_REPLACED") "both") 0), .ref (ia K (va K (He.ga K "_REPLACED") "both") 1)],
  pairB K (ia K (va K (He.ga K "_REPLACED") "both") 0) "rn" "n",
  pairB K (ia K (va K (He.ga K "_REPLACED") "both") 1) "r" "n",
  He.eqO (PySem.W.nsIn K (He.ga K "_REPLACED") "care") (some (some (.ref (va K (He.ga K "_REPLACED") "care")))),
  seqB K (va K (He.ga K "_REPLACED") "care") [.ref (ia K (va K (He.ga K "_REPLACED") "care") 0), .ref (ia K (va K (He.ga K "_REPLACED") "care") 1)],
  pairB K (ia K (va K (He.ga K "_REPLACED") "care") 0) "rn" "n",
  pairB K (ia K (va K (He.ga K "_REPLACED") "care") 1) "n" "rn",
  He.eqO (PySem.W.nsIn K (He.ga K "_REPLACED") "lone") (some (some (.ref (va K (He.ga K "_REPLACED") "lone")))),
  seqB K (va K (He.ga K "_REPLACED") "lone") [.ref (ia K (va K (He.ga K "_REPLACED") "lone") 0)],
  pairB K (ia K (va K (He.ga K "_REPLACED") "lone") 0) "n" "r",
  He.eqO (PySem.W.nsIn K (He.ga K "_REPLACED") "lones") (some (some (.ref (va K (He.ga K "_REPLACED") "lones")))),
  seqB K (va K (He.ga K "_REPLACED") "lones") [.ref (ia K (va K (He.ga K "_REPLACED") "lones") 0), .ref (ia K (va K (He.ga K "_REPLACED") "lones") 1), .ref (ia K (va K (He.ga K "_REPLACED") "lones") 2)]]
def h_ex2 (K : PySem.W.Frag) : List Bool := [pairB K (ia K (va K (He.ga K "_REPLACED") "lones") 0) "rn" "x",
  pairB K (ia K (va K (He.ga K "_REPLACED") "lones") 1) "r" "n",
  pairB K (ia K (va K (He.ga K "_REPLACED") "lones") 2) "x" "rn",
  He.eqO (PySem.W.nsIn K (He.ga K "_REPLACED") "pairs") (some (some (.ref (va K (He.ga K "_REPLACED") "pairs")))),
  seqB K (va K (He.ga K "_REPLACED") "pairs") [.ref (ia K (va K (He.ga K "_REPLACED") "pairs") 0)],
  pairB K (ia K (va K (He.ga K "_REPLACED") "pairs") 0) "rn" "n"]
abbrev h_exl (K : PySem.W.Frag) : List Bool := h_ex0 K ++ (h_ex1 K ++ (h_ex2 K))
def h_ex (K : PySem.W.Frag) : Bool := (h_exl K).all id
abbrev hR : PySem.W.OpenRow := PySem.W.OpenLaw.row PySem.Challenge.rw_turnedends_k04_whole_alike_shown
def h_as : List Addr := 3 :: (List.range' 102 377 ++ List.range' 0 102)
abbrev hk : PySem.W.Hook := hookA h_as h_fa h_fn h_ts h_ex
def hob (s : PySem.W.SharedT) : He.AlX := obsA h_as h_fa h_fn h_ts h_ex (HandSHeadRun.getT s)
theorem hob_eq (s : PySem.W.SharedT) : hob s = hk.obs s.abs := obsA_eq (HandSHeadRun.getT_eq s)
abbrev hP (w : World) : Prop := HandSHeadRun.RunEq hR (PySem.W.view hR.prog [62]) hk hob 30000 h_lo w
theorem hrunF (w : World) : hP (w.withFollow "special-get-raises" false) := by
  intro os
  kernel_rfl
theorem hrunT (w : World) : hP (w.withFollow "special-get-raises" true) := by
  intro os
  kernel_rfl
theorem hrun (w : World) : hP w := PySem.W.byRow2 "special-get-raises" hrunF hrunT w
end K04
namespace K04
open PySem PySem.Spec PyProof.Rows L2 RZ PpSet Rm
section
variable {S : Se} {mg : Str → Option Value} {base : Heap} {ag_CONVERSIONS ag_KINDS ag_SIGNS ag__HELD ag__MADE_OF ag__PLAIN ag__REPLACED ag_behind : Addr}
theorem ok_is_conversion {f : Addr} {fd : FuncData} {ag_CONVERSIONS : Addr} (F : Fun S.K "is_conversion" "is_conversion" s_is_conversion f fd) (n_isinstance : mg "isinstance" = none) (n_str : mg "str" = none) (g_CONVERSIONS : mg "CONVERSIONS" = some (.ref ag_CONVERSIONS)) (z_CONVERSIONS : ∀ F ι H, RV S.toSg F ι H (.tup [(.str [97, 108, 108]), (.str [98, 111, 116, 104]), (.str [99, 97, 114, 101]), (.str [108, 111, 110, 101]), (.str [108, 111, 110, 101, 115]), (.str [112, 97, 105, 114, 115])]) (.ref ag_CONVERSIONS)) : FnOk S.P S.w S.K mg base CX0 1 f fd ["word"] (spM S 1 m_is_conversion) := by
  refine F.ok sc_is_conversion (fun vs H Q E h => h.1) (fun cdv A outer s H vs Q E hr h => ?_)
  have nd := sc_is_conversion.nd
  refine ⟨_, (pss_one (ps_ret (pe_and (pe_callB (call_isiS S) (by rfl) n_isinstance (by decide +kernel) (pa_cons (pv 0) (pa_cons (pe_bltn (v := .ty "str") (u := .type "str") (by rfl) n_str (by decide +kernel) rfl) pa_nil))) (pe_one (pe_cmpR (op_inYS S (hu65 hr)) (pv 0) (pe_glob (v := .ref ag_CONVERSIONS) (by rfl) g_CONVERSIONS rfl) rfl))))), fn_run (N := ["word"]) (m := mb_is_conversion) ?_ h⟩
  exact (ss_ret (se_andV (se_isi (.ty "str") isT_ty se_var) (se_op vo_inY se_var (se_c z_CONVERSIONS))))
theorem bd_is_conversion {f : Addr} {fd : FuncData} (F : Fun S.K "is_conversion" "is_conversion" s_is_conversion f fd) : Binds S.K fd ["word"] [] := F.binds (ps := ["word"]) fun _ _ _ _ _ _ us hl => match us, hl with | [_], _ => rfl
theorem ok_RowWalk_is_fine {f : Addr} {fd : FuncData} {fc_ending : Addr} {fdc_ending : FuncData} (F : Fun S.K "is_fine" "RowWalk.is_fine" s_RowWalk_is_fine f fd) (c_ending : Cal S mg base "ending" 3 ["way", "standing"] 2 m_ending fc_ending fdc_ending) (f_one : Fld S "one" [(0, 0)]) (f_other : Fld S "other" [(0, 1)]) : FnOk S.P S.w S.K mg base CX0 4 f fd ["self", "node"] (spM S 2 m_RowWalk_is_fine) := by
  refine F.ok sc_RowWalk_is_fine (fun vs H Q E h => h.1) (fun cdv A outer s H vs Q E hr h => ?_)
  have nd := sc_RowWalk_is_fine.nd
  refine ⟨_, (pss_cons (ps_asg (pv 1) (pg_tup rfl (pgs_cons (pg_name (i := 2) nd rfl (Or.inl rfl)) (pgs_cons (pg_name (i := 3) nd rfl (Or.inl rfl)) (pgs_cons (pg_name (i := 4) nd rfl (Or.inl rfl)) (pgs_cons (pg_name (i := 5) nd rfl (Or.inl rfl)) (pgs_cons (pg_name (i := 6) nd rfl (Or.inl rfl)) pgs_nil))))))) (pss_one (ps_ret (pe_or (pv 4) (pe_one (pe_cmpR (op_eqS S hr.units) (pe_op (op_addS S) (pv 5) (pe_call c_ending.ok (hr.mono (by decide)) (by rfl) c_ending.g c_ending.kp c_ending.b .nil pass0 (pa_cons (pe_fldS S (pv 0)) (pa_cons (pv 2) pa_nil)))) (pe_op (op_addS S) (pv 6) (pe_call c_ending.ok (hr.mono (by decide)) (by rfl) c_ending.g c_ending.kp c_ending.b .nil pass0 (pa_cons (pe_fldS S (pv 0)) (pa_cons (pv 3) pa_nil)))) (nomark _))))))), fn_run (N := ["self", "node", "first", "second", "waits", "ahead", "lag"]) (m := mb_RowWalk_is_fine) ?_ h⟩
  exact (ss_seq (ss_asg se_var (sg_tup (sgs_cons sg_name (sgs_cons sg_name (sgs_cons sg_name (sgs_cons sg_name (sgs_cons sg_name sgs_nil))))))) (ss_ret (se_orV se_var (se_op vo_eq (se_op vo_add se_var (se_call (sa_cons (se_fld f_one se_var) (sa_cons se_var sa_nil)))) (se_op vo_add se_var (se_call (sa_cons (se_fld f_other se_var) (sa_cons se_var sa_nil))))))))
theorem bd_RowWalk_is_fine {f : Addr} {fd : FuncData} (F : Fun S.K "is_fine" "RowWalk.is_fine" s_RowWalk_is_fine f fd) : Binds S.K fd ["self", "node"] [] := F.binds (ps := ["self", "node"]) fun _ _ _ _ _ _ us hl => match us, hl with | [_, _], _ => rfl
theorem ok_Alike_eq {f : Addr} {fd : FuncData} (F : Fun S.K "__eq__" "Alike.__eq__" s_Alike_eq f fd) (n_isinstance : mg "isinstance" = none) (w_Alike : mg "Alike" = some (.ref (S.ct 1))) (vx_Alike : IsT S (.ref (S.ct 1)) (tbOwnX [(1, true), (2, false)] ["list", "int"])) (f_rows : Fld S "rows" [(1, 0)]) : FnOk S.P S.w S.K mg base CX0 1 f fd ["self", "other"] (spM S 2 m_Alike_eq) := by
  refine F.ok sc_Alike_eq (fun vs H Q E h => h.1) (fun cdv A outer s H vs Q E hr h => ?_)
  have nd := sc_Alike_eq.nd
  refine ⟨_, (pss_one (ps_ret (pe_and (pe_callB (call_isiS S) (by rfl) n_isinstance (by decide +kernel) (pa_cons (pv 1) (pa_cons (pe_glob (v := .ref (S.ct 1)) (by rfl) w_Alike rfl) pa_nil))) (pe_one (pe_cmpR (op_eqS S hr.units) (pe_fldS S (pv 0)) (pe_fldS S (pv 1)) (nomark _)))))), fn_run (N := ["self", "other"]) (m := mb_Alike_eq) ?_ h⟩
  exact (ss_ret (se_andV (se_isi (.own _) vx_Alike se_var) (se_op vo_eq (se_fld f_rows se_var) (se_fld f_rows se_var))))
theorem bd_Alike_eq {f : Addr} {fd : FuncData} (F : Fun S.K "__eq__" "Alike.__eq__" s_Alike_eq f fd) : Binds S.K fd ["self", "other"] [] := F.binds (ps := ["self", "other"]) fun _ _ _ _ _ _ us hl => match us, hl with | [_, _], _ => rfl
theorem ok_fits {f : Addr} {fd : FuncData} (F : Fun S.K "fits" "fits" s_fits f fd)  : FnOk S.P S.w S.K mg base CX0 1 f fd ["text", "kind"] (spM S 2 m_fits) := by
  refine F.ok sc_fits (fun vs H Q E h => h.1) (fun cdv A outer s H vs Q E hr h => ?_)
  have nd := sc_fits.nd
  refine ⟨_, (pss_cons (ps_if (pt_cmpR (op_eqS S hr.units) (pv 1) pe_str (nomark _)) (pss_one (ps_ret (pe_cmpR (op_niYS S (hu65 hr)) pe_str (pv 0) rfl))) pss_nil) (pss_cons (ps_if (pt_cmpR (op_eqS S hr.units) (pv 1) pe_str (nomark _)) (pss_one (ps_ret (pe_cmpR (op_niYS S (hu65 hr)) pe_str (pv 0) rfl))) pss_nil) (pss_cons (ps_if (pt_cmpR (op_eqS S hr.units) (pv 1) pe_str (nomark _)) (pss_one (ps_ret (pe_chain (op_eqS S hr.units) (op_eqS S hr.units) (pe_m1 PySem.F.slot_str_count PySem.F.type_str_count mt_count (pv 0) pe_str) (pe_m1 PySem.F.slot_str_count PySem.F.type_str_count mt_count (pv 0) pe_str) (pe_m1 PySem.F.slot_str_count PySem.F.type_str_count mt_count (pv 0) pe_str)))) pss_nil) (pss_one (ps_ret pe_bl))))), fn_run (N := ["text", "kind"]) (m := mb_fits) ?_ h⟩
  exact (ss_seq (ss_if (st_test (se_op vo_eq se_var (se_strL))) (ss_ret (se_op vo_niY (se_strL) se_var)) ss_next) (ss_seq (ss_if (st_test (se_op vo_eq se_var (se_strL))) (ss_ret (se_op vo_niY (se_strL) se_var)) ss_next) (ss_seq (ss_if (st_test (se_op vo_eq se_var (se_strL))) (ss_ret (se_chain vo_eq vo_eq (se_m1 vo_count se_var (se_strL)) (se_m1 vo_count se_var (se_strL)) (se_m1 vo_count se_var (se_strL)))) ss_next) (ss_ret se_bl))))
theorem bd_fits {f : Addr} {fd : FuncData} (F : Fun S.K "fits" "fits" s_fits f fd) : Binds S.K fd ["text", "kind"] [] := F.binds (ps := ["text", "kind"]) fun _ _ _ _ _ _ us hl => match us, hl with | [_, _], _ => rfl
theorem ok__law_end {f : Addr} {fd : FuncData} {fc__law_sign : Addr} {fdc__law_sign : FuncData} (F : Fun S.K "_law_end" "_law_end" s__law_end f fd) (n_zip : mg "zip" = none) (c__law_sign : Cal S mg base "_law_sign" 1 ["word", "is_held", "sign"] 3 m__law_sign fc__law_sign fdc__law_sign) : FnOk S.P S.w S.K mg base CX0 2 f fd ["way", "standing"] (spM S 2 m__law_end) := by
  refine F.ok sc__law_end (fun vs H Q E h => h.1) (fun cdv A outer s H vs Q E hr h => ?_)
  have nd := sc__law_end.nd
  refine ⟨_, (pss_cons (ps_set (i := 2) nd rfl (Or.inl rfl) pe_str) (pss_cons (ps_for PassesOwn.never rfl (pi_zipA (by rfl) n_zip (pa_cons (pv 0) (pa_cons (pv 1) pa_nil))) (pg_tup rfl (pgs_cons (pg_name (i := 3) nd rfl (Or.inl rfl)) (pgs_cons (pg_name (i := 4) nd rfl (Or.inl rfl)) pgs_nil))) (pss_cons (ps_set (i := 5) nd rfl (Or.inl rfl) pe_str) (pss_cons (ps_for PassesOwn.never rfl (pi_anyS S (pv 2)) (pg_name (i := 6) nd rfl (Or.inl rfl)) (pss_cons (ps_asg (pe_call c__law_sign.ok (hr.mono (by decide)) (by rfl) c__law_sign.g c__law_sign.kp c__law_sign.b .nil pass0 (pa_cons (pv 3) (pa_cons (pv 4) (pa_cons (pv 6) pa_nil)))) (pg_tup rfl (pgs_cons (pg_name (i := 4) nd rfl (Or.inl rfl)) (pgs_cons (pg_name (i := 7) nd rfl (Or.inl rfl)) pgs_nil)))) (pss_one (ps_set (i := 5) nd rfl (Or.inl rfl) (pe_op (op_addS S) (pv 5) (pv 7)))))) (pss_cons (ps_set (i := 2) nd rfl (Or.inl rfl) (pv 5)) (pss_one (ps_if (PW.pt (pw_and (pt_truS S (pv 4)) (pw_and1 (pt_cmpR (op_neS S hr.units) (pv 3) pe_str (nomark _))))) (pss_one (ps_set (i := 2) nd rfl (Or.inl rfl) (pe_op (op_addS S) (pv 5) (pe_ifExp (pt_cmpR (op_eqS S hr.units) (pv 3) pe_str (nomark _)) pe_str pe_str)))) pss_nil)))))) (pss_one (ps_ret (pv 2))))), fn_run (N := ["way", "standing", "text", "word", "is_held", "found", "sign", "some"]) (m := mb__law_end) ?_ h⟩
  exact (ss_seq (ss_asg (se_strL) sg_name) (ss_seq (ss_for (si_zip (sa_cons se_var (sa_cons se_var sa_nil))) (sg_tup (sgs_cons sg_name (sgs_cons sg_name sgs_nil))) (ss_seq (ss_asg (se_strL) sg_name) (ss_seq (ss_for (si_any se_var) sg_name (ss_seq (ss_asg (se_call (sa_cons se_var (sa_cons se_var (sa_cons se_var sa_nil)))) (sg_tup (sgs_cons sg_name (sgs_cons sg_name sgs_nil)))) (ss_asg (se_op vo_add se_var se_var) sg_name))) (ss_seq (ss_asg se_var sg_name) (ss_if (st_and (st_tru se_var) (st_test (se_op vo_ne se_var (se_strL)))) (ss_asg (se_op vo_add se_var (se_if (st_test (se_op vo_eq se_var (se_strL))) (se_strL) (se_strL))) sg_name) ss_next))))) (ss_ret se_var)))
theorem bd__law_end {f : Addr} {fd : FuncData} (F : Fun S.K "_law_end" "_law_end" s__law_end f fd) : Binds S.K fd ["way", "standing"] [] := F.binds (ps := ["way", "standing"]) fun _ _ _ _ _ _ us hl => match us, hl with | [_, _], _ => rfl
theorem ok__law_texts_right {f : Addr} {fd : FuncData} {fc__law_pick : Addr} {fdc__law_pick : FuncData} {fc__law_text : Addr} {fdc__law_text : FuncData} {fc__law_is_of : Addr} {fdc__law_is_of : FuncData} {fc__law_made : Addr} {fdc__law_made : FuncData} {fk_Parted_shows : Addr} {fdk_Parted_shows : FuncData} {fq_Parted : Addr} {fdq_Parted : FuncData} (F : Fun S.K "_law_texts_right" "_law_texts_right" s__law_texts_right f fd) (n_range : mg "range" = none) (c__law_pick : Cal S mg base "_law_pick" 3 ["draw", "things"] 2 m__law_pick fc__law_pick fdc__law_pick) (c__law_text : Cal S mg base "_law_text" 4 ["draw", "most"] 2 m__law_text fc__law_text fdc__law_text) (n_all : mg "all" = none) (n_list : mg "list" = none) (c__law_is_of : Cal S mg base "_law_is_of" 1 ["text", "kind"] 2 m__law_is_of fc__law_is_of fdc__law_is_of) (c__law_made : Cal S mg base "_law_made" 2 ["way", "text"] 2 m__law_made fc__law_made fdc__law_made) (k_Parted_shows : Met S mg base 2 "shows" 5 ["self", "one", "other", "kind"] 4 m_Parted_shows fk_Parted_shows fdk_Parted_shows) (q_Parted : Mak S mg base 2 "Parted" 1 ["self", "text"] 2 m_Parted_init fq_Parted fdq_Parted 1) : FnOk S.P S.w S.K mg base CX0 6 f fd ["draw", "one", "other", "kind"] (spM S 4 m__law_texts_right) := by
  refine F.ok sc__law_texts_right (fun vs H Q E h => h.1) (fun cdv A outer s H vs Q E hr h => ?_)
  have nd := sc__law_texts_right.nd
  refine ⟨_, (pss_cons (ps_set (i := 4) nd rfl (Or.inl rfl) (pe_joinS S pe_str (pe_lc (own := [("place", 9)]) (g := (gName 9)) (by rfl) nd (pi_range1 (by rfl) n_range (pa_cons pe_int pa_nil)) (blkOk_by (own := [("place", 9)]) (N := ["draw", "one", "other", "kind", "pair", "more", "some", "is_text_v", "due", "place", "again", "sign"]) (sc := defScope s__law_texts_right) (by decide +kernel)) (fun _ _ _ _ _ => (pg_name (i := 9) nd rfl (Or.inl rfl))) (fun _ _ _ _ _ => pts_nil) (fun _ _ _ _ _ => (pe_call c__law_pick.ok (hr.mono (by decide)) (by rfl) c__law_pick.g c__law_pick.kp c__law_pick.b .nil pass0 (pa_cons (pv 0) (pa_cons (pe_lst (pa_cons pe_str (pa_cons pe_str pa_nil))) pa_nil))))))) (pss_cons (ps_setLc (i := 5) (own := [("again", 10)]) (g := (gName 10)) (by rfl) nd rfl rfl (sw_true rfl rfl rfl (by decide +kernel)) (pi_range1 (by rfl) n_range (pa_cons pe_int pa_nil)) (blkOk_by (own := [("again", 10)]) (N := ["draw", "one", "other", "kind", "pair", "more", "some", "is_text_v", "due", "place", "again", "sign"]) (sc := defScope s__law_texts_right) (by decide +kernel)) (fun _ _ _ _ _ => (pg_name (i := 10) nd rfl (Or.inl rfl))) (fun _ _ _ _ _ => pts_nil) (fun _ _ _ _ _ => (pe_call c__law_text.ok (hr.mono (by decide)) (by rfl) c__law_text.g c__law_text.kp c__law_text.b .nil pass0 (pa_cons (pv 0) (pa_cons pe_int pa_nil))))) (pss_cons (ps_for PassesOwn.never rfl (pi_anyS S (pe_op (op_addS S) (pe_lst (pa_cons pe_str (pa_cons pe_str (pa_cons pe_str (pa_cons pe_str (pa_cons pe_str (pa_cons (pv 4) (pa_cons pe_str (pa_cons pe_str (pa_cons pe_str (pa_cons pe_str pa_nil))))))))))) (pv 5))) (pg_name (i := 6) nd rfl (Or.inl rfl)) (pss_cons (ps_set (i := 7) nd rfl (Or.inl rfl) (pe_callB (call_allS S rfl) (by rfl) n_all (by decide +kernel) (pa_cons (pe_lc (own := [("sign", 11)]) (g := (gName 11)) (by rfl) nd (pi_anyS S (pe_callTy (call_listYS S rfl) (by rfl) n_list (by decide +kernel) (pa_cons (pv 6) pa_nil))) (blkOk_by (own := [("sign", 11)]) (N := ["draw", "one", "other", "kind", "pair", "more", "some", "is_text_v", "due", "place", "again", "sign"]) (sc := defScope s__law_texts_right) (by decide +kernel)) (fun _ _ _ _ _ => (pg_name (i := 11) nd rfl (Or.inl rfl))) (fun _ _ _ _ _ => pts_nil) (fun _ _ _ _ _ => (pe_cmpR (op_inYS S (hu65 hr)) (pv 11) (pe_tup (pa_cons pe_str (pa_cons pe_str (pa_cons pe_str pa_nil)))) rfl))) pa_nil))) (pss_cons (ps_set (i := 8) nd rfl (Or.inl rfl) (pe_and (pv 7) (pe_and (pe_call c__law_is_of.ok (hr.mono (by decide)) (by rfl) c__law_is_of.g c__law_is_of.kp c__law_is_of.b .nil pass0 (pa_cons (pv 6) (pa_cons (pv 3) pa_nil))) (pe_one (pe_cmpR (op_neS S hr.units) (pe_call c__law_made.ok (hr.mono (by decide)) (by rfl) c__law_made.g c__law_made.kp c__law_made.b .nil pass0 (pa_cons (pv 1) (pa_cons (pv 6) pa_nil))) (pe_call c__law_made.ok (hr.mono (by decide)) (by rfl) c__law_made.g c__law_made.kp c__law_made.b .nil pass0 (pa_cons (pv 2) (pa_cons (pv 6) pa_nil))) (nomark _)))))) (pss_one (ps_if (pt_cmpR (op_neS S hr.units) (pe_meth (pe_make q_Parted.mak q_Parted.ok (hr.mono (by decide)) (by rfl) q_Parted.g q_Parted.b .nil pass0 (pa_cons (pv 6) pa_nil)) k_Parted_shows.cl k_Parted_shows.mt k_Parted_shows.ok (hr.mono (by decide)) k_Parted_shows.b .nil pass0 (pa_cons (pv 1) (pa_cons (pv 2) (pa_cons (pv 3) pa_nil)))) (pv 8) (nomark _)) (pss_one (ps_ret pe_bl)) pss_nil))))) (pss_one (ps_ret pe_bl))))), fn_run (N := ["draw", "one", "other", "kind", "pair", "more", "some", "is_text_v", "due", "place", "again", "sign"]) (m := mb__law_texts_right) ?_ h⟩
  exact (ss_seq (ss_asg (se_join0 (se_lc (vs := [9]) (si_rng1 (sa_cons se_int sa_nil)) sg_name (gw_name (by decide)) st_yes (se_callS (sa_cons se_var (sa_cons (se_lst (sa_cons (se_strL) (sa_cons (se_strL) sa_nil))) sa_nil))))) sg_name) (ss_seq (ss_asg (se_lc (vs := [10]) (si_rng1 (sa_cons se_int sa_nil)) sg_name (gw_name (by decide)) st_yes (se_callS (sa_cons se_var (sa_cons se_int sa_nil)))) sg_name) (ss_seq (ss_for (si_any (se_op vo_add (se_lst (sa_cons (se_strL) (sa_cons (se_strL) (sa_cons (se_strL) (sa_cons (se_strL) (sa_cons (se_strL) (sa_cons se_var (sa_cons (se_strL) (sa_cons (se_strL) (sa_cons (se_strL) (sa_cons (se_strL) sa_nil))))))))))) se_var)) sg_name (ss_seq (ss_asg (se_cb vc_all (sa_cons (se_lc (vs := [11]) (si_any (se_cb vc_listY (sa_cons se_var sa_nil))) sg_name (gw_name (by decide)) st_yes (se_op vo_inY se_var (se_tup (sa_cons (se_strL) (sa_cons (se_strL) (sa_cons (se_strL) sa_nil)))))) sa_nil)) sg_name) (ss_seq (ss_asg (se_andV se_var (se_andV (se_call (sa_cons se_var (sa_cons se_var sa_nil))) (se_op vo_ne (se_call (sa_cons se_var (sa_cons se_var sa_nil))) (se_call (sa_cons se_var (sa_cons se_var sa_nil)))))) sg_name) (ss_if (st_test (se_op vo_ne (se_meth k_Parted_shows.nm (se_make q_Parted.k (sa_cons se_var sa_nil)) (sa_cons se_var (sa_cons se_var (sa_cons se_var sa_nil)))) se_var)) (ss_ret se_bl) ss_next)))) (ss_ret se_bl))))
theorem bd__law_texts_right {f : Addr} {fd : FuncData} (F : Fun S.K "_law_texts_right" "_law_texts_right" s__law_texts_right f fd) : Binds S.K fd ["draw", "one", "other", "kind"] [] := F.binds (ps := ["draw", "one", "other", "kind"]) fun _ _ _ _ _ _ us hl => match us, hl with | [_, _, _, _], _ => rfl
end
end K04
namespace K04
open PySem PySem.Spec PyProof.Rows L2 RZ PpSet Rm
section
variable {S : Se} {mg : Str → Option Value} {base : Heap} {ag_CONVERSIONS ag_KINDS ag_SIGNS ag__HELD ag__MADE_OF ag__PLAIN ag__REPLACED ag_behind : Addr}
theorem ok__law_pick {f : Addr} {fd : FuncData} {fc__law_take : Addr} {fdc__law_take : FuncData} (F : Fun S.K "_law_pick" "_law_pick" s__law_pick f fd) (c__law_take : Cal S mg base "_law_take" 2 ["draw", "many"] 2 m__law_take fc__law_take fdc__law_take) (n_len : mg "len" = none) : FnOk S.P S.w S.K mg base CX0 3 f fd ["draw", "things"] (spM S 2 m__law_pick) := by
  refine F.ok sc__law_pick (fun vs H Q E h => h.1) (fun cdv A outer s H vs Q E hr h => ?_)
  have nd := sc__law_pick.nd
  refine ⟨_, (pss_one (ps_ret (pe_ix (ix_S S (hu9 hr)) (pv 1) (pe_call c__law_take.ok (hr.mono (by decide)) (by rfl) c__law_take.g c__law_take.kp c__law_take.b .nil pass0 (pa_cons (pv 0) (pa_cons (pe_callB (call_lenS S) (by rfl) n_len (by decide +kernel) (pa_cons (pv 1) pa_nil)) pa_nil))) (fun _ _ => rfl)))), fn_run (N := ["draw", "things"]) (m := mb__law_pick) ?_ h⟩
  exact (ss_ret (se_op vo_ixX se_var (se_callS (sa_cons se_var (sa_cons (se_cb vc_len (sa_cons se_var sa_nil)) sa_nil)))))
theorem bd__law_pick {f : Addr} {fd : FuncData} (F : Fun S.K "_law_pick" "_law_pick" s__law_pick f fd) : Binds S.K fd ["draw", "things"] [] := F.binds (ps := ["draw", "things"]) fun _ _ _ _ _ _ us hl => match us, hl with | [_, _], _ => rfl
theorem ok_ending {f : Addr} {fd : FuncData} {fc__read_all : Addr} {fdc__read_all : FuncData} {ag__HELD : Addr} (F : Fun S.K "ending" "ending" s_ending f fd) (n_zip : mg "zip" = none) (c__read_all : Cal S mg base "_read_all" 2 ["word", "flag", "text"] 3 m__read_all fc__read_all fdc__read_all) (g__HELD : mg "_HELD" = some (.ref ag__HELD)) (t__HELD : KTab S.toSg ag__HELD kt__HELD) : FnOk S.P S.w S.K mg base CX0 3 f fd ["way", "standing"] (spM S 2 m_ending) := by
  refine F.ok sc_ending (fun vs H Q E h => h.1) (fun cdv A outer s H vs Q E hr h => ?_)
  have nd := sc_ending.nd
  refine ⟨_, (pss_cons (ps_set (i := 2) nd rfl (Or.inl rfl) pe_str) (pss_cons (ps_for PassesOwn.never rfl (pi_zipA (by rfl) n_zip (pa_cons (pv 0) (pa_cons (pv 1) pa_nil))) (pg_tup rfl (pgs_cons (pg_name (i := 3) nd rfl (Or.inl rfl)) (pgs_cons (pg_name (i := 4) nd rfl (Or.inl rfl)) pgs_nil))) (pss_cons (ps_asg (pe_call c__read_all.ok (hr.mono (by decide)) (by rfl) c__read_all.g c__read_all.kp c__read_all.b .nil pass0 (pa_cons (pv 3) (pa_cons (pv 4) (pa_cons (pv 2) pa_nil)))) (pg_tup rfl (pgs_cons (pg_name (i := 5) nd rfl (Or.inl rfl)) (pgs_cons (pg_name (i := 2) nd rfl (Or.inl rfl)) pgs_nil)))) (pss_one (ps_if (PW.pt (pw_and (pt_truS S (pv 5)) (pw_and1 (pt_cmpR (op_kdS S) (pv 3) (pe_glob (v := .ref ag__HELD) (by rfl) g__HELD rfl) rfl)))) (pss_one (ps_set (i := 2) nd rfl (Or.inl rfl) (pe_op (op_addS S) (pv 2) (pe_ix (ix_S S (hu9 hr)) (pe_ix (ix_kdS S) (pe_glob (v := .ref ag__HELD) (by rfl) g__HELD rfl) (pv 3) (fun _ _ => rfl)) pe_int (fun _ _ => rfl))))) pss_nil)))) (pss_one (ps_ret (pv 2))))), fn_run (N := ["way", "standing", "text", "word", "flag", "flag_behind"]) (m := mb_ending) ?_ h⟩
  exact (ss_seq (ss_asg (se_strL) sg_name) (ss_seq (ss_for (si_zip (sa_cons se_var (sa_cons se_var sa_nil))) (sg_tup (sgs_cons sg_name (sgs_cons sg_name sgs_nil))) (ss_seq (ss_asg (se_call (sa_cons se_var (sa_cons se_var (sa_cons se_var sa_nil)))) (sg_tup (sgs_cons sg_name (sgs_cons sg_name sgs_nil)))) (ss_if (st_and (st_tru se_var) (st_test (se_inK t__HELD se_var))) (ss_asg (se_op vo_add se_var (se_op vo_ixX (se_ixK t__HELD se_var) se_int)) sg_name) ss_next))) (ss_ret se_var)))
theorem bd_ending {f : Addr} {fd : FuncData} (F : Fun S.K "ending" "ending" s_ending f fd) : Binds S.K fd ["way", "standing"] [] := F.binds (ps := ["way", "standing"]) fun _ _ _ _ _ _ us hl => match us, hl with | [_, _], _ => rfl
theorem ok_is_standing {f : Addr} {fd : FuncData} {ag__PLAIN : Addr} (F : Fun S.K "is_standing" "is_standing" s_is_standing f fd) (n_isinstance : mg "isinstance" = none) (n_tuple : mg "tuple" = none) (n_len : mg "len" = none) (n_all : mg "all" = none) (n_zip : mg "zip" = none) (n_bool : mg "bool" = none) (g__PLAIN : mg "_PLAIN" = some (.ref ag__PLAIN)) (t__PLAIN : KTab S.toSg ag__PLAIN kt__PLAIN) : FnOk S.P S.w S.K mg base CX0 1 f fd ["way", "standing"] (spM S 2 m_is_standing) := by
  refine F.ok sc_is_standing (fun vs H Q E h => h.1) (fun cdv A outer s H vs Q E hr h => ?_)
  have nd := sc_is_standing.nd
  refine ⟨_, (pss_cons (ps_if (PW.pt (pw_or (pt_not (pt_truS S (pe_callB (call_isiS S) (by rfl) n_isinstance (by decide +kernel) (pa_cons (pv 1) (pa_cons (pe_bltn (v := .ty "tuple") (u := .type "tuple") (by rfl) n_tuple (by decide +kernel) rfl) pa_nil))))) (pw_or1 (pt_cmpR (op_neS S hr.units) (pe_callB (call_lenS S) (by rfl) n_len (by decide +kernel) (pa_cons (pv 1) pa_nil)) (pe_callB (call_lenS S) (by rfl) n_len (by decide +kernel) (pa_cons (pv 0) pa_nil)) (nomark _))))) (pss_one (ps_ret pe_bl)) pss_nil) (pss_one (ps_ret (pe_callB (call_allS S rfl) (by rfl) n_all (by decide +kernel) (pa_cons (pe_lc (own := [("word", 2), ("flag", 3)]) (g := (gTup S.K 2 (gNames [2, 3]))) (by rfl) nd (pi_zipA (by rfl) n_zip (pa_cons (pv 0) (pa_cons (pv 1) pa_nil))) (blkOk_by (own := [("word", 2), ("flag", 3)]) (N := ["way", "standing", "word", "flag"]) (sc := defScope s_is_standing) (by decide +kernel)) (fun _ _ _ _ _ => (pg_tup rfl (pgs_cons (pg_name (i := 2) nd rfl (Or.inl rfl)) (pgs_cons (pg_name (i := 3) nd rfl (Or.inl rfl)) pgs_nil)))) (fun _ _ _ _ _ => pts_nil) (fun _ _ _ _ _ => (pe_and (pe_callB (call_isiS S) (by rfl) n_isinstance (by decide +kernel) (pa_cons (pv 3) (pa_cons (pe_bltn (v := .ty "bool") (u := .type "bool") (by rfl) n_bool (by decide +kernel) rfl) pa_nil))) (pe_one (pe_not (pe_and (pv 3) (pe_one (pe_cmpR (op_kdS S) (pv 2) (pe_glob (v := .ref ag__PLAIN) (by rfl) g__PLAIN rfl) rfl)))))))) pa_nil))))), fn_run (N := ["way", "standing", "word", "flag"]) (m := mb_is_standing) ?_ h⟩
  exact (ss_seq (ss_if (st_or (st_not (st_tru (se_isi (.ty "tuple") isT_ty se_var))) (st_test (se_op vo_ne (se_cb vc_len (sa_cons se_var sa_nil)) (se_cb vc_len (sa_cons se_var sa_nil))))) (ss_ret se_bl) ss_next) (ss_ret (se_cb vc_all (sa_cons (se_lc (vs := [2, 3]) (si_zip (sa_cons se_var (sa_cons se_var sa_nil))) (sg_tup (sgs_cons sg_name (sgs_cons sg_name sgs_nil))) (gw_tup (gws_names [2, 3] (by decide))) st_yes (se_andV (se_isi (.ty "bool") isT_ty se_var) (se_notV (se_andV se_var (se_inK t__PLAIN se_var))))) sa_nil))))
theorem bd_is_standing {f : Addr} {fd : FuncData} (F : Fun S.K "is_standing" "is_standing" s_is_standing f fd) : Binds S.K fd ["way", "standing"] [] := F.binds (ps := ["way", "standing"]) fun _ _ _ _ _ _ us hl => match us, hl with | [_, _], _ => rfl
theorem ok_Parted_shows {f : Addr} {fd : FuncData} {fc__check : Addr} {fdc__check : FuncData} {fc_is_parting : Addr} {fdc_is_parting : FuncData} (F : Fun S.K "shows" "Parted.shows" s_Parted_shows f fd) (c__check : Cal S mg base "_check" 4 ["one", "other", "kind"] 3 m__check_comparing fc__check fdc__check) (c_is_parting : Cal S mg base "is_parting" 2 ["one", "other", "kind", "text"] 4 m_is_parting fc_is_parting fdc_is_parting) (f_text : Fld S "text" [(2, 0)]) : FnOk S.P S.w S.K mg base CX0 5 f fd ["self", "one", "other", "kind"] (spM S 4 m_Parted_shows) := by
  refine F.ok sc_Parted_shows (fun vs H Q E h => h.1) (fun cdv A outer s H vs Q E hr h => ?_)
  have nd := sc_Parted_shows.nd
  refine ⟨_, (pss_cons (ps_expr (pe_call c__check.ok (hr.mono (by decide)) (by rfl) c__check.g c__check.kp c__check.b .nil pass0 (pa_cons (pv 1) (pa_cons (pv 2) (pa_cons (pv 3) pa_nil))))) (pss_one (ps_ret (pe_call c_is_parting.ok (hr.mono (by decide)) (by rfl) c_is_parting.g c_is_parting.kp c_is_parting.b .nil pass0 (pa_cons (pv 1) (pa_cons (pv 2) (pa_cons (pv 3) (pa_cons (pe_fldS S (pv 0)) pa_nil)))))))), fn_run (N := ["self", "one", "other", "kind"]) (m := mb_Parted_shows) ?_ h⟩
  exact (ss_seq (ss_drop (se_call (sa_cons se_var (sa_cons se_var (sa_cons se_var sa_nil))))) (ss_ret (se_call (sa_cons se_var (sa_cons se_var (sa_cons se_var (sa_cons (se_fld f_text se_var) sa_nil)))))))
theorem bd_Parted_shows {f : Addr} {fd : FuncData} (F : Fun S.K "shows" "Parted.shows" s_Parted_shows f fd) : Binds S.K fd ["self", "one", "other", "kind"] [] := F.binds (ps := ["self", "one", "other", "kind"]) fun _ _ _ _ _ _ us hl => match us, hl with | [_, _, _, _], _ => rfl
theorem ok__law_can {f : Addr} {fd : FuncData} (F : Fun S.K "_law_can" "_law_can" s__law_can f fd)  : FnOk S.P S.w S.K mg base CX0 1 f fd ["kind", "is_open", "sign"] (spM S 3 m__law_can) := by
  refine F.ok sc__law_can (fun vs H Q E h => h.1) (fun cdv A outer s H vs Q E hr h => ?_)
  have nd := sc__law_can.nd
  refine ⟨_, (pss_cons (ps_if (pt_cmpR (op_eqS S hr.units) (pv 0) pe_str (nomark _)) (pss_one (ps_ret (pe_cmpR (op_eqS S hr.units) (pe_cmpR (op_eqS S hr.units) (pv 2) pe_str (nomark _)) (pv 1) (nomark _)))) pss_nil) (pss_one (ps_ret (pe_cmpR (op_neS S hr.units) (pv 2) (pe_dget (hu1 hr) (pe_disp (pps_cons pe_str pe_str (pps_cons pe_str pe_str (pps_cons pe_str pe_str pps_nil))) (by rfl) (by rfl) (by simp) (by decide)) (pv 0) (fun _ _ => rfl)) (nomark _))))), fn_run (N := ["kind", "is_open", "sign"]) (m := mb__law_can) ?_ h⟩
  exact (ss_seq (ss_if (st_test (se_op vo_eq se_var (se_strL))) (ss_ret (se_op vo_eq (se_op vo_eq se_var (se_strL)) se_var)) ss_next) (ss_ret (se_op vo_ne se_var (se_dix [[97, 110, 121], [98, 97, 114, 101], [108, 111, 110, 101]] (pr_cons (se_strL) (pr_cons (se_strL) (pr_cons (se_strL) pr_nil))) se_var (by decide +kernel) (by decide)))))
theorem bd__law_can {f : Addr} {fd : FuncData} (F : Fun S.K "_law_can" "_law_can" s__law_can f fd) : Binds S.K fd ["kind", "is_open", "sign"] [] := F.binds (ps := ["kind", "is_open", "sign"]) fun _ _ _ _ _ _ us hl => match us, hl with | [_, _, _], _ => rfl
theorem ok_law {f : Addr} {fd : FuncData} {fc__law_way : Addr} {fdc__law_way : FuncData} {fc__law_take : Addr} {fdc__law_take : FuncData} {fc__law_pick : Addr} {fdc__law_pick : FuncData} {fc__law_lists_right : Addr} {fdc__law_lists_right : FuncData} {fc__law_texts_right : Addr} {fdc__law_texts_right : FuncData} {fc__law_equal_right : Addr} {fdc__law_equal_right : FuncData} {fc__law_walk : Addr} {fdc__law_walk : FuncData} (F : Fun S.K "law" "law" s_law f fd) (n_range : mg "range" = none) (c__law_way : Cal S mg base "_law_way" 4 ["draw", "most"] 2 m__law_way fc__law_way fdc__law_way) (c__law_take : Cal S mg base "_law_take" 2 ["draw", "many"] 2 m__law_take fc__law_take fdc__law_take) (c__law_pick : Cal S mg base "_law_pick" 3 ["draw", "things"] 2 m__law_pick fc__law_pick fdc__law_pick) (c__law_lists_right : Cal S mg base "_law_lists_right" 8 ["draw", "one", "other", "kind"] 4 m__law_lists_right fc__law_lists_right fdc__law_lists_right) (c__law_texts_right : Cal S mg base "_law_texts_right" 6 ["draw", "one", "other", "kind"] 4 m__law_texts_right fc__law_texts_right fdc__law_texts_right) (c__law_equal_right : Cal S mg base "_law_equal_right" 3 ["rows"] 1 m__law_equal_right fc__law_equal_right fdc__law_equal_right) (c__law_walk : Cal S mg base "_law_walk" 4 ["one", "other", "kind"] 3 m__law_walk fc__law_walk fdc__law_walk) : FnOk S.P S.w S.K mg base CX0 9 f fd ["script"] (spM S 1 m_law) := by
  refine F.ok sc_law (fun vs H Q E h => h.1) (fun cdv A outer s H vs Q E hr h => ?_)
  have nd := sc_law.nd
  refine ⟨_, (pss_cons (ps_set (i := 1) nd rfl (Or.inl rfl) (pe_lst (pa_cons (pv 0) (pa_cons pe_int pa_nil)))) (pss_cons (ps_for PassesOwn.never rfl (pi_range1 (by rfl) n_range (pa_cons pe_int pa_nil)) (pg_name (i := 2) nd rfl (Or.inl rfl)) (pss_cons (ps_par (i := 3) (j := 4) (by rfl) nd rfl rfl (by decide) rfl rfl (pa_cons (pe_call c__law_way.ok (hr.mono (by decide)) (by rfl) c__law_way.g c__law_way.kp c__law_way.b .nil pass0 (pa_cons (pv 1) (pa_cons pe_int pa_nil))) (pa_cons (pe_call c__law_way.ok (hr.mono (by decide)) (by rfl) c__law_way.g c__law_way.kp c__law_way.b .nil pass0 (pa_cons (pv 1) (pa_cons pe_int pa_nil))) pa_nil)) (by rfl)) (pss_cons (ps_if (pt_cmpR (op_eqS S hr.units) (pe_call c__law_take.ok (hr.mono (by decide)) (by rfl) c__law_take.g c__law_take.kp c__law_take.b .nil pass0 (pa_cons (pv 1) (pa_cons pe_int pa_nil))) pe_int (nomark _)) (pss_one (ps_asg (pe_call c__law_pick.ok (hr.mono (by decide)) (by rfl) c__law_pick.g c__law_pick.kp c__law_pick.b .nil pass0 (pa_cons (pv 1) (pa_cons (pe_lst (pa_cons (pe_tup (pa_cons (pe_tup (pa_cons pe_str (pa_cons pe_str pa_nil))) (pa_cons (pe_tup (pa_cons pe_str pa_nil)) pa_nil))) (pa_cons (pe_tup (pa_cons (pe_tup (pa_cons pe_str pa_nil)) (pa_cons (pe_tup (pa_cons pe_str (pa_cons pe_str pa_nil))) pa_nil))) (pa_cons (pe_tup (pa_cons (pv 3) (pa_cons (pv 3) pa_nil))) pa_nil)))) pa_nil))) (pg_tup rfl (pgs_cons (pg_name (i := 3) nd rfl (Or.inl rfl)) (pgs_cons (pg_name (i := 4) nd rfl (Or.inl rfl)) pgs_nil))))) pss_nil) (pss_cons (ps_set (i := 5) nd rfl (Or.inl rfl) (pe_call c__law_pick.ok (hr.mono (by decide)) (by rfl) c__law_pick.g c__law_pick.kp c__law_pick.b .nil pass0 (pa_cons (pv 1) (pa_cons (pe_lst (pa_cons pe_str (pa_cons pe_str (pa_cons pe_str (pa_cons pe_str pa_nil))))) pa_nil)))) (pss_cons (ps_if (PW.pt (pw_or (pt_not (pt_truS S (pe_call c__law_lists_right.ok (hr.mono (by decide)) (by rfl) c__law_lists_right.g c__law_lists_right.kp c__law_lists_right.b .nil pass0 (pa_cons (pv 1) (pa_cons (pv 3) (pa_cons (pv 4) (pa_cons (pv 5) pa_nil))))))) (pw_or1 (pt_not (pt_truS S (pe_call c__law_texts_right.ok (hr.mono (by decide)) (by rfl) c__law_texts_right.g c__law_texts_right.kp c__law_texts_right.b .nil pass0 (pa_cons (pv 1) (pa_cons (pv 3) (pa_cons (pv 4) (pa_cons (pv 5) pa_nil)))))))))) (pss_one (ps_ret pe_bl)) pss_nil) (pss_one (ps_if (pt_not (pt_truS S (pe_call c__law_equal_right.ok (hr.mono (by decide)) (by rfl) c__law_equal_right.g c__law_equal_right.kp c__law_equal_right.b .nil pass0 (pa_cons (pe_slice (sl_S S) (pe_call c__law_walk.ok (hr.mono (by decide)) (by rfl) c__law_walk.g c__law_walk.kp c__law_walk.b .nil pass0 (pa_cons (pv 3) (pa_cons (pv 4) (pa_cons (pv 5) pa_nil)))) po_none (po_some pe_int)) pa_nil)))) (pss_one (ps_ret pe_bl)) pss_nil))))))) (pss_one (ps_ret pe_bl)))), fn_run (N := ["script", "draw", "turn_v", "one", "other", "kind"]) (m := mb_law) ?_ h⟩
  exact (ss_seq (ss_asg (se_lstM (sa_cons se_var (sa_cons se_int sa_nil))) sg_name) (ss_seq (ss_for (si_rng1 (sa_cons se_int sa_nil)) sg_name (ss_seq (ss_par (sa_cons (se_callS (sa_cons se_var (sa_cons se_int sa_nil))) (sa_cons (se_callS (sa_cons se_var (sa_cons se_int sa_nil))) sa_nil))) (ss_seq (ss_if (st_test (se_op vo_eq (se_callS (sa_cons se_var (sa_cons se_int sa_nil))) se_int)) (ss_asg (se_callS (sa_cons se_var (sa_cons (se_lst (sa_cons (se_tup (sa_cons (se_tup (sa_cons (se_strL) (sa_cons (se_strL) sa_nil))) (sa_cons (se_tup (sa_cons (se_strL) sa_nil)) sa_nil))) (sa_cons (se_tup (sa_cons (se_tup (sa_cons (se_strL) sa_nil)) (sa_cons (se_tup (sa_cons (se_strL) (sa_cons (se_strL) sa_nil))) sa_nil))) (sa_cons (se_tup (sa_cons se_var (sa_cons se_var sa_nil))) sa_nil)))) sa_nil))) (sg_tup (sgs_cons sg_name (sgs_cons sg_name sgs_nil)))) ss_next) (ss_seq (ss_asg (se_callS (sa_cons se_var (sa_cons (se_lst (sa_cons (se_strL) (sa_cons (se_strL) (sa_cons (se_strL) (sa_cons (se_strL) sa_nil))))) sa_nil))) sg_name) (ss_seq (ss_if (st_or (st_not (st_tru (se_callS (sa_cons se_var (sa_cons se_var (sa_cons se_var (sa_cons se_var sa_nil))))))) (st_not (st_tru (se_callS (sa_cons se_var (sa_cons se_var (sa_cons se_var (sa_cons se_var sa_nil)))))))) (ss_ret se_bl) ss_next) (ss_if (st_not (st_tru (se_call (sa_cons (se_sl (se_call (sa_cons se_var (sa_cons se_var (sa_cons se_var sa_nil)))) so_none (so_some se_int)) sa_nil)))) (ss_ret se_bl) ss_next)))))) (ss_ret se_bl)))
theorem bd_law {f : Addr} {fd : FuncData} (F : Fun S.K "law" "law" s_law f fd) : Binds S.K fd ["script"] [] := F.binds (ps := ["script"]) fun _ _ _ _ _ _ us hl => match us, hl with | [_], _ => rfl
end
end K04
namespace K04
open PySem PySem.Spec PyProof.Rows L2 RZ PpSet Rm
section
variable {S : Se} {mg : Str → Option Value} {base : Heap} {ag_CONVERSIONS ag_KINDS ag_SIGNS ag__HELD ag__MADE_OF ag__PLAIN ag__REPLACED ag_behind : Addr}
theorem ok_is_way {f : Addr} {fd : FuncData} {fc_is_conversion : Addr} {fdc_is_conversion : FuncData} (F : Fun S.K "is_way" "is_way" s_is_way f fd) (n_isinstance : mg "isinstance" = none) (n_tuple : mg "tuple" = none) (n_len : mg "len" = none) (i_LONGEST : ∃ t, mg "LONGEST" = some (.int 6 t)) (n_all : mg "all" = none) (c_is_conversion : Cal S mg base "is_conversion" 1 ["word"] 1 m_is_conversion fc_is_conversion fdc_is_conversion) : FnOk S.P S.w S.K mg base CX0 2 f fd ["way"] (spM S 1 m_is_way) := by
  refine F.ok sc_is_way (fun vs H Q E h => h.1) (fun cdv A outer s H vs Q E hr h => ?_)
  have nd := sc_is_way.nd
  refine ⟨_, (pss_one (ps_ret (pe_and (pe_callB (call_isiS S) (by rfl) n_isinstance (by decide +kernel) (pa_cons (pv 0) (pa_cons (pe_bltn (v := .ty "tuple") (u := .type "tuple") (by rfl) n_tuple (by decide +kernel) rfl) pa_nil))) (pe_and (pe_cmpR op_le (pe_callB (call_lenS S) (by rfl) n_len (by decide +kernel) (pa_cons (pv 0) pa_nil)) (pe_glob (v := .int 6) (by rfl) i_LONGEST.choose_spec ⟨_, rfl⟩) (nomark _)) (pe_one (pe_callB (call_allS S rfl) (by rfl) n_all (by decide +kernel) (pa_cons (pe_lc (own := [("word", 1)]) (g := (gName 1)) (by rfl) nd (pi_anyS S (pv 0)) (blkOk_by (own := [("word", 1)]) (N := ["way", "word"]) (sc := defScope s_is_way) (by decide +kernel)) (fun _ _ _ _ _ => (pg_name (i := 1) nd rfl (Or.inl rfl))) (fun _ _ _ _ _ => pts_nil) (fun _ _ _ _ _ => (pe_call c_is_conversion.ok (hr.mono (by decide)) (by rfl) c_is_conversion.g c_is_conversion.kp c_is_conversion.b .nil pass0 (pa_cons (pv 1) pa_nil)))) pa_nil))))))), fn_run (N := ["way", "word"]) (m := mb_is_way) ?_ h⟩
  exact (ss_ret (se_andV (se_isi (.ty "tuple") isT_ty se_var) (se_andV (se_op vo_cmp (se_cb vc_len (sa_cons se_var sa_nil)) se_int) (se_cb vc_all (sa_cons (se_lc (vs := [1]) (si_any se_var) sg_name (gw_name (by decide)) st_yes (se_call (sa_cons se_var sa_nil))) sa_nil)))))
theorem bd_is_way {f : Addr} {fd : FuncData} (F : Fun S.K "is_way" "is_way" s_is_way f fd) : Binds S.K fd ["way"] [] := F.binds (ps := ["way"]) fun _ _ _ _ _ _ us hl => match us, hl with | [_], _ => rfl
theorem ok_starting {f : Addr} {fd : FuncData} (F : Fun S.K "starting" "starting" s_starting f fd) (n_len : mg "len" = none) : FnOk S.P S.w S.K mg base CX0 1 f fd ["way"] (spM S 1 m_starting) := by
  refine F.ok sc_starting (fun vs H Q E h => h.1) (fun cdv A outer s H vs Q E hr h => ?_)
  have nd := sc_starting.nd
  refine ⟨_, (pss_one (ps_ret (pe_op (op_mulS S) (pe_tup (pa_cons pe_bl pa_nil)) (pe_callB (call_lenS S) (by rfl) n_len (by decide +kernel) (pa_cons (pv 0) pa_nil))))), fn_run (N := ["way"]) (m := mb_starting) ?_ h⟩
  exact (ss_ret (se_op vo_mul (se_tup (sa_cons se_bl sa_nil)) (se_cb vc_len (sa_cons se_var sa_nil))))
theorem bd_starting {f : Addr} {fd : FuncData} (F : Fun S.K "starting" "starting" s_starting f fd) : Binds S.K fd ["way"] [] := F.binds (ps := ["way"]) fun _ _ _ _ _ _ us hl => match us, hl with | [_], _ => rfl
theorem ok_coming {f : Addr} {fd : FuncData} {ag__MADE_OF : Addr} (F : Fun S.K "coming" "coming" s_coming f fd) (g__MADE_OF : mg "_MADE_OF" = some (.ref ag__MADE_OF)) (t__MADE_OF : KTab S.toSg ag__MADE_OF kt__MADE_OF) : FnOk S.P S.w S.K mg base CX0 1 f fd ["kind", "waits"] (spM S 2 m_coming) := by
  refine F.ok sc_coming (fun vs H Q E h => h.1) (fun cdv A outer s H vs Q E hr h => ?_)
  have nd := sc_coming.nd
  refine ⟨_, (pss_cons (ps_if (pt_cmpR (op_eqS S hr.units) (pv 0) pe_str (nomark _)) (pss_one (ps_ret (pe_ifExp (pt_truS S (pv 1)) (pe_tup (pa_cons pe_str pa_nil)) (pe_tup (pa_cons pe_str (pa_cons pe_str pa_nil)))))) pss_nil) (pss_one (ps_ret (pe_ix (ix_kdS S) (pe_glob (v := .ref ag__MADE_OF) (by rfl) g__MADE_OF rfl) (pv 0) (fun _ _ => rfl))))), fn_run (N := ["kind", "waits"]) (m := mb_coming) ?_ h⟩
  exact (ss_seq (ss_if (st_test (se_op vo_eq se_var (se_strL))) (ss_ret (se_if (st_tru se_var) (se_tup (sa_cons (se_strL) sa_nil)) (se_tup (sa_cons (se_strL) (sa_cons (se_strL) sa_nil))))) ss_next) (ss_ret (se_ixK t__MADE_OF se_var)))
theorem bd_coming {f : Addr} {fd : FuncData} (F : Fun S.K "coming" "coming" s_coming f fd) : Binds S.K fd ["kind", "waits"] [] := F.binds (ps := ["kind", "waits"]) fun _ _ _ _ _ _ us hl => match us, hl with | [_, _], _ => rfl
theorem ok__read_one {f : Addr} {fd : FuncData} {ag__PLAIN : Addr} {ag__HELD : Addr} (F : Fun S.K "_read_one" "_read_one" s__read_one f fd) (g__PLAIN : mg "_PLAIN" = some (.ref ag__PLAIN)) (t__PLAIN : KTab S.toSg ag__PLAIN kt__PLAIN) (g__HELD : mg "_HELD" = some (.ref ag__HELD)) (t__HELD : KTab S.toSg ag__HELD kt__HELD) : FnOk S.P S.w S.K mg base CX0 1 f fd ["word", "flag", "sign"] (spM S 3 m__read_one) := by
  refine F.ok sc__read_one (fun vs H Q E h => h.1) (fun cdv A outer s H vs Q E hr h => ?_)
  have nd := sc__read_one.nd
  refine ⟨_, (pss_cons (ps_if (pt_cmpR (op_kdS S) (pv 0) (pe_glob (v := .ref ag__PLAIN) (by rfl) g__PLAIN rfl) rfl) (pss_one (ps_ret (pe_tup (pa_cons pe_bl (pa_cons (pe_ifExp (pt_cmpR (op_eqS S hr.units) (pv 2) pe_str (nomark _)) (pe_ix (ix_kdS S) (pe_glob (v := .ref ag__PLAIN) (by rfl) g__PLAIN rfl) (pv 0) (fun _ _ => rfl)) (pv 2)) pa_nil))))) pss_nil) (pss_cons (ps_if (pt_cmpR (op_eqS S hr.units) (pv 0) pe_str (nomark _)) (pss_one (ps_ret (pe_tup (pa_cons (pe_cmpR (op_eqS S hr.units) (pv 2) pe_str (nomark _)) (pa_cons (pe_ifExp (PW.pt (pw_and (pt_cmpR (op_eqS S hr.units) (pv 2) pe_str (nomark _)) (pw_and1 (pt_not (pt_truS S (pv 1)))))) pe_str (pv 2)) pa_nil))))) pss_nil) (pss_cons (ps_asg (pe_ix (ix_kdS S) (pe_glob (v := .ref ag__HELD) (by rfl) g__HELD rfl) (pv 0) (fun _ _ => rfl)) (pg_tup rfl (pgs_cons (pg_name (i := 3) nd rfl (Or.inl rfl)) (pgs_cons (pg_name (i := 4) nd rfl (Or.inl rfl)) pgs_nil)))) (pss_cons (ps_set (i := 5) nd rfl (Or.inl rfl) pe_str) (pss_cons (ps_if (pt_truS S (pv 1)) (pss_one (ps_set (i := 5) nd rfl (Or.inl rfl) (pe_ifExp (pt_cmpR (op_eqS S hr.units) (pv 2) pe_str (nomark _)) (pv 3) (pv 4)))) pss_nil) (pss_one (ps_ret (pe_tup (pa_cons (pe_cmpR (op_eqS S hr.units) (pv 2) pe_str (nomark _)) (pa_cons (pe_ifExp (pt_cmpR (op_eqS S hr.units) (pv 2) pe_str (nomark _)) (pv 5) (pe_op (op_addS S) (pv 5) (pv 2))) pa_nil)))))))))), fn_run (N := ["word", "flag", "sign", "ahead_of_n", "otherwise", "held"]) (m := mb__read_one) ?_ h⟩
  exact (ss_seq (ss_if (st_test (se_inK t__PLAIN se_var)) (ss_ret (se_tup (sa_cons se_bl (sa_cons (se_if (st_test (se_op vo_eq se_var (se_strL))) (se_ixK t__PLAIN se_var) se_var) sa_nil)))) ss_next) (ss_seq (ss_if (st_test (se_op vo_eq se_var (se_strL))) (ss_ret (se_tup (sa_cons (se_op vo_eq se_var (se_strL)) (sa_cons (se_if (st_and (st_test (se_op vo_eq se_var (se_strL))) (st_not (st_tru se_var))) (se_strL) se_var) sa_nil)))) ss_next) (ss_seq (ss_asg (se_ixK t__HELD se_var) (sg_tup (sgs_cons sg_name (sgs_cons sg_name sgs_nil)))) (ss_seq (ss_asg (se_strL) sg_name) (ss_seq (ss_if (st_tru se_var) (ss_asg (se_if (st_test (se_op vo_eq se_var (se_strL))) se_var se_var) sg_name) ss_next) (ss_ret (se_tup (sa_cons (se_op vo_eq se_var (se_strL)) (sa_cons (se_if (st_test (se_op vo_eq se_var (se_strL))) se_var (se_op vo_add se_var se_var)) sa_nil)))))))))
theorem bd__read_one {f : Addr} {fd : FuncData} (F : Fun S.K "_read_one" "_read_one" s__read_one f fd) : Binds S.K fd ["word", "flag", "sign"] [] := F.binds (ps := ["word", "flag", "sign"]) fun _ _ _ _ _ _ us hl => match us, hl with | [_, _, _], _ => rfl
theorem ok__read_all {f : Addr} {fd : FuncData} {fc__read_one : Addr} {fdc__read_one : FuncData} (F : Fun S.K "_read_all" "_read_all" s__read_all f fd) (c__read_one : Cal S mg base "_read_one" 1 ["word", "flag", "sign"] 3 m__read_one fc__read_one fdc__read_one) : FnOk S.P S.w S.K mg base CX0 2 f fd ["word", "flag", "text"] (spM S 3 m__read_all) := by
  refine F.ok sc__read_all (fun vs H Q E h => h.1) (fun cdv A outer s H vs Q E hr h => ?_)
  have nd := sc__read_all.nd
  refine ⟨_, (pss_cons (ps_set (i := 3) nd rfl (Or.inl rfl) (pe_lst pa_nil)) (pss_cons (ps_for PassesOwn.never rfl (pi_anyS S (pv 2)) (pg_name (i := 4) nd rfl (Or.inl rfl)) (pss_cons (ps_asg (pe_call c__read_one.ok (hr.mono (by decide)) (by rfl) c__read_one.g c__read_one.kp c__read_one.b .nil pass0 (pa_cons (pv 0) (pa_cons (pv 1) (pa_cons (pv 4) pa_nil)))) (pg_tup rfl (pgs_cons (pg_name (i := 1) nd rfl (Or.inl rfl)) (pgs_cons (pg_name (i := 5) nd rfl (Or.inl rfl)) pgs_nil)))) (pss_one (ps_expr (pe_bm PySem.F.plainAttrs_list PySem.F.slot_list_append PySem.F.type_list_append mt_append (pv 3) (pa_cons (pv 5) pa_nil)))))) (pss_one (ps_ret (pe_tup (pa_cons (pv 1) (pa_cons (pe_joinS S pe_str (pv 3)) pa_nil))))))), fn_run (N := ["word", "flag", "text", "given", "sign", "out"]) (m := mb__read_all) ?_ h⟩
  exact (ss_seq (ss_asg (se_lstM sa_nil) sg_name) (ss_seq (ss_for (si_any se_var) sg_name (ss_seq (ss_asg (se_call (sa_cons se_var (sa_cons se_var (sa_cons se_var sa_nil)))) (sg_tup (sgs_cons sg_name (sgs_cons sg_name sgs_nil)))) (ss_drop (se_app se_var se_var)))) (ss_ret (se_tup (sa_cons se_var (sa_cons (se_join0 se_var) sa_nil))))))
theorem bd__read_all {f : Addr} {fd : FuncData} (F : Fun S.K "_read_all" "_read_all" s__read_all f fd) : Binds S.K fd ["word", "flag", "text"] [] := F.binds (ps := ["word", "flag", "text"]) fun _ _ _ _ _ _ us hl => match us, hl with | [_, _, _], _ => rfl
theorem ok_turn {f : Addr} {fd : FuncData} {ag__REPLACED : Addr} (F : Fun S.K "turn" "turn" s_turn f fd) (g__REPLACED : mg "_REPLACED" = some (.ref ag__REPLACED)) (r__REPLACED : RTab S.toSg ag__REPLACED rt__REPLACED) : FnOk S.P S.w S.K mg base CX0 1 f fd ["way", "text"] (spM S 2 m_turn) := by
  refine F.ok sc_turn (fun vs H Q E h => h.1) (fun cdv A outer s H vs Q E hr h => ?_)
  have nd := sc_turn.nd
  refine ⟨_, (pss_cons (ps_for PassesOwn.never rfl (pi_anyS S (pv 0)) (pg_name (i := 2) nd rfl (Or.inl rfl)) (pss_one (ps_forJ PassesOwn.never rfl (pi_tup (pe_ix ix_kdict (pe_glob (v := .ref ag__REPLACED) (by rfl) g__REPLACED rfl) (pv 2) (fun _ _ => rfl))) (pj_repl (io := 3) (jo := 4) (tx := 1) rfl nd rfl rfl rfl rfl rfl rfl (by decide) (by decide) (by decide))))) (pss_one (ps_ret (pv 1)))), fn_run (N := ["way", "text", "word", "old", "new"]) (m := mb_turn) ?_ h⟩
  exact (ss_seq (ss_for (si_any se_var) sg_name (ss_repl r__REPLACED (by decide) (by decide) (by decide) (by decide))) (ss_ret se_var))
theorem bd_turn {f : Addr} {fd : FuncData} (F : Fun S.K "turn" "turn" s_turn f fd) : Binds S.K fd ["way", "text"] [] := F.binds (ps := ["way", "text"]) fun _ _ _ _ _ _ us hl => match us, hl with | [_, _], _ => rfl
theorem ok__law_lists_right {f : Addr} {fd : FuncData} {fc__law_walk : Addr} {fdc__law_walk : FuncData} {fc__law_take : Addr} {fdc__law_take : FuncData} {fk_Alike_shows : Addr} {fdk_Alike_shows : FuncData} {fq_Alike : Addr} {fdq_Alike : FuncData} {fc__law_are_rows : Addr} {fdc__law_are_rows : FuncData} (F : Fun S.K "_law_lists_right" "_law_lists_right" s__law_lists_right f fd) (c__law_walk : Cal S mg base "_law_walk" 4 ["one", "other", "kind"] 3 m__law_walk fc__law_walk fdc__law_walk) (c__law_take : Cal S mg base "_law_take" 2 ["draw", "many"] 2 m__law_take fc__law_take fdc__law_take) (n_len : mg "len" = none) (k_Alike_shows : Met S mg base 1 "shows" 7 ["self", "one", "other", "kind"] 4 m_Alike_shows fk_Alike_shows fdk_Alike_shows) (q_Alike : Mak S mg base 1 "Alike" 1 ["self", "rows"] 2 m_Alike_init fq_Alike fdq_Alike 1) (c__law_are_rows : Cal S mg base "_law_are_rows" 4 ["one", "other", "kind", "rows"] 4 m__law_are_rows fc__law_are_rows fdc__law_are_rows) : FnOk S.P S.w S.K mg base CX0 8 f fd ["draw", "one", "other", "kind"] (spM S 4 m__law_lists_right) := by
  refine F.ok sc__law_lists_right (fun vs H Q E h => h.1) (fun cdv A outer s H vs Q E hr h => ?_)
  have nd := sc__law_lists_right.nd
  refine ⟨_, (pss_cons (ps_set (i := 4) nd rfl (Or.inl rfl) (pe_call c__law_walk.ok (hr.mono (by decide)) (by rfl) c__law_walk.g c__law_walk.kp c__law_walk.b .nil pass0 (pa_cons (pv 1) (pa_cons (pv 2) (pa_cons (pv 3) pa_nil))))) (pss_cons (ps_set (i := 5) nd rfl (Or.inl rfl) (pe_call c__law_take.ok (hr.mono (by decide)) (by rfl) c__law_take.g c__law_take.kp c__law_take.b .nil pass0 (pa_cons (pv 0) (pa_cons (pe_callB (call_lenS S) (by rfl) n_len (by decide +kernel) (pa_cons (pv 4) pa_nil)) pa_nil)))) (pss_cons (ps_set (i := 6) nd rfl (Or.inl rfl) (pe_ix (ix_S S (hu9 hr)) (pv 4) (pv 5) (fun _ _ => rfl))) (pss_cons (ps_set (i := 7) nd rfl (Or.inl rfl) (pe_op (op_addS S) (pe_op (op_addS S) (pe_slice (sl_S S) (pv 6) po_none (po_some pe_int)) (pe_tup (pa_cons (pe_not (pe_ix (ix_S S (hu9 hr)) (pv 6) pe_int (fun _ _ => rfl))) pa_nil))) (pe_slice (sl_S S) (pv 6) (po_some pe_int) po_none))) (pss_cons (ps_set (i := 8) nd rfl (Or.inl rfl) (pe_op (op_addS S) (pe_slice (sl_S S) (pv 6) po_none (po_some pe_int)) (pe_tup (pa_cons (pe_op (op_addS S) (pe_ix (ix_S S (hu9 hr)) (pv 6) pe_int (fun _ _ => rfl)) pe_str) (pa_cons (pe_ix (ix_S S (hu9 hr)) (pv 6) pe_int (fun _ _ => rfl)) pa_nil))))) (pss_cons (ps_set (i := 9) nd rfl (Or.inl rfl) (pe_op (op_addS S) (pe_slice (sl_S S) (pv 6) po_none (po_some pe_int)) (pe_tup (pa_cons pe_str (pa_cons pe_str pa_nil))))) (pss_cons (ps_set (i := 10) nd rfl (Or.inl rfl) (pe_lst (pa_cons (pv 4) (pa_cons (pe_op (op_addS S) (pe_revLS S (pv 4)) (pe_slice (sl_S S) (pv 4) po_none (po_some pe_int))) (pa_cons (pe_op (op_addS S) (pe_slice (sl_S S) (pv 4) po_none (po_some (pv 5))) (pe_slice (sl_S S) (pv 4) (po_some (pe_op (op_addS S) (pv 5) pe_int)) po_none)) (pa_cons (pe_lst pa_nil) (pa_cons (pe_slice (sl_S S) (pv 4) po_none (po_some pe_int)) (pa_cons (pe_op (op_addS S) (pv 4) (pe_lst (pa_cons (pv 7) pa_nil))) (pa_cons (pe_op (op_addS S) (pv 4) (pe_lst (pa_cons (pv 8) pa_nil))) (pa_cons (pe_op (op_addS S) (pv 4) (pe_lst (pa_cons (pv 9) pa_nil))) pa_nil)))))))))) (pss_cons (ps_for PassesOwn.never rfl (pi_anyS S (pv 10)) (pg_name (i := 11) nd rfl (Or.inl rfl)) (pss_one (ps_if (pt_cmpR (op_neS S hr.units) (pe_meth (pe_make q_Alike.mak q_Alike.ok (hr.mono (by decide)) (by rfl) q_Alike.g q_Alike.b .nil pass0 (pa_cons (pv 11) pa_nil)) k_Alike_shows.cl k_Alike_shows.mt k_Alike_shows.ok (hr.mono (by decide)) k_Alike_shows.b .nil pass0 (pa_cons (pv 1) (pa_cons (pv 2) (pa_cons (pv 3) pa_nil)))) (pe_call c__law_are_rows.ok (hr.mono (by decide)) (by rfl) c__law_are_rows.g c__law_are_rows.kp c__law_are_rows.b .nil pass0 (pa_cons (pv 1) (pa_cons (pv 2) (pa_cons (pv 3) (pa_cons (pv 11) pa_nil))))) (nomark _)) (pss_one (ps_ret pe_bl)) pss_nil))) (pss_one (ps_ret pe_bl)))))))))), fn_run (N := ["draw", "one", "other", "kind", "rows", "at", "row", "odd", "more", "both", "cases", "some"]) (m := mb__law_lists_right) ?_ h⟩
  exact (ss_seq (ss_asg (se_call (sa_cons se_var (sa_cons se_var (sa_cons se_var sa_nil)))) sg_name) (ss_seq (ss_asg (se_callS (sa_cons se_var (sa_cons (se_cb vc_len (sa_cons se_var sa_nil)) sa_nil))) sg_name) (ss_seq (ss_asg (se_op vo_ixX se_var se_var) sg_name) (ss_seq (ss_asg (se_op vo_add (se_op vo_add (se_sl se_var so_none (so_some se_int)) (se_tup (sa_cons (se_notV (se_op vo_ixX se_var se_int)) sa_nil))) (se_sl se_var (so_some se_int) so_none)) sg_name) (ss_seq (ss_asg (se_op vo_add (se_sl se_var so_none (so_some se_int)) (se_tup (sa_cons (se_op vo_add (se_op vo_ixX se_var se_int) (se_strL)) (sa_cons (se_op vo_ixX se_var se_int) sa_nil)))) sg_name) (ss_seq (ss_asg (se_op vo_add (se_sl se_var so_none (so_some se_int)) (se_tup (sa_cons (se_strL) (sa_cons (se_strL) sa_nil)))) sg_name) (ss_seq (ss_asg (se_lst (sa_cons se_var (sa_cons (se_op vo_add (se_rev se_var) (se_sl se_var so_none (so_some se_int))) (sa_cons (se_op vo_add (se_sl se_var so_none (so_some se_var)) (se_sl se_var (so_some (se_op vo_add se_var se_int)) so_none)) (sa_cons (se_lst sa_nil) (sa_cons (se_sl se_var so_none (so_some se_int)) (sa_cons (se_op vo_add se_var (se_lst (sa_cons se_var sa_nil))) (sa_cons (se_op vo_add se_var (se_lst (sa_cons se_var sa_nil))) (sa_cons (se_op vo_add se_var (se_lst (sa_cons se_var sa_nil))) sa_nil))))))))) sg_name) (ss_seq (ss_for (si_any se_var) sg_name (ss_if (st_test (se_op vo_ne (se_meth k_Alike_shows.nm (se_make q_Alike.k (sa_cons se_var sa_nil)) (sa_cons se_var (sa_cons se_var (sa_cons se_var sa_nil)))) (se_call (sa_cons se_var (sa_cons se_var (sa_cons se_var (sa_cons se_var sa_nil))))))) (ss_ret se_bl) ss_next)) (ss_ret se_bl)))))))))
theorem bd__law_lists_right {f : Addr} {fd : FuncData} (F : Fun S.K "_law_lists_right" "_law_lists_right" s__law_lists_right f fd) : Binds S.K fd ["draw", "one", "other", "kind"] [] := F.binds (ps := ["draw", "one", "other", "kind"]) fun _ _ _ _ _ _ us hl => match us, hl with | [_, _, _, _], _ => rfl
end
end K04
namespace K04
open PySem PySem.Spec PyProof.Rows L2 RZ PpSet Rm
section
variable {S : Se} {mg : Str → Option Value} {base : Heap} {ag_CONVERSIONS ag_KINDS ag_SIGNS ag__HELD ag__MADE_OF ag__PLAIN ag__REPLACED ag_behind : Addr}
theorem ok__law_take {f : Addr} {fd : FuncData} {fc__law_number : Addr} {fdc__law_number : FuncData} (F : Fun S.K "_law_take" "_law_take" s__law_take f fd) (n_int : mg "int" = none) (c__law_number : Cal S mg base "_law_number" 1 ["script", "index"] 2 m__law_number fc__law_number fdc__law_number) : FnOk S.P S.w S.K mg base CX0 2 f fd ["draw", "many"] (spM S 2 m__law_take) := by
  refine F.ok sc__law_take (fun vs H Q E h => h.1) (fun cdv A outer s H vs Q E hr h => ?_)
  have nd := sc__law_take.nd
  refine ⟨_, (pss_cons (ps_asg (pe_op (op_addS S) (pe_ix (ix_S S (hu9 hr)) (pv 0) pe_int (fun _ _ => rfl)) pe_int) (pg_sub (pv 0) pe_int (set_S S (hu9 hr)))) (pss_one (ps_ret (pe_op op_mod (pe_callTy call_intR (by rfl) n_int (by decide +kernel) (pa_cons (pe_call c__law_number.ok (hr.mono (by decide)) (by rfl) c__law_number.g c__law_number.kp c__law_number.b .nil pass0 (pa_cons (pe_ix (ix_S S (hu9 hr)) (pv 0) pe_int (fun _ _ => rfl)) (pa_cons (pe_callTy call_intR (by rfl) n_int (by decide +kernel) (pa_cons (pe_ix (ix_S S (hu9 hr)) (pv 0) pe_int (fun _ _ => rfl)) pa_nil)) pa_nil))) pa_nil)) (pv 1))))), fn_run (N := ["draw", "many"]) (m := mb__law_take) ?_ h⟩
  exact (ss_seq (ss_asg (se_op vo_add (se_op vo_ixX se_var se_int) se_int) (sg_sub vst_X se_var se_int)) (ss_ret (se_op vo_mod (se_cb vc_int (sa_cons (se_call (sa_cons (se_op vo_ixX se_var se_int) (sa_cons (se_cb vc_int (sa_cons (se_op vo_ixX se_var se_int) sa_nil)) sa_nil))) sa_nil)) se_var)))
theorem bd__law_take {f : Addr} {fd : FuncData} (F : Fun S.K "_law_take" "_law_take" s__law_take f fd) : Binds S.K fd ["draw", "many"] [] := F.binds (ps := ["draw", "many"]) fun _ _ _ _ _ _ us hl => match us, hl with | [_, _], _ => rfl
theorem ok_check_kind {f : Addr} {fd : FuncData} {ag_KINDS : Addr} (F : Fun S.K "check_kind" "check_kind" s_check_kind f fd) (n_isinstance : mg "isinstance" = none) (n_str : mg "str" = none) (g_KINDS : mg "KINDS" = some (.ref ag_KINDS)) (z_KINDS : ∀ F ι H, RV S.toSg F ι H (.tup [(.str [97, 110, 121]), (.str [98, 97, 114, 101]), (.str [108, 111, 110, 101]), (.str [112, 97, 105, 114, 101, 100])]) (.ref ag_KINDS)) : FnOk S.P S.w S.K mg base CX0 1 f fd ["kind"] (spM S 1 m_check_kind) := by
  refine F.ok sc_check_kind (fun vs H Q E h => h.1) (fun cdv A outer s H vs Q E hr h => ?_)
  have nd := sc_check_kind.nd
  refine ⟨_, (pss_one (ps_if (PW.pt (pw_or (pt_not (pt_truS S (pe_callB (call_isiS S) (by rfl) n_isinstance (by decide +kernel) (pa_cons (pv 0) (pa_cons (pe_bltn (v := .ty "str") (u := .type "str") (by rfl) n_str (by decide +kernel) rfl) pa_nil))))) (pw_or1 (pt_cmpR (op_niYS S (hu65 hr)) (pv 0) (pe_glob (v := .ref ag_KINDS) (by rfl) g_KINDS rfl) rfl)))) (pss_one ps_never) pss_nil)), fn_run (N := ["kind"]) (m := mb_check_kind) ?_ h⟩
  exact (ss_if (st_or (st_not (st_tru (se_isi (.ty "str") isT_ty se_var))) (st_test (se_op vo_niY se_var (se_c z_KINDS)))) ss_bad ss_next)
theorem bd_check_kind {f : Addr} {fd : FuncData} (F : Fun S.K "check_kind" "check_kind" s_check_kind f fd) : Binds S.K fd ["kind"] [] := F.binds (ps := ["kind"]) fun _ _ _ _ _ _ us hl => match us, hl with | [_], _ => rfl
theorem ok_step {f : Addr} {fd : FuncData} {fc__read_all : Addr} {fdc__read_all : FuncData} (F : Fun S.K "step" "step" s_step f fd) (n_zip : mg "zip" = none) (c__read_all : Cal S mg base "_read_all" 2 ["word", "flag", "text"] 3 m__read_all fc__read_all fdc__read_all) (n_tuple : mg "tuple" = none) : FnOk S.P S.w S.K mg base CX0 3 f fd ["way", "standing", "sign"] (spM S 3 m_step) := by
  refine F.ok sc_step (fun vs H Q E h => h.1) (fun cdv A outer s H vs Q E hr h => ?_)
  have nd := sc_step.nd
  refine ⟨_, (pss_cons (ps_set (i := 3) nd rfl (Or.inl rfl) (pe_lst pa_nil)) (pss_cons (ps_set (i := 4) nd rfl (Or.inl rfl) (pv 2)) (pss_cons (ps_for PassesOwn.never rfl (pi_zipA (by rfl) n_zip (pa_cons (pv 0) (pa_cons (pv 1) pa_nil))) (pg_tup rfl (pgs_cons (pg_name (i := 5) nd rfl (Or.inl rfl)) (pgs_cons (pg_name (i := 6) nd rfl (Or.inl rfl)) pgs_nil))) (pss_cons (ps_asg (pe_call c__read_all.ok (hr.mono (by decide)) (by rfl) c__read_all.g c__read_all.kp c__read_all.b .nil pass0 (pa_cons (pv 5) (pa_cons (pv 6) (pa_cons (pv 4) pa_nil)))) (pg_tup rfl (pgs_cons (pg_name (i := 7) nd rfl (Or.inl rfl)) (pgs_cons (pg_name (i := 4) nd rfl (Or.inl rfl)) pgs_nil)))) (pss_one (ps_expr (pe_bm PySem.F.plainAttrs_list PySem.F.slot_list_append PySem.F.type_list_append mt_append (pv 3) (pa_cons (pv 7) pa_nil)))))) (pss_one (ps_ret (pe_tup (pa_cons (pe_callTy (call_tupS S) (by rfl) n_tuple (by decide +kernel) (pa_cons (pv 3) pa_nil)) (pa_cons (pv 4) pa_nil)))))))), fn_run (N := ["way", "standing", "sign", "behind", "text", "word", "flag", "flag_behind"]) (m := mb_step) ?_ h⟩
  exact (ss_seq (ss_asg (se_lstM sa_nil) sg_name) (ss_seq (ss_asg se_var sg_name) (ss_seq (ss_for (si_zip (sa_cons se_var (sa_cons se_var sa_nil))) (sg_tup (sgs_cons sg_name (sgs_cons sg_name sgs_nil))) (ss_seq (ss_asg (se_call (sa_cons se_var (sa_cons se_var (sa_cons se_var sa_nil)))) (sg_tup (sgs_cons sg_name (sgs_cons sg_name sgs_nil)))) (ss_drop (se_app se_var se_var)))) (ss_ret (se_tup (sa_cons (se_cb vc_tuple (sa_cons se_var sa_nil)) (sa_cons se_var sa_nil)))))))
theorem bd_step {f : Addr} {fd : FuncData} (F : Fun S.K "step" "step" s_step f fd) : Binds S.K fd ["way", "standing", "sign"] [] := F.binds (ps := ["way", "standing", "sign"]) fun _ _ _ _ _ _ us hl => match us, hl with | [_, _, _], _ => rfl
theorem ok_Parted_init {f : Addr} {fd : FuncData} (F : Fun S.K "__init__" "Parted.__init__" s_Parted_init f fd) (f_text : Fld S "text" [(2, 0)]) : FnOk S.P S.w S.K mg base CX0 1 f fd ["self", "text"] (spM S 2 m_Parted_init) := by
  refine F.ok sc_Parted_init (fun vs H Q E h => h.1) (fun cdv A outer s H vs Q E hr h => ?_)
  have nd := sc_Parted_init.nd
  refine ⟨_, (pss_one (ps_fld (pv 0) (pv 1) rfl)), fn_run (N := ["self", "text"]) (m := mb_Parted_init) ?_ h⟩
  exact (ss_fld f_text se_var se_var)
theorem bd_Parted_init {f : Addr} {fd : FuncData} (F : Fun S.K "__init__" "Parted.__init__" s_Parted_init f fd) : Binds S.K fd ["self", "text"] [] := F.binds (ps := ["self", "text"]) fun _ _ _ _ _ _ us hl => match us, hl with | [_, _], _ => rfl
theorem ok__law_equal_right {f : Addr} {fd : FuncData} {fq_Alike : Addr} {fdq_Alike : FuncData} {fk_Alike___eq__ : Addr} {fdk_Alike___eq__ : FuncData} {fq_Parted : Addr} {fdq_Parted : FuncData} {fk_Parted___eq__ : Addr} {fdk_Parted___eq__ : FuncData} (F : Fun S.K "_law_equal_right" "_law_equal_right" s__law_equal_right f fd) (n_list : mg "list" = none) (q_Alike : Mak S mg base 1 "Alike" 1 ["self", "rows"] 2 m_Alike_init fq_Alike fdq_Alike 1) (f_rows : Fld S "rows" [(1, 0)]) (k_Alike___eq__ : Met S mg base 1 "__eq__" 1 ["self", "other"] 2 m_Alike_eq fk_Alike___eq__ fdk_Alike___eq__) (y_Alike : EqC S 1 fk_Alike___eq__ [1, 2]) (q_Parted : Mak S mg base 2 "Parted" 1 ["self", "text"] 2 m_Parted_init fq_Parted fdq_Parted 1) (k_Parted___eq__ : Met S mg base 2 "__eq__" 1 ["self", "other"] 2 m_Parted_eq fk_Parted___eq__ fdk_Parted___eq__) (y_Parted : EqC S 2 fk_Parted___eq__ [2, 1]) (f_text : Fld S "text" [(2, 0)]) : FnOk S.P S.w S.K mg base CX0 3 f fd ["rows"] (spM S 1 m__law_equal_right) := by
  refine F.ok sc__law_equal_right (fun vs H Q E h => h.1) (fun cdv A outer s H vs Q E hr h => ?_)
  have nd := sc__law_equal_right.nd
  refine ⟨_, (pss_cons (ps_par (i := 1) (j := 2) (by rfl) nd rfl rfl (by decide) rfl rfl (pa_cons (pe_callTy (call_listYS S rfl) (by rfl) n_list (by decide +kernel) (pa_cons (pv 0) pa_nil)) (pa_cons (pe_callTy (call_listYS S rfl) (by rfl) n_list (by decide +kernel) (pa_cons (pv 0) pa_nil)) pa_nil)) (by rfl)) (pss_cons (ps_set (i := 3) nd rfl (Or.inl rfl) (pe_make q_Alike.mak q_Alike.ok (hr.mono (by decide)) (by rfl) q_Alike.g q_Alike.b .nil pass0 (pa_cons (pv 1) pa_nil))) (pss_cons (ps_expr (pe_bm PySem.F.plainAttrs_list PySem.F.slot_list_append PySem.F.type_list_append mt_append (pv 1) (pa_cons (pe_ix (ix_S S (hu9 hr)) (pv 1) pe_int (fun _ _ => rfl)) pa_nil))) (pss_cons (ps_if (PW.pt (pw_or (pt_cmpR (op_neS S hr.units) (pe_fldS S (pv 3)) (pv 2) (nomark _)) (pw_or (pt_cmpR (op_ownEq k_Alike___eq__.ok k_Alike___eq__.b pass0 (hr.mono (by decide)) y_Alike.eq y_Alike.fn) (pv 3) (pe_make q_Alike.mak q_Alike.ok (hr.mono (by decide)) (by rfl) q_Alike.g q_Alike.b .nil pass0 (pa_cons (pv 1) pa_nil)) (nomark _)) (pw_or (pt_cmpR (op_ownNe k_Alike___eq__.ok k_Alike___eq__.b pass0 (hr.mono (by decide)) y_Alike.eq y_Alike.fn y_Alike.mro y_Alike.ne) (pv 3) (pe_make q_Alike.mak q_Alike.ok (hr.mono (by decide)) (by rfl) q_Alike.g q_Alike.b .nil pass0 (pa_cons (pv 2) pa_nil)) (nomark _)) (pw_or (pt_cmpR (op_ownEq k_Alike___eq__.ok k_Alike___eq__.b pass0 (hr.mono (by decide)) y_Alike.eq y_Alike.fn) (pv 3) (pe_make q_Parted.mak q_Parted.ok (hr.mono (by decide)) (by rfl) q_Parted.g q_Parted.b .nil pass0 (pa_cons pe_str pa_nil)) (nomark _)) (pw_or1 (pt_cmpR (op_ownEq k_Alike___eq__.ok k_Alike___eq__.b pass0 (hr.mono (by decide)) y_Alike.eq y_Alike.fn) (pv 3) (pv 2) (nomark _)))))))) (pss_one (ps_ret pe_bl)) pss_nil) (pss_cons (ps_if (PW.pt (pw_or (pt_cmpR (op_ownNe k_Parted___eq__.ok k_Parted___eq__.b pass0 (hr.mono (by decide)) y_Parted.eq y_Parted.fn y_Parted.mro y_Parted.ne) (pe_make q_Parted.mak q_Parted.ok (hr.mono (by decide)) (by rfl) q_Parted.g q_Parted.b .nil pass0 (pa_cons pe_str pa_nil)) (pe_make q_Parted.mak q_Parted.ok (hr.mono (by decide)) (by rfl) q_Parted.g q_Parted.b .nil pass0 (pa_cons pe_str pa_nil)) (nomark _)) (pw_or1 (pt_cmpR (op_neS S hr.units) (pe_fldS S (pe_make q_Parted.mak q_Parted.ok (hr.mono (by decide)) (by rfl) q_Parted.g q_Parted.b .nil pass0 (pa_cons pe_str pa_nil))) pe_str (nomark _))))) (pss_one (ps_ret pe_bl)) pss_nil) (pss_one (ps_ret (pe_and (pe_cmpR (op_ownNe k_Parted___eq__.ok k_Parted___eq__.b pass0 (hr.mono (by decide)) y_Parted.eq y_Parted.fn y_Parted.mro y_Parted.ne) (pe_make q_Parted.mak q_Parted.ok (hr.mono (by decide)) (by rfl) q_Parted.g q_Parted.b .nil pass0 (pa_cons pe_str pa_nil)) (pe_make q_Parted.mak q_Parted.ok (hr.mono (by decide)) (by rfl) q_Parted.g q_Parted.b .nil pass0 (pa_cons pe_str pa_nil)) (nomark _)) (pe_one (pe_cmpR (op_ownNe k_Parted___eq__.ok k_Parted___eq__.b pass0 (hr.mono (by decide)) y_Parted.eq y_Parted.fn y_Parted.mro y_Parted.ne) (pe_make q_Parted.mak q_Parted.ok (hr.mono (by decide)) (by rfl) q_Parted.g q_Parted.b .nil pass0 (pa_cons pe_str pa_nil)) (pe_make q_Alike.mak q_Alike.ok (hr.mono (by decide)) (by rfl) q_Alike.g q_Alike.b .nil pass0 (pa_cons (pe_lst pa_nil) pa_nil)) (nomark _))))))))))), fn_run (N := ["rows", "some", "kept", "one"]) (m := mb__law_equal_right) ?_ h⟩
  exact (ss_seq (ss_par (sa_cons (se_cb vc_listM (sa_cons se_var sa_nil)) (sa_cons (se_cb vc_listY (sa_cons se_var sa_nil)) sa_nil))) (ss_seq (ss_asg (se_makeS q_Alike.k (sa_cons se_var sa_nil)) sg_name) (ss_seq (ss_drop (se_app se_var (se_op vo_ixX se_var se_int))) (ss_seq (ss_if (st_or (st_test (se_op vo_ne (se_fld f_rows se_var) se_var)) (st_or (st_test (se_eqD false y_Alike se_var (se_makeS q_Alike.k (sa_cons se_var sa_nil)))) (st_or (st_test (se_eqD true y_Alike se_var (se_make q_Alike.k (sa_cons se_var sa_nil)))) (st_or (st_test (se_eqD false y_Alike se_var (se_make q_Parted.k (sa_cons (se_strL) sa_nil)))) (st_test (se_eqD false y_Alike se_var se_var)))))) (ss_ret se_bl) ss_next) (ss_seq (ss_if (st_or (st_test (se_eqD true y_Parted (se_make q_Parted.k (sa_cons (se_strL) sa_nil)) (se_make q_Parted.k (sa_cons (se_strL) sa_nil)))) (st_test (se_op vo_ne (se_fld f_text (se_make q_Parted.k (sa_cons (se_strL) sa_nil))) (se_strL)))) (ss_ret se_bl) ss_next) (ss_ret (se_andV (se_eqD true y_Parted (se_make q_Parted.k (sa_cons (se_strL) sa_nil)) (se_make q_Parted.k (sa_cons (se_strL) sa_nil))) (se_eqD true y_Parted (se_make q_Parted.k (sa_cons (se_strL) sa_nil)) (se_make q_Alike.k (sa_cons (se_lst sa_nil) sa_nil))))))))))
theorem bd__law_equal_right {f : Addr} {fd : FuncData} (F : Fun S.K "_law_equal_right" "_law_equal_right" s__law_equal_right f fd) : Binds S.K fd ["rows"] [] := F.binds (ps := ["rows"]) fun _ _ _ _ _ _ us hl => match us, hl with | [_], _ => rfl
theorem ok__law_sign {f : Addr} {fd : FuncData} (F : Fun S.K "_law_sign" "_law_sign" s__law_sign f fd)  : FnOk S.P S.w S.K mg base CX0 1 f fd ["word", "is_held", "sign"] (spM S 3 m__law_sign) := by
  refine F.ok sc__law_sign (fun vs H Q E h => h.1) (fun cdv A outer s H vs Q E hr h => ?_)
  have nd := sc__law_sign.nd
  refine ⟨_, (pss_cons (ps_if (pt_cmpR (op_inYS S (hu65 hr)) (pv 0) (pe_tup (pa_cons pe_str (pa_cons pe_str pa_nil))) rfl) (pss_one (ps_ret (pe_tup (pa_cons pe_bl (pa_cons (pe_ifExp (pt_cmpR (op_neS S hr.units) (pv 2) pe_str (nomark _)) (pv 2) (pe_ifExp (pt_cmpR (op_eqS S hr.units) (pv 0) pe_str (nomark _)) pe_str pe_str)) pa_nil))))) pss_nil) (pss_cons (ps_if (pt_cmpR (op_eqS S hr.units) (pv 0) pe_str (nomark _)) (pss_one (ps_ret (pe_tup (pa_cons (pe_cmpR (op_eqS S hr.units) (pv 2) pe_str (nomark _)) (pa_cons (pe_ifExp (PW.pt (pw_and (pt_cmpR (op_eqS S hr.units) (pv 2) pe_str (nomark _)) (pw_and1 (pt_not (pt_truS S (pv 1)))))) pe_str (pv 2)) pa_nil))))) pss_nil) (pss_cons (ps_set (i := 3) nd rfl (Or.inl rfl) (pe_ifExp (pt_cmpR (op_eqS S hr.units) (pv 0) pe_str (nomark _)) pe_str pe_str)) (pss_cons (ps_if (pt_cmpR (op_eqS S hr.units) (pv 2) pe_str (nomark _)) (pss_one (ps_ret (pe_tup (pa_cons pe_bl (pa_cons (pe_ifExp (pt_truS S (pv 1)) (pv 3) pe_str) pa_nil))))) pss_nil) (pss_cons (ps_if (PW.pt (pw_and (pt_truS S (pv 1)) (pw_and1 (pt_cmpR (op_eqS S hr.units) (pv 2) pe_str (nomark _))))) (pss_one (ps_ret (pe_tup (pa_cons pe_bl (pa_cons (pe_ifExp (pt_cmpR (op_eqS S hr.units) (pv 0) pe_str (nomark _)) pe_str pe_str) pa_nil))))) pss_nil) (pss_one (ps_ret (pe_tup (pa_cons pe_bl (pa_cons (pe_ifExp (pt_truS S (pv 1)) (pe_op (op_addS S) (pv 3) (pv 2)) (pv 2)) pa_nil)))))))))), fn_run (N := ["word", "is_held", "sign", "lone"]) (m := mb__law_sign) ?_ h⟩
  exact (ss_seq (ss_if (st_test (se_op vo_inY se_var (se_tup (sa_cons (se_strL) (sa_cons (se_strL) sa_nil))))) (ss_ret (se_tup (sa_cons se_bl (sa_cons (se_if (st_test (se_op vo_ne se_var (se_strL))) se_var (se_if (st_test (se_op vo_eq se_var (se_strL))) (se_strL) (se_strL))) sa_nil)))) ss_next) (ss_seq (ss_if (st_test (se_op vo_eq se_var (se_strL))) (ss_ret (se_tup (sa_cons (se_op vo_eq se_var (se_strL)) (sa_cons (se_if (st_and (st_test (se_op vo_eq se_var (se_strL))) (st_not (st_tru se_var))) (se_strL) se_var) sa_nil)))) ss_next) (ss_seq (ss_asg (se_if (st_test (se_op vo_eq se_var (se_strL))) (se_strL) (se_strL)) sg_name) (ss_seq (ss_if (st_test (se_op vo_eq se_var (se_strL))) (ss_ret (se_tup (sa_cons se_bl (sa_cons (se_if (st_tru se_var) se_var (se_strL)) sa_nil)))) ss_next) (ss_seq (ss_if (st_and (st_tru se_var) (st_test (se_op vo_eq se_var (se_strL)))) (ss_ret (se_tup (sa_cons se_bl (sa_cons (se_if (st_test (se_op vo_eq se_var (se_strL))) (se_strL) (se_strL)) sa_nil)))) ss_next) (ss_ret (se_tup (sa_cons se_bl (sa_cons (se_if (st_tru se_var) (se_op vo_add se_var se_var) se_var) sa_nil)))))))))
theorem bd__law_sign {f : Addr} {fd : FuncData} (F : Fun S.K "_law_sign" "_law_sign" s__law_sign f fd) : Binds S.K fd ["word", "is_held", "sign"] [] := F.binds (ps := ["word", "is_held", "sign"]) fun _ _ _ _ _ _ us hl => match us, hl with | [_, _, _], _ => rfl
theorem ok__law_made {f : Addr} {fd : FuncData} {fc__law_by : Addr} {fdc__law_by : FuncData} (F : Fun S.K "_law_made" "_law_made" s__law_made f fd) (c__law_by : Cal S mg base "_law_by" 1 ["word", "text"] 2 m__law_by fc__law_by fdc__law_by) : FnOk S.P S.w S.K mg base CX0 2 f fd ["way", "text"] (spM S 2 m__law_made) := by
  refine F.ok sc__law_made (fun vs H Q E h => h.1) (fun cdv A outer s H vs Q E hr h => ?_)
  have nd := sc__law_made.nd
  refine ⟨_, (pss_cons (ps_for PassesOwn.never rfl (pi_anyS S (pv 0)) (pg_name (i := 2) nd rfl (Or.inl rfl)) (pss_one (ps_set (i := 1) nd rfl (Or.inl rfl) (pe_call c__law_by.ok (hr.mono (by decide)) (by rfl) c__law_by.g c__law_by.kp c__law_by.b .nil pass0 (pa_cons (pv 2) (pa_cons (pv 1) pa_nil)))))) (pss_one (ps_ret (pv 1)))), fn_run (N := ["way", "text", "word"]) (m := mb__law_made) ?_ h⟩
  exact (ss_seq (ss_for (si_any se_var) sg_name (ss_asg (se_call (sa_cons se_var (sa_cons se_var sa_nil))) sg_name)) (ss_ret se_var))
theorem bd__law_made {f : Addr} {fd : FuncData} (F : Fun S.K "_law_made" "_law_made" s__law_made f fd) : Binds S.K fd ["way", "text"] [] := F.binds (ps := ["way", "text"]) fun _ _ _ _ _ _ us hl => match us, hl with | [_, _], _ => rfl
end
end K04
namespace K04
open PySem PySem.Spec PyProof.Rows L2 RZ PpSet Rm
section
variable {S : Se} {mg : Str → Option Value} {base : Heap} {ag_CONVERSIONS ag_KINDS ag_SIGNS ag__HELD ag__MADE_OF ag__PLAIN ag__REPLACED ag_behind : Addr}
theorem ok_RowWalk_first {f : Addr} {fd : FuncData} {fc_starting : Addr} {fdc_starting : FuncData} (F : Fun S.K "first" "RowWalk.first" s_RowWalk_first f fd) (c_starting : Cal S mg base "starting" 1 ["way"] 1 m_starting fc_starting fdc_starting) (f_other : Fld S "other" [(0, 1)]) (f_one : Fld S "one" [(0, 0)]) : FnOk S.P S.w S.K mg base CX0 2 f fd ["self"] (spM S 1 m_RowWalk_first) := by
  refine F.ok sc_RowWalk_first (fun vs H Q E h => h.1) (fun cdv A outer s H vs Q E hr h => ?_)
  have nd := sc_RowWalk_first.nd
  refine ⟨_, (pss_one (ps_ret (pe_tup (pa_cons (pe_call c_starting.ok (hr.mono (by decide)) (by rfl) c_starting.g c_starting.kp c_starting.b .nil pass0 (pa_cons (pe_fldS S (pv 0)) pa_nil)) (pa_cons (pe_call c_starting.ok (hr.mono (by decide)) (by rfl) c_starting.g c_starting.kp c_starting.b .nil pass0 (pa_cons (pe_fldS S (pv 0)) pa_nil)) (pa_cons pe_bl (pa_cons pe_str (pa_cons pe_str pa_nil)))))))), fn_run (N := ["self"]) (m := mb_RowWalk_first) ?_ h⟩
  exact (ss_ret (se_tup (sa_cons (se_call (sa_cons (se_fld f_one se_var) sa_nil)) (sa_cons (se_call (sa_cons (se_fld f_other se_var) sa_nil)) (sa_cons se_bl (sa_cons (se_strL) (sa_cons (se_strL) sa_nil)))))))
theorem bd_RowWalk_first {f : Addr} {fd : FuncData} (F : Fun S.K "first" "RowWalk.first" s_RowWalk_first f fd) : Binds S.K fd ["self"] [] := F.binds (ps := ["self"]) fun _ _ _ _ _ _ us hl => match us, hl with | [_], _ => rfl
theorem ok_RowWalk_signs {f : Addr} {fd : FuncData} {fc_coming : Addr} {fdc_coming : FuncData} (F : Fun S.K "signs" "RowWalk.signs" s_RowWalk_signs f fd) (c_coming : Cal S mg base "coming" 1 ["kind", "waits"] 2 m_coming fc_coming fdc_coming) (f_kind : Fld S "kind" [(0, 2)]) : FnOk S.P S.w S.K mg base CX0 2 f fd ["self", "node"] (spM S 2 m_RowWalk_signs) := by
  refine F.ok sc_RowWalk_signs (fun vs H Q E h => h.1) (fun cdv A outer s H vs Q E hr h => ?_)
  have nd := sc_RowWalk_signs.nd
  refine ⟨_, (pss_one (ps_ret (pe_call c_coming.ok (hr.mono (by decide)) (by rfl) c_coming.g c_coming.kp c_coming.b .nil pass0 (pa_cons (pe_fldS S (pv 0)) (pa_cons (pe_ix (ix_S S (hu9 hr)) (pv 1) pe_int (fun _ _ => rfl)) pa_nil))))), fn_run (N := ["self", "node"]) (m := mb_RowWalk_signs) ?_ h⟩
  exact (ss_ret (se_call (sa_cons (se_fld f_kind se_var) (sa_cons (se_op vo_ixX se_var se_int) sa_nil))))
theorem bd_RowWalk_signs {f : Addr} {fd : FuncData} (F : Fun S.K "signs" "RowWalk.signs" s_RowWalk_signs f fd) : Binds S.K fd ["self", "node"] [] := F.binds (ps := ["self", "node"]) fun _ _ _ _ _ _ us hl => match us, hl with | [_, _], _ => rfl
theorem ok_is_half {f : Addr} {fd : FuncData} (F : Fun S.K "is_half" "is_half" s_is_half f fd)  : FnOk S.P S.w S.K mg base CX0 1 f fd ["kind", "sign"] (spM S 2 m_is_half) := by
  refine F.ok sc_is_half (fun vs H Q E h => h.1) (fun cdv A outer s H vs Q E hr h => ?_)
  have nd := sc_is_half.nd
  refine ⟨_, (pss_one (ps_ret (pe_and (pe_cmpR (op_eqS S hr.units) (pv 0) pe_str (nomark _)) (pe_one (pe_cmpR (op_eqS S hr.units) (pv 1) pe_str (nomark _)))))), fn_run (N := ["kind", "sign"]) (m := mb_is_half) ?_ h⟩
  exact (ss_ret (se_andV (se_op vo_eq se_var (se_strL)) (se_op vo_eq se_var (se_strL))))
theorem bd_is_half {f : Addr} {fd : FuncData} (F : Fun S.K "is_half" "is_half" s_is_half f fd) : Binds S.K fd ["kind", "sign"] [] := F.binds (ps := ["kind", "sign"]) fun _ _ _ _ _ _ us hl => match us, hl with | [_, _], _ => rfl
theorem ok_RowWalk_behind {f : Addr} {fd : FuncData} {fc_step : Addr} {fdc_step : FuncData} {fc_without_common : Addr} {fdc_without_common : FuncData} {fc_is_half : Addr} {fdc_is_half : FuncData} (F : Fun S.K "behind" "RowWalk.behind" s_RowWalk_behind f fd) (c_step : Cal S mg base "step" 3 ["way", "standing", "sign"] 3 m_step fc_step fdc_step) (f_one : Fld S "one" [(0, 0)]) (f_other : Fld S "other" [(0, 1)]) (c_without_common : Cal S mg base "without_common" 1 ["first", "second"] 2 m_without_common fc_without_common fdc_without_common) (c_is_half : Cal S mg base "is_half" 1 ["kind", "sign"] 2 m_is_half fc_is_half fdc_is_half) (f_kind : Fld S "kind" [(0, 2)]) : FnOk S.P S.w S.K mg base CX0 4 f fd ["self", "node", "sign"] (spM S 3 m_RowWalk_behind) := by
  refine F.ok sc_RowWalk_behind (fun vs H Q E h => h.1) (fun cdv A outer s H vs Q E hr h => ?_)
  have nd := sc_RowWalk_behind.nd
  refine ⟨_, (pss_cons (ps_asg (pv 1) (pg_tup rfl (pgs_cons (pg_name (i := 3) nd rfl (Or.inl rfl)) (pgs_cons (pg_name (i := 4) nd rfl (Or.inl rfl)) (pgs_cons (pg_name (i := 5) nd rfl (Or.inl rfl)) (pgs_cons (pg_name (i := 6) nd rfl (Or.inl rfl)) (pgs_cons (pg_name (i := 7) nd rfl (Or.inl rfl)) pgs_nil))))))) (pss_cons (ps_asg (pe_call c_step.ok (hr.mono (by decide)) (by rfl) c_step.g c_step.kp c_step.b .nil pass0 (pa_cons (pe_fldS S (pv 0)) (pa_cons (pv 3) (pa_cons (pv 2) pa_nil)))) (pg_tup rfl (pgs_cons (pg_name (i := 8) nd rfl (Or.inl rfl)) (pgs_cons (pg_name (i := 9) nd rfl (Or.inl rfl)) pgs_nil)))) (pss_cons (ps_asg (pe_call c_step.ok (hr.mono (by decide)) (by rfl) c_step.g c_step.kp c_step.b .nil pass0 (pa_cons (pe_fldS S (pv 0)) (pa_cons (pv 4) (pa_cons (pv 2) pa_nil)))) (pg_tup rfl (pgs_cons (pg_name (i := 10) nd rfl (Or.inl rfl)) (pgs_cons (pg_name (i := 11) nd rfl (Or.inl rfl)) pgs_nil)))) (pss_cons (ps_set (i := 12) nd rfl (Or.inl rfl) (pe_call c_without_common.ok (hr.mono (by decide)) (by rfl) c_without_common.g c_without_common.kp c_without_common.b .nil pass0 (pa_cons (pe_op (op_addS S) (pv 6) (pv 9)) (pa_cons (pe_op (op_addS S) (pv 7) (pv 11)) pa_nil)))) (pss_one (ps_ret (pe_tup (pa_cons (pv 8) (pa_cons (pv 10) (pa_cons (pe_call c_is_half.ok (hr.mono (by decide)) (by rfl) c_is_half.g c_is_half.kp c_is_half.b .nil pass0 (pa_cons (pe_fldS S (pv 0)) (pa_cons (pv 2) pa_nil))) (pa_cons (pe_ix (ix_S S (hu9 hr)) (pv 12) pe_int (fun _ _ => rfl)) (pa_cons (pe_ix (ix_S S (hu9 hr)) (pv 12) pe_int (fun _ _ => rfl)) pa_nil)))))))))))), fn_run (N := ["self", "node", "sign", "first", "second", "_", "ahead", "lag", "first_behind", "given", "second_behind", "other_given", "rests"]) (m := mb_RowWalk_behind) ?_ h⟩
  exact (ss_seq (ss_asg se_var (sg_tup (sgs_cons sg_name (sgs_cons sg_name (sgs_cons sg_name (sgs_cons sg_name (sgs_cons sg_name sgs_nil))))))) (ss_seq (ss_asg (se_call (sa_cons (se_fld f_one se_var) (sa_cons se_var (sa_cons se_var sa_nil)))) (sg_tup (sgs_cons sg_name (sgs_cons sg_name sgs_nil)))) (ss_seq (ss_asg (se_call (sa_cons (se_fld f_other se_var) (sa_cons se_var (sa_cons se_var sa_nil)))) (sg_tup (sgs_cons sg_name (sgs_cons sg_name sgs_nil)))) (ss_seq (ss_asg (se_call (sa_cons (se_op vo_add se_var se_var) (sa_cons (se_op vo_add se_var se_var) sa_nil))) sg_name) (ss_ret (se_tup (sa_cons se_var (sa_cons se_var (sa_cons (se_call (sa_cons (se_fld f_kind se_var) (sa_cons se_var sa_nil))) (sa_cons (se_op vo_ixX se_var se_int) (sa_cons (se_op vo_ixX se_var se_int) sa_nil)))))))))))
theorem bd_RowWalk_behind {f : Addr} {fd : FuncData} (F : Fun S.K "behind" "RowWalk.behind" s_RowWalk_behind f fd) : Binds S.K fd ["self", "node", "sign"] [] := F.binds (ps := ["self", "node", "sign"]) fun _ _ _ _ _ _ us hl => match us, hl with | [_, _, _], _ => rfl
theorem ok__law_is_even {f : Addr} {fd : FuncData} {fc__law_end : Addr} {fdc__law_end : FuncData} (F : Fun S.K "_law_is_even" "_law_is_even" s__law_is_even f fd) (c__law_end : Cal S mg base "_law_end" 2 ["way", "standing"] 2 m__law_end fc__law_end fdc__law_end) : FnOk S.P S.w S.K mg base CX0 3 f fd ["one", "other", "row"] (spM S 3 m__law_is_even) := by
  refine F.ok sc__law_is_even (fun vs H Q E h => h.1) (fun cdv A outer s H vs Q E hr h => ?_)
  have nd := sc__law_is_even.nd
  refine ⟨_, (pss_one (ps_ret (pe_and (pe_cmpR op_notAll (pv 2) pe_non (nomark _)) (pe_one (pe_cmpR (op_eqS S hr.units) (pe_op (op_addS S) (pe_ix (ix_S S (hu9 hr)) (pv 2) pe_int (fun _ _ => rfl)) (pe_call c__law_end.ok (hr.mono (by decide)) (by rfl) c__law_end.g c__law_end.kp c__law_end.b .nil pass0 (pa_cons (pv 0) (pa_cons (pe_ix (ix_S S (hu9 hr)) (pv 2) pe_int (fun _ _ => rfl)) pa_nil)))) (pe_op (op_addS S) (pe_ix (ix_S S (hu9 hr)) (pv 2) pe_int (fun _ _ => rfl)) (pe_call c__law_end.ok (hr.mono (by decide)) (by rfl) c__law_end.g c__law_end.kp c__law_end.b .nil pass0 (pa_cons (pv 1) (pa_cons (pe_ix (ix_S S (hu9 hr)) (pv 2) pe_int (fun _ _ => rfl)) pa_nil)))) (nomark _)))))), fn_run (N := ["one", "other", "row"]) (m := mb__law_is_even) ?_ h⟩
  exact (ss_ret (se_andV (se_op vo_not se_var se_non) (se_op vo_eq (se_op vo_add (se_op vo_ixX se_var se_int) (se_call (sa_cons se_var (sa_cons (se_op vo_ixX se_var se_int) sa_nil)))) (se_op vo_add (se_op vo_ixX se_var se_int) (se_call (sa_cons se_var (sa_cons (se_op vo_ixX se_var se_int) sa_nil)))))))
theorem bd__law_is_even {f : Addr} {fd : FuncData} (F : Fun S.K "_law_is_even" "_law_is_even" s__law_is_even f fd) : Binds S.K fd ["one", "other", "row"] [] := F.binds (ps := ["one", "other", "row"]) fun _ _ _ _ _ _ us hl => match us, hl with | [_, _, _], _ => rfl
theorem ok__law_are_rows {f : Addr} {fd : FuncData} {fc__law_first : Addr} {fdc__law_first : FuncData} {fc__law_is_even : Addr} {fdc__law_is_even : FuncData} {fc__law_can : Addr} {fdc__law_can : FuncData} {fc__law_behind : Addr} {fdc__law_behind : FuncData} (F : Fun S.K "_law_are_rows" "_law_are_rows" s__law_are_rows f fd) (n_dict : mg "dict" = none) (c__law_first : Cal S mg base "_law_first" 1 ["way"] 1 m__law_first fc__law_first fdc__law_first) (c__law_is_even : Cal S mg base "_law_is_even" 3 ["one", "other", "row"] 3 m__law_is_even fc__law_is_even fdc__law_is_even) (c__law_can : Cal S mg base "_law_can" 1 ["kind", "is_open", "sign"] 3 m__law_can fc__law_can fdc__law_can) (c__law_behind : Cal S mg base "_law_behind" 3 ["one", "other", "kind", "row", "sign"] 5 m__law_behind fc__law_behind fdc__law_behind) : FnOk S.P S.w S.K mg base CX0 4 f fd ["one", "other", "kind", "rows"] (spM S 4 m__law_are_rows) := by
  refine F.ok sc__law_are_rows (fun vs H Q E h => h.1) (fun cdv A outer s H vs Q E hr h => ?_)
  have nd := sc__law_are_rows.nd
  refine ⟨_, (pss_cons (ps_set (i := 4) nd rfl (Or.inl rfl) (pe_callTy (call_dictNS S rfl (hu65 hr)) (by rfl) n_dict (by decide +kernel) (pa_cons (pe_lc (own := [("row", 5)]) (g := (gName 5)) (by rfl) nd (pi_anyS S (pv 3)) (blkOk_by (own := [("row", 5)]) (N := ["one", "other", "kind", "rows", "known", "row", "sign"]) (sc := defScope s__law_are_rows) (by decide +kernel)) (fun _ _ _ _ _ => (pg_name (i := 5) nd rfl (Or.inl rfl))) (fun _ _ _ _ _ => pts_nil) (fun _ _ _ _ _ => (pe_tup (pa_cons (pv 5) (pa_cons pe_bl pa_nil))))) pa_nil))) (pss_cons (ps_if (pt_cmpR (op_niYS S (hu65 hr)) (pe_tup (pa_cons (pe_call c__law_first.ok (hr.mono (by decide)) (by rfl) c__law_first.g c__law_first.kp c__law_first.b .nil pass0 (pa_cons (pv 0) pa_nil)) (pa_cons (pe_call c__law_first.ok (hr.mono (by decide)) (by rfl) c__law_first.g c__law_first.kp c__law_first.b .nil pass0 (pa_cons (pv 1) pa_nil)) (pa_cons pe_bl (pa_cons pe_str (pa_cons pe_str pa_nil)))))) (pv 4) rfl) (pss_one (ps_ret pe_bl)) pss_nil) (pss_cons (ps_for PassesOwn.never rfl (pi_anyS S (pv 4)) (pg_name (i := 5) nd rfl (Or.inr rfl)) (pss_cons (ps_if (PW.pt (pw_and (pt_cmpR (op_neS S hr.units) (pe_ix (ix_S S (hu9 hr)) (pv 5) pe_int (fun _ _ => rfl)) pe_str (nomark _)) (pw_and1 (pt_cmpR (op_neS S hr.units) (pe_ix (ix_S S (hu9 hr)) (pv 5) pe_int (fun _ _ => rfl)) pe_str (nomark _))))) (pss_one (ps_ret pe_bl)) pss_nil) (pss_cons (ps_if (PW.pt (pw_and (pt_not (pt_truS S (pe_ix (ix_S S (hu9 hr)) (pv 5) pe_int (fun _ _ => rfl)))) (pw_and1 (pt_not (pt_truS S (pe_call c__law_is_even.ok (hr.mono (by decide)) (by rfl) c__law_is_even.g c__law_is_even.kp c__law_is_even.b .nil pass0 (pa_cons (pv 0) (pa_cons (pv 1) (pa_cons (pv 5) pa_nil))))))))) (pss_one (ps_ret pe_bl)) pss_nil) (pss_one (ps_for PassesOwn.never rfl (pi_anyS S (pe_lc (own := [("sign", 6)]) (g := (gName 6)) (by rfl) nd (pi_anyS S (pe_tup (pa_cons pe_str (pa_cons pe_str (pa_cons pe_str pa_nil))))) (blkOk_by (own := [("sign", 6)]) (N := ["one", "other", "kind", "rows", "known", "row", "sign"]) (sc := defScope s__law_are_rows) (by decide +kernel)) (fun _ _ _ _ _ => (pg_name (i := 6) nd rfl (Or.inl rfl))) (fun _ _ _ _ _ => (pts_one (pt_truS S (pe_call c__law_can.ok (hr.mono (by decide)) (by rfl) c__law_can.g c__law_can.kp c__law_can.b .nil pass0 (pa_cons (pv 2) (pa_cons (pe_ix (ix_S S (hu9 hr)) (pv 5) pe_int (fun _ _ => rfl)) (pa_cons (pv 6) pa_nil))))))) (fun _ _ _ _ _ => (pv 6)))) (pg_name (i := 6) nd rfl (Or.inl rfl)) (pss_one (ps_if (pt_cmpR (op_niZS S (hu65 hr)) (pe_call c__law_behind.ok (hr.mono (by decide)) (by rfl) c__law_behind.g c__law_behind.kp c__law_behind.b .nil pass0 (pa_cons (pv 0) (pa_cons (pv 1) (pa_cons (pv 2) (pa_cons (pv 5) (pa_cons (pv 6) pa_nil)))))) (pv 4) rfl) (pss_one (ps_ret pe_bl)) pss_nil))))))) (pss_one (ps_ret pe_bl))))), fn_run (N := ["one", "other", "kind", "rows", "known", "row", "sign"]) (m := mb__law_are_rows) ?_ h⟩
  exact (ss_seq (ss_asg (se_cb vc_dictN (sa_cons (se_lc (vs := [5]) (si_any se_var) sg_name (gw_name (by decide)) st_yes (se_tup (sa_cons se_var (sa_cons se_bl sa_nil)))) sa_nil)) sg_name) (ss_seq (ss_if (st_test (se_op vo_niY (se_tup (sa_cons (se_call (sa_cons se_var sa_nil)) (sa_cons (se_call (sa_cons se_var sa_nil)) (sa_cons se_bl (sa_cons (se_strL) (sa_cons (se_strL) sa_nil)))))) se_var)) (ss_ret se_bl) ss_next) (ss_seq (ss_for (si_any se_var) sg_name (ss_seq (ss_if (st_and (st_test (se_op vo_ne (se_op vo_ixX se_var se_int) (se_strL))) (st_test (se_op vo_ne (se_op vo_ixX se_var se_int) (se_strL)))) (ss_ret se_bl) ss_next) (ss_seq (ss_if (st_and (st_not (st_tru (se_op vo_ixX se_var se_int))) (st_not (st_tru (se_call (sa_cons se_var (sa_cons se_var (sa_cons se_var sa_nil))))))) (ss_ret se_bl) ss_next) (ss_for (si_any (se_lc (vs := [6]) (si_any (se_tup (sa_cons (se_strL) (sa_cons (se_strL) (sa_cons (se_strL) sa_nil))))) sg_name (gw_name (by decide)) (st_tru (se_call (sa_cons se_var (sa_cons (se_op vo_ixX se_var se_int) (sa_cons se_var sa_nil))))) se_var)) sg_name (ss_if (st_test (se_op vo_niZ (se_call (sa_cons se_var (sa_cons se_var (sa_cons se_var (sa_cons se_var (sa_cons se_var sa_nil)))))) se_var)) (ss_ret se_bl) ss_next))))) (ss_ret se_bl))))
theorem bd__law_are_rows {f : Addr} {fd : FuncData} (F : Fun S.K "_law_are_rows" "_law_are_rows" s__law_are_rows f fd) : Binds S.K fd ["one", "other", "kind", "rows"] [] := F.binds (ps := ["one", "other", "kind", "rows"]) fun _ _ _ _ _ _ us hl => match us, hl with | [_, _, _, _], _ => rfl
theorem ok__law_text {f : Addr} {fd : FuncData} {fc__law_take : Addr} {fdc__law_take : FuncData} {fc__law_pick : Addr} {fdc__law_pick : FuncData} (F : Fun S.K "_law_text" "_law_text" s__law_text f fd) (n_range : mg "range" = none) (c__law_take : Cal S mg base "_law_take" 2 ["draw", "many"] 2 m__law_take fc__law_take fdc__law_take) (c__law_pick : Cal S mg base "_law_pick" 3 ["draw", "things"] 2 m__law_pick fc__law_pick fdc__law_pick) : FnOk S.P S.w S.K mg base CX0 4 f fd ["draw", "most"] (spM S 2 m__law_text) := by
  refine F.ok sc__law_text (fun vs H Q E h => h.1) (fun cdv A outer s H vs Q E hr h => ?_)
  have nd := sc__law_text.nd
  refine ⟨_, (pss_one (ps_ret (pe_joinS S pe_str (pe_lc (own := [("place", 2)]) (g := (gName 2)) (by rfl) nd (pi_range1 (by rfl) n_range (pa_cons (pe_call c__law_take.ok (hr.mono (by decide)) (by rfl) c__law_take.g c__law_take.kp c__law_take.b .nil pass0 (pa_cons (pv 0) (pa_cons (pe_op (op_addS S) (pv 1) pe_int) pa_nil))) pa_nil)) (blkOk_by (own := [("place", 2)]) (N := ["draw", "most", "place"]) (sc := defScope s__law_text) (by decide +kernel)) (fun _ _ _ _ _ => (pg_name (i := 2) nd rfl (Or.inl rfl))) (fun _ _ _ _ _ => pts_nil) (fun _ _ _ _ _ => (pe_call c__law_pick.ok (hr.mono (by decide)) (by rfl) c__law_pick.g c__law_pick.kp c__law_pick.b .nil pass0 (pa_cons (pv 0) (pa_cons (pe_lst (pa_cons pe_str (pa_cons pe_str (pa_cons pe_str (pa_cons pe_str (pa_cons pe_str pa_nil)))))) pa_nil)))))))), fn_run (N := ["draw", "most", "place"]) (m := mb__law_text) ?_ h⟩
  exact (ss_ret (se_join0 (se_lc (vs := [2]) (si_rng1 (sa_cons (se_callS (sa_cons se_var (sa_cons (se_op vo_add se_var se_int) sa_nil))) sa_nil)) sg_name (gw_name (by decide)) st_yes (se_callS (sa_cons se_var (sa_cons (se_lst (sa_cons (se_strL) (sa_cons (se_strL) (sa_cons (se_strL) (sa_cons (se_strL) (sa_cons (se_strL) sa_nil)))))) sa_nil))))))
theorem bd__law_text {f : Addr} {fd : FuncData} (F : Fun S.K "_law_text" "_law_text" s__law_text f fd) : Binds S.K fd ["draw", "most"] [] := F.binds (ps := ["draw", "most"]) fun _ _ _ _ _ _ us hl => match us, hl with | [_, _], _ => rfl
end
end K04
namespace K04
open PySem PySem.Spec PyProof.Rows L2 RZ PpSet Rm
section
variable {S : Se} {mg : Str → Option Value} {base : Heap} {ag_CONVERSIONS ag_KINDS ag_SIGNS ag__HELD ag__MADE_OF ag__PLAIN ag__REPLACED ag_behind : Addr}
theorem ok__law_number {f : Addr} {fd : FuncData} (F : Fun S.K "_law_number" "_law_number" s__law_number f fd) (n_int : mg "int" = none) (n_len : mg "len" = none) (n_sum : mg "sum" = none) : FnOk S.P S.w S.K mg base CX0 1 f fd ["script", "index"] (spM S 2 m__law_number) := by
  refine F.ok sc__law_number (fun vs H Q E h => h.1) (fun cdv A outer s H vs Q E hr h => ?_)
  have nd := sc__law_number.nd
  refine ⟨_, (pss_cons (ps_set (i := 2) nd rfl (Or.inl rfl) (pe_ifExp (pt_cmpR (op_neS S hr.units) (pv 0) (pe_lst pa_nil) (nomark _)) (pe_slice (sl_S S) (pv 0) po_none (po_some pe_int)) (pe_lst (pa_cons pe_int pa_nil)))) (pss_cons (ps_set (i := 3) nd rfl (Or.inl rfl) (pe_op (op_addS S) (pe_ix (ix_S S (hu9 hr)) (pv 2) (pe_op op_mod (pe_callTy call_intR (by rfl) n_int (by decide +kernel) (pa_cons (pv 1) pa_nil)) (pe_callB (call_lenS S) (by rfl) n_len (by decide +kernel) (pa_cons (pv 2) pa_nil))) (fun _ _ => rfl)) (pe_op (op_mulS S) pe_int (pe_op op_fdiv (pv 1) (pe_callB (call_lenS S) (by rfl) n_len (by decide +kernel) (pa_cons (pv 2) pa_nil)))))) (pss_cons (ps_par (i := 4) (j := 5) (by rfl) nd rfl rfl (by decide) rfl rfl (pa_cons (pe_op op_mod (pe_callTy call_intR (by rfl) n_int (by decide +kernel) (pa_cons (pv 3) pa_nil)) pe_int) (pa_cons (pe_op op_mod (pe_callTy call_intR (by rfl) n_int (by decide +kernel) (pa_cons (pe_op op_fdiv (pv 3) pe_int) pa_nil)) pe_int) pa_nil)) (by rfl)) (pss_cons (ps_set (i := 6) nd rfl (Or.inl rfl) (pe_op op_mod (pe_callTy call_intR (by rfl) n_int (by decide +kernel) (pa_cons (pe_callB (call_sumS S rfl) (by rfl) n_sum (by decide +kernel) (pa_cons (pv 2) pa_nil)) pa_nil)) pe_int)) (pss_cons (ps_set (i := 7) nd rfl (Or.inl rfl) (pe_op op_mod (pe_callTy call_intR (by rfl) n_int (by decide +kernel) (pa_cons (pe_op (op_addS S) (pe_op (op_addS S) (pe_op (op_mulS S) (pe_op (op_addS S) (pv 4) (pe_op (op_mulS S) pe_int (pv 1))) pe_int) (pe_op (op_mulS S) pe_int (pv 5))) (pv 6)) pa_nil)) pe_int)) (pss_one (ps_ret (pe_op (op_addS S) (pe_op (op_mulS S) (pe_op op_mod (pe_callTy call_intR (by rfl) n_int (by decide +kernel) (pa_cons (pe_op (op_mulS S) (pv 7) (pe_op (op_addS S) (pe_op (op_addS S) (pv 7) (pe_op (op_mulS S) pe_int (pv 1))) pe_int)) pa_nil)) pe_int) pe_int) (pv 5))))))))), fn_run (N := ["script", "index", "cells", "cell", "low", "high", "total", "blend"]) (m := mb__law_number) ?_ h⟩
  exact (ss_seq (ss_asg (se_if (st_test (se_op vo_ne se_var (se_lst sa_nil))) (se_sl se_var so_none (so_some se_int)) (se_lst (sa_cons se_int sa_nil))) sg_name) (ss_seq (ss_asg (se_op vo_add (se_op vo_ixX se_var (se_op vo_mod (se_cb vc_int (sa_cons se_var sa_nil)) (se_cb vc_len (sa_cons se_var sa_nil)))) (se_op vo_mul se_int (se_op vo_div se_var (se_cb vc_len (sa_cons se_var sa_nil))))) sg_name) (ss_seq (ss_par (sa_cons (se_op vo_mod (se_cb vc_int (sa_cons se_var sa_nil)) se_int) (sa_cons (se_op vo_mod (se_cb vc_int (sa_cons (se_op vo_div se_var se_int) sa_nil)) se_int) sa_nil))) (ss_seq (ss_asg (se_op vo_mod (se_cb vc_int (sa_cons (se_cb vc_sum (sa_cons se_var sa_nil)) sa_nil)) se_int) sg_name) (ss_seq (ss_asg (se_op vo_mod (se_cb vc_int (sa_cons (se_op vo_add (se_op vo_add (se_op vo_mul (se_op vo_add se_var (se_op vo_mul se_int se_var)) se_int) (se_op vo_mul se_int se_var)) se_var) sa_nil)) se_int) sg_name) (ss_ret (se_op vo_add (se_op vo_mul (se_op vo_mod (se_cb vc_int (sa_cons (se_op vo_mul se_var (se_op vo_add (se_op vo_add se_var (se_op vo_mul se_int se_var)) se_int)) sa_nil)) se_int) se_int) se_var)))))))
theorem bd__law_number {f : Addr} {fd : FuncData} (F : Fun S.K "_law_number" "_law_number" s__law_number f fd) : Binds S.K fd ["script", "index"] [] := F.binds (ps := ["script", "index"]) fun _ _ _ _ _ _ us hl => match us, hl with | [_, _], _ => rfl
theorem ok__law_way {f : Addr} {fd : FuncData} {fc__law_take : Addr} {fdc__law_take : FuncData} {fc__law_pick : Addr} {fdc__law_pick : FuncData} (F : Fun S.K "_law_way" "_law_way" s__law_way f fd) (n_tuple : mg "tuple" = none) (n_range : mg "range" = none) (c__law_take : Cal S mg base "_law_take" 2 ["draw", "many"] 2 m__law_take fc__law_take fdc__law_take) (c__law_pick : Cal S mg base "_law_pick" 3 ["draw", "things"] 2 m__law_pick fc__law_pick fdc__law_pick) : FnOk S.P S.w S.K mg base CX0 4 f fd ["draw", "most"] (spM S 2 m__law_way) := by
  refine F.ok sc__law_way (fun vs H Q E h => h.1) (fun cdv A outer s H vs Q E hr h => ?_)
  have nd := sc__law_way.nd
  refine ⟨_, (pss_cons (ps_set (i := 2) nd rfl (Or.inr rfl) (pe_lst (pa_cons pe_str (pa_cons pe_str (pa_cons pe_str (pa_cons pe_str (pa_cons pe_str (pa_cons pe_str pa_nil)))))))) (pss_one (ps_ret (pe_callTy (call_tupS S) (by rfl) n_tuple (by decide +kernel) (pa_cons (pe_lc (own := [("place", 3)]) (g := (gName 3)) (by rfl) nd (pi_range1 (by rfl) n_range (pa_cons (pe_call c__law_take.ok (hr.mono (by decide)) (by rfl) c__law_take.g c__law_take.kp c__law_take.b .nil pass0 (pa_cons (pv 0) (pa_cons (pe_op (op_addS S) (pv 1) pe_int) pa_nil))) pa_nil)) (blkOk_by (own := [("place", 3)]) (N := ["draw", "most", "words", "place"]) (sc := defScope s__law_way) (by decide +kernel)) (fun _ _ _ _ _ => (pg_name (i := 3) nd rfl (Or.inl rfl))) (fun _ _ _ _ _ => pts_nil) (fun _ _ _ _ _ => (pe_call c__law_pick.ok (hr.mono (by decide)) (by rfl) c__law_pick.g c__law_pick.kp c__law_pick.b .nil pass0 (pa_cons (pv 0) (pa_cons (pe_op (op_addS S) (pv 2) (pe_lst (pa_cons pe_str (pa_cons pe_str pa_nil)))) pa_nil))))) pa_nil))))), fn_run (N := ["draw", "most", "words", "place"]) (m := mb__law_way) ?_ h⟩
  exact (ss_seq (ss_asg (se_lst (sa_cons (se_strL) (sa_cons (se_strL) (sa_cons (se_strL) (sa_cons (se_strL) (sa_cons (se_strL) (sa_cons (se_strL) sa_nil))))))) sg_name) (ss_ret (se_cb vc_tuple (sa_cons (se_lc (vs := [3]) (si_rng1 (sa_cons (se_callS (sa_cons se_var (sa_cons (se_op vo_add se_var se_int) sa_nil))) sa_nil)) sg_name (gw_name (by decide)) st_yes (se_callS (sa_cons se_var (sa_cons (se_op vo_add se_var (se_lst (sa_cons (se_strL) (sa_cons (se_strL) sa_nil)))) sa_nil)))) sa_nil))))
theorem bd__law_way {f : Addr} {fd : FuncData} (F : Fun S.K "_law_way" "_law_way" s__law_way f fd) : Binds S.K fd ["draw", "most"] [] := F.binds (ps := ["draw", "most"]) fun _ _ _ _ _ _ us hl => match us, hl with | [_, _], _ => rfl
theorem ok_is_text {f : Addr} {fd : FuncData} {ag_SIGNS : Addr} (F : Fun S.K "is_text" "is_text" s_is_text f fd) (n_isinstance : mg "isinstance" = none) (n_str : mg "str" = none) (n_all : mg "all" = none) (g_SIGNS : mg "SIGNS" = some (.ref ag_SIGNS)) (z_SIGNS : ∀ F ι H, RV S.toSg F ι H (.tup [(.str [97]), (.str [110]), (.str [114])]) (.ref ag_SIGNS)) : FnOk S.P S.w S.K mg base CX0 1 f fd ["text"] (spM S 1 m_is_text) := by
  refine F.ok sc_is_text (fun vs H Q E h => h.1) (fun cdv A outer s H vs Q E hr h => ?_)
  have nd := sc_is_text.nd
  refine ⟨_, (pss_one (ps_ret (pe_and (pe_callB (call_isiS S) (by rfl) n_isinstance (by decide +kernel) (pa_cons (pv 0) (pa_cons (pe_bltn (v := .ty "str") (u := .type "str") (by rfl) n_str (by decide +kernel) rfl) pa_nil))) (pe_one (pe_callB (call_allS S rfl) (by rfl) n_all (by decide +kernel) (pa_cons (pe_lc (own := [("sign", 1)]) (g := (gName 1)) (by rfl) nd (pi_anyS S (pv 0)) (blkOk_by (own := [("sign", 1)]) (N := ["text", "sign"]) (sc := defScope s_is_text) (by decide +kernel)) (fun _ _ _ _ _ => (pg_name (i := 1) nd rfl (Or.inl rfl))) (fun _ _ _ _ _ => pts_nil) (fun _ _ _ _ _ => (pe_cmpR (op_inYS S (hu65 hr)) (pv 1) (pe_glob (v := .ref ag_SIGNS) (by rfl) g_SIGNS rfl) rfl))) pa_nil)))))), fn_run (N := ["text", "sign"]) (m := mb_is_text) ?_ h⟩
  exact (ss_ret (se_andV (se_isi (.ty "str") isT_ty se_var) (se_cb vc_all (sa_cons (se_lc (vs := [1]) (si_any se_var) sg_name (gw_name (by decide)) st_yes (se_op vo_inY se_var (se_c z_SIGNS))) sa_nil))))
theorem bd_is_text {f : Addr} {fd : FuncData} (F : Fun S.K "is_text" "is_text" s_is_text f fd) : Binds S.K fd ["text"] [] := F.binds (ps := ["text"]) fun _ _ _ _ _ _ us hl => match us, hl with | [_], _ => rfl
theorem ok_are_rows {f : Addr} {fd : FuncData} {fc_is_closed : Addr} {fdc_is_closed : FuncData} {fq_RowWalk : Addr} {fdq_RowWalk : FuncData} (F : Fun S.K "are_rows" "are_rows" s_are_rows f fd) (c_is_closed : Cal S mg base "is_closed" 5 ["walk", "nodes"] 2 m_is_closed fc_is_closed fdc_is_closed) (q_RowWalk : Mak S mg base 0 "RowWalk" 1 ["self", "one", "other", "kind"] 4 m_RowWalk_init fq_RowWalk fdq_RowWalk 3) : FnOk S.P S.w S.K mg base CX0 6 f fd ["one", "other", "kind", "rows"] (spM S 4 m_are_rows) := by
  refine F.ok sc_are_rows (fun vs H Q E h => h.1) (fun cdv A outer s H vs Q E hr h => ?_)
  have nd := sc_are_rows.nd
  refine ⟨_, (pss_one (ps_ret (pe_call c_is_closed.ok (hr.mono (by decide)) (by rfl) c_is_closed.g c_is_closed.kp c_is_closed.b .nil pass0 (pa_cons (pe_make q_RowWalk.mak q_RowWalk.ok (hr.mono (by decide)) (by rfl) q_RowWalk.g q_RowWalk.b .nil pass0 (pa_cons (pv 0) (pa_cons (pv 1) (pa_cons (pv 2) pa_nil)))) (pa_cons (pv 3) pa_nil))))), fn_run (N := ["one", "other", "kind", "rows"]) (m := mb_are_rows) ?_ h⟩
  exact (ss_ret (se_call (sa_cons (se_make q_RowWalk.k (sa_cons se_var (sa_cons se_var (sa_cons se_var sa_nil)))) (sa_cons se_var sa_nil))))
theorem bd_are_rows {f : Addr} {fd : FuncData} (F : Fun S.K "are_rows" "are_rows" s_are_rows f fd) : Binds S.K fd ["one", "other", "kind", "rows"] [] := F.binds (ps := ["one", "other", "kind", "rows"]) fun _ _ _ _ _ _ us hl => match us, hl with | [_, _, _, _], _ => rfl
theorem ok_Parted_eq {f : Addr} {fd : FuncData} (F : Fun S.K "__eq__" "Parted.__eq__" s_Parted_eq f fd) (n_isinstance : mg "isinstance" = none) (w_Parted : mg "Parted" = some (.ref (S.ct 2))) (vx_Parted : IsT S (.ref (S.ct 2)) (tbOwnX [(1, false), (2, true)] ["list", "int"])) (f_text : Fld S "text" [(2, 0)]) : FnOk S.P S.w S.K mg base CX0 1 f fd ["self", "other"] (spM S 2 m_Parted_eq) := by
  refine F.ok sc_Parted_eq (fun vs H Q E h => h.1) (fun cdv A outer s H vs Q E hr h => ?_)
  have nd := sc_Parted_eq.nd
  refine ⟨_, (pss_one (ps_ret (pe_and (pe_callB (call_isiS S) (by rfl) n_isinstance (by decide +kernel) (pa_cons (pv 1) (pa_cons (pe_glob (v := .ref (S.ct 2)) (by rfl) w_Parted rfl) pa_nil))) (pe_one (pe_cmpR (op_eqS S hr.units) (pe_fldS S (pv 0)) (pe_fldS S (pv 1)) (nomark _)))))), fn_run (N := ["self", "other"]) (m := mb_Parted_eq) ?_ h⟩
  exact (ss_ret (se_andV (se_isi (.own _) vx_Parted se_var) (se_op vo_eq (se_fld f_text se_var) (se_fld f_text se_var))))
theorem bd_Parted_eq {f : Addr} {fd : FuncData} (F : Fun S.K "__eq__" "Parted.__eq__" s_Parted_eq f fd) : Binds S.K fd ["self", "other"] [] := F.binds (ps := ["self", "other"]) fun _ _ _ _ _ _ us hl => match us, hl with | [_, _], _ => rfl
theorem ok__law_walk {f : Addr} {fd : FuncData} {fc__law_first : Addr} {fdc__law_first : FuncData} {fc__law_can : Addr} {fdc__law_can : FuncData} {fc__law_behind : Addr} {fdc__law_behind : FuncData} (F : Fun S.K "_law_walk" "_law_walk" s__law_walk f fd) (c__law_first : Cal S mg base "_law_first" 1 ["way"] 1 m__law_first fc__law_first fdc__law_first) (n_dict : mg "dict" = none) (n_len : mg "len" = none) (c__law_can : Cal S mg base "_law_can" 1 ["kind", "is_open", "sign"] 3 m__law_can fc__law_can fdc__law_can) (c__law_behind : Cal S mg base "_law_behind" 3 ["one", "other", "kind", "row", "sign"] 5 m__law_behind fc__law_behind fdc__law_behind) (n_list : mg "list" = none) : FnOk S.P S.w S.K mg base CX0 4 f fd ["one", "other", "kind"] (spM S 3 m__law_walk) := by
  refine F.ok sc__law_walk (fun vs H Q E h => h.1) (fun cdv A outer s H vs Q E hr h => ?_)
  have nd := sc__law_walk.nd
  refine ⟨_, (pss_cons (ps_set (i := 3) nd rfl (Or.inl rfl) (pe_tup (pa_cons (pe_call c__law_first.ok (hr.mono (by decide)) (by rfl) c__law_first.g c__law_first.kp c__law_first.b .nil pass0 (pa_cons (pv 0) pa_nil)) (pa_cons (pe_call c__law_first.ok (hr.mono (by decide)) (by rfl) c__law_first.g c__law_first.kp c__law_first.b .nil pass0 (pa_cons (pv 1) pa_nil)) (pa_cons pe_bl (pa_cons pe_str (pa_cons pe_str pa_nil))))))) (pss_cons (ps_par (i := 4) (j := 5) (by rfl) nd rfl rfl (by decide) rfl rfl (pa_cons (pe_callTy (call_dictNS S rfl (hu65 hr)) (by rfl) n_dict (by decide +kernel) (pa_cons (pe_lst (pa_cons (pe_tup (pa_cons (pv 3) (pa_cons pe_bl pa_nil))) pa_nil)) pa_nil)) (pa_cons (pe_lst (pa_cons (pv 3) pa_nil)) pa_nil)) (by rfl)) (pss_cons (ps_while PassesOwn.never (PW.pt (pw_and (pt_cmpR (op_neS S hr.units) (pv 5) (pe_lst pa_nil) (nomark _)) (pw_and1 (pt_cmpR op_lt (pe_callB (call_lenDNS S) (by rfl) n_len (by decide +kernel) (pa_cons (pv 4) pa_nil)) pe_int (nomark _))))) (pss_cons (ps_set (i := 6) nd rfl (Or.inr rfl) (pe_bm PySem.F.plainAttrs_list PySem.F.slot_list_pop PySem.F.type_list_pop mt_popAt (pv 5) (pa_cons pe_int pa_nil))) (pss_one (ps_for PassesOwn.never rfl (pi_anyS S (pe_lc (own := [("sign", 7)]) (g := (gName 7)) (by rfl) nd (pi_anyS S (pe_tup (pa_cons pe_str (pa_cons pe_str (pa_cons pe_str pa_nil))))) (blkOk_by (own := [("sign", 7)]) (N := ["one", "other", "kind", "start", "found", "waiting", "row", "sign", "late"]) (sc := defScope s__law_walk) (by decide +kernel)) (fun _ _ _ _ _ => (pg_name (i := 7) nd rfl (Or.inl rfl))) (fun _ _ _ _ _ => (pts_one (pt_truS S (pe_call c__law_can.ok (hr.mono (by decide)) (by rfl) c__law_can.g c__law_can.kp c__law_can.b .nil pass0 (pa_cons (pv 2) (pa_cons (pe_ix (ix_S S (hu9 hr)) (pv 6) pe_int (fun _ _ => rfl)) (pa_cons (pv 7) pa_nil))))))) (fun _ _ _ _ _ => (pv 7)))) (pg_name (i := 7) nd rfl (Or.inl rfl)) (pss_cons (ps_set (i := 8) nd rfl (Or.inl rfl) (pe_call c__law_behind.ok (hr.mono (by decide)) (by rfl) c__law_behind.g c__law_behind.kp c__law_behind.b .nil pass0 (pa_cons (pv 0) (pa_cons (pv 1) (pa_cons (pv 2) (pa_cons (pv 6) (pa_cons (pv 7) pa_nil))))))) (pss_one (ps_if (PW.pt (pw_and (pt_cmpR op_notAll (pv 8) pe_non (nomark _)) (pw_and1 (pt_cmpR (op_niYS S (hu65 hr)) (pv 8) (pv 4) rfl)))) (pss_cons (ps_asg pe_bl (pg_sub (pv 4) (pv 8) (set_S S (hu9 hr)))) (pss_one (ps_expr (pe_bm PySem.F.plainAttrs_list PySem.F.slot_list_append PySem.F.type_list_append mt_append (pv 5) (pa_cons (pv 8) pa_nil))))) pss_nil))))))) (pss_one (ps_ret (pe_callTy (call_listYS S rfl) (by rfl) n_list (by decide +kernel) (pa_cons (pv 4) pa_nil))))))), fn_run (N := ["one", "other", "kind", "start", "found", "waiting", "row", "sign", "late"]) (m := mb__law_walk) ?_ h⟩
  exact (ss_seq (ss_asg (se_tup (sa_cons (se_call (sa_cons se_var sa_nil)) (sa_cons (se_call (sa_cons se_var sa_nil)) (sa_cons se_bl (sa_cons (se_strL) (sa_cons (se_strL) sa_nil)))))) sg_name) (ss_seq (ss_par (sa_cons (se_cb vc_dictM (sa_cons (se_lst (sa_cons (se_tup (sa_cons se_var (sa_cons se_bl sa_nil))) sa_nil)) sa_nil)) (sa_cons (se_lstM (sa_cons se_var sa_nil)) sa_nil))) (ss_seq (ss_while (st_and (st_test (se_op vo_ne se_var (se_lst sa_nil))) (st_test (se_op vo_cmp (se_cb vc_lenD (sa_cons se_var sa_nil)) se_int))) (ss_seq (ss_asg (se_pop0 se_var se_int) sg_name) (ss_for (si_any (se_lc (vs := [7]) (si_any (se_tup (sa_cons (se_strL) (sa_cons (se_strL) (sa_cons (se_strL) sa_nil))))) sg_name (gw_name (by decide)) (st_tru (se_call (sa_cons se_var (sa_cons (se_op vo_ixX se_var se_int) (sa_cons se_var sa_nil))))) se_var)) sg_name (ss_seq (ss_asg (se_call (sa_cons se_var (sa_cons se_var (sa_cons se_var (sa_cons se_var (sa_cons se_var sa_nil)))))) sg_name) (ss_if (st_and (st_test (se_op vo_not se_var se_non)) (st_test (se_op vo_niY se_var se_var))) (ss_seq (ss_asg se_bl (sg_sub vst_X se_var se_var)) (ss_drop (se_app se_var se_var))) ss_next))))) (ss_ret (se_cb vc_listY (sa_cons se_var sa_nil))))))
theorem bd__law_walk {f : Addr} {fd : FuncData} (F : Fun S.K "_law_walk" "_law_walk" s__law_walk f fd) : Binds S.K fd ["one", "other", "kind"] [] := F.binds (ps := ["one", "other", "kind"]) fun _ _ _ _ _ _ us hl => match us, hl with | [_, _, _], _ => rfl
end
end K04
namespace K04
open PySem PySem.Spec PyProof.Rows L2 RZ PpSet Rm
section
variable {S : Se} {mg : Str → Option Value} {base : Heap} {ag_CONVERSIONS ag_KINDS ag_SIGNS ag__HELD ag__MADE_OF ag__PLAIN ag__REPLACED ag_behind : Addr}
theorem ok_Alike_init {f : Addr} {fd : FuncData} (F : Fun S.K "__init__" "Alike.__init__" s_Alike_init f fd) (f_rows : Fld S "rows" [(1, 0)]) (n_list : mg "list" = none) : FnOk S.P S.w S.K mg base CX0 1 f fd ["self", "rows"] (spM S 2 m_Alike_init) := by
  refine F.ok sc_Alike_init (fun vs H Q E h => h.1) (fun cdv A outer s H vs Q E hr h => ?_)
  have nd := sc_Alike_init.nd
  refine ⟨_, (pss_one (ps_fld (pv 0) (pe_callTy (call_listYS S rfl) (by rfl) n_list (by decide +kernel) (pa_cons (pv 1) pa_nil)) rfl)), fn_run (N := ["self", "rows"]) (m := mb_Alike_init) ?_ h⟩
  exact (ss_fld f_rows se_var (se_cb vc_listY (sa_cons se_var sa_nil)))
theorem bd_Alike_init {f : Addr} {fd : FuncData} (F : Fun S.K "__init__" "Alike.__init__" s_Alike_init f fd) : Binds S.K fd ["self", "rows"] [] := F.binds (ps := ["self", "rows"]) fun _ _ _ _ _ _ us hl => match us, hl with | [_, _], _ => rfl
theorem ok_check_way {f : Addr} {fd : FuncData} {fc_is_way : Addr} {fdc_is_way : FuncData} (F : Fun S.K "check_way" "check_way" s_check_way f fd) (c_is_way : Cal S mg base "is_way" 2 ["way"] 1 m_is_way fc_is_way fdc_is_way) : FnOk S.P S.w S.K mg base CX0 3 f fd ["way"] (spM S 1 m_check_way) := by
  refine F.ok sc_check_way (fun vs H Q E h => h.1) (fun cdv A outer s H vs Q E hr h => ?_)
  have nd := sc_check_way.nd
  refine ⟨_, (pss_one (ps_if (pt_not (pt_truS S (pe_call c_is_way.ok (hr.mono (by decide)) (by rfl) c_is_way.g c_is_way.kp c_is_way.b .nil pass0 (pa_cons (pv 0) pa_nil)))) (pss_one ps_never) pss_nil)), fn_run (N := ["way"]) (m := mb_check_way) ?_ h⟩
  exact (ss_if (st_not (st_tru (se_call (sa_cons se_var sa_nil)))) ss_bad ss_next)
theorem bd_check_way {f : Addr} {fd : FuncData} (F : Fun S.K "check_way" "check_way" s_check_way f fd) : Binds S.K fd ["way"] [] := F.binds (ps := ["way"]) fun _ _ _ _ _ _ us hl => match us, hl with | [_], _ => rfl
theorem ok__check_comparing {f : Addr} {fd : FuncData} {fc_check_way : Addr} {fdc_check_way : FuncData} {fc_check_kind : Addr} {fdc_check_kind : FuncData} (F : Fun S.K "_check" "_check" s__check_comparing f fd) (c_check_way : Cal S mg base "check_way" 3 ["way"] 1 m_check_way fc_check_way fdc_check_way) (c_check_kind : Cal S mg base "check_kind" 1 ["kind"] 1 m_check_kind fc_check_kind fdc_check_kind) : FnOk S.P S.w S.K mg base CX0 4 f fd ["one", "other", "kind"] (spM S 3 m__check_comparing) := by
  refine F.ok sc__check_comparing (fun vs H Q E h => h.1) (fun cdv A outer s H vs Q E hr h => ?_)
  have nd := sc__check_comparing.nd
  refine ⟨_, (pss_cons (ps_expr (pe_call c_check_way.ok (hr.mono (by decide)) (by rfl) c_check_way.g c_check_way.kp c_check_way.b .nil pass0 (pa_cons (pv 0) pa_nil))) (pss_cons (ps_expr (pe_call c_check_way.ok (hr.mono (by decide)) (by rfl) c_check_way.g c_check_way.kp c_check_way.b .nil pass0 (pa_cons (pv 1) pa_nil))) (pss_one (ps_expr (pe_call c_check_kind.ok (hr.mono (by decide)) (by rfl) c_check_kind.g c_check_kind.kp c_check_kind.b .nil pass0 (pa_cons (pv 2) pa_nil)))))), fn_run (N := ["one", "other", "kind"]) (m := mb__check_comparing) ?_ h⟩
  exact (ss_seq (ss_drop (se_call (sa_cons se_var sa_nil))) (ss_seq (ss_drop (se_call (sa_cons se_var sa_nil))) (ss_drop (se_call (sa_cons se_var sa_nil)))))
theorem bd__check_comparing {f : Addr} {fd : FuncData} (F : Fun S.K "_check" "_check" s__check_comparing f fd) : Binds S.K fd ["one", "other", "kind"] [] := F.binds (ps := ["one", "other", "kind"]) fun _ _ _ _ _ _ us hl => match us, hl with | [_, _, _], _ => rfl
theorem ok_RowWalk_is_node {f : Addr} {fd : FuncData} {fc_is_standing : Addr} {fdc_is_standing : FuncData} {fc_is_text : Addr} {fdc_is_text : FuncData} (F : Fun S.K "is_node" "RowWalk.is_node" s_RowWalk_is_node f fd) (n_isinstance : mg "isinstance" = none) (n_tuple : mg "tuple" = none) (n_len : mg "len" = none) (c_is_standing : Cal S mg base "is_standing" 1 ["way", "standing"] 2 m_is_standing fc_is_standing fdc_is_standing) (f_one : Fld S "one" [(0, 0)]) (f_other : Fld S "other" [(0, 1)]) (n_bool : mg "bool" = none) (c_is_text : Cal S mg base "is_text" 1 ["text"] 1 m_is_text fc_is_text fdc_is_text) : FnOk S.P S.w S.K mg base CX0 2 f fd ["self", "node"] (spM S 2 m_RowWalk_is_node) := by
  refine F.ok sc_RowWalk_is_node (fun vs H Q E h => h.1) (fun cdv A outer s H vs Q E hr h => ?_)
  have nd := sc_RowWalk_is_node.nd
  refine ⟨_, (pss_cons (ps_if (PW.pt (pw_or (pt_not (pt_truS S (pe_callB (call_isiS S) (by rfl) n_isinstance (by decide +kernel) (pa_cons (pv 1) (pa_cons (pe_bltn (v := .ty "tuple") (u := .type "tuple") (by rfl) n_tuple (by decide +kernel) rfl) pa_nil))))) (pw_or1 (pt_cmpR (op_neS S hr.units) (pe_callB (call_lenS S) (by rfl) n_len (by decide +kernel) (pa_cons (pv 1) pa_nil)) pe_int (nomark _))))) (pss_one (ps_ret pe_bl)) pss_nil) (pss_cons (ps_asg (pv 1) (pg_tup rfl (pgs_cons (pg_name (i := 2) nd rfl (Or.inl rfl)) (pgs_cons (pg_name (i := 3) nd rfl (Or.inl rfl)) (pgs_cons (pg_name (i := 4) nd rfl (Or.inl rfl)) (pgs_cons (pg_name (i := 5) nd rfl (Or.inl rfl)) (pgs_cons (pg_name (i := 6) nd rfl (Or.inl rfl)) pgs_nil))))))) (pss_cons (ps_if (PW.pt (pw_or (pt_not (pt_truS S (pe_call c_is_standing.ok (hr.mono (by decide)) (by rfl) c_is_standing.g c_is_standing.kp c_is_standing.b .nil pass0 (pa_cons (pe_fldS S (pv 0)) (pa_cons (pv 2) pa_nil))))) (pw_or1 (pt_not (pt_truS S (pe_call c_is_standing.ok (hr.mono (by decide)) (by rfl) c_is_standing.g c_is_standing.kp c_is_standing.b .nil pass0 (pa_cons (pe_fldS S (pv 0)) (pa_cons (pv 3) pa_nil)))))))) (pss_one (ps_ret pe_bl)) pss_nil) (pss_one (ps_ret (pe_and (pe_callB (call_isiS S) (by rfl) n_isinstance (by decide +kernel) (pa_cons (pv 4) (pa_cons (pe_bltn (v := .ty "bool") (u := .type "bool") (by rfl) n_bool (by decide +kernel) rfl) pa_nil))) (pe_and (pe_call c_is_text.ok (hr.mono (by decide)) (by rfl) c_is_text.g c_is_text.kp c_is_text.b .nil pass0 (pa_cons (pv 5) pa_nil)) (pe_and (pe_call c_is_text.ok (hr.mono (by decide)) (by rfl) c_is_text.g c_is_text.kp c_is_text.b .nil pass0 (pa_cons (pv 6) pa_nil)) (pe_one (pe_or (pe_cmpR (op_eqS S hr.units) (pv 5) pe_str (nomark _)) (pe_one (pe_cmpR (op_eqS S hr.units) (pv 6) pe_str (nomark _))))))))))))), fn_run (N := ["self", "node", "first", "second", "waits", "ahead", "lag"]) (m := mb_RowWalk_is_node) ?_ h⟩
  exact (ss_seq (ss_if (st_or (st_not (st_tru (se_isi (.ty "tuple") isT_ty se_var))) (st_test (se_op vo_ne (se_cb vc_len (sa_cons se_var sa_nil)) se_int))) (ss_ret se_bl) ss_next) (ss_seq (ss_asg se_var (sg_tup (sgs_cons sg_name (sgs_cons sg_name (sgs_cons sg_name (sgs_cons sg_name (sgs_cons sg_name sgs_nil))))))) (ss_seq (ss_if (st_or (st_not (st_tru (se_call (sa_cons (se_fld f_one se_var) (sa_cons se_var sa_nil))))) (st_not (st_tru (se_call (sa_cons (se_fld f_other se_var) (sa_cons se_var sa_nil)))))) (ss_ret se_bl) ss_next) (ss_ret (se_andV (se_isi (.ty "bool") isT_ty se_var) (se_andV (se_call (sa_cons se_var sa_nil)) (se_andV (se_call (sa_cons se_var sa_nil)) (se_orV (se_op vo_eq se_var (se_strL)) (se_op vo_eq se_var (se_strL))))))))))
theorem bd_RowWalk_is_node {f : Addr} {fd : FuncData} (F : Fun S.K "is_node" "RowWalk.is_node" s_RowWalk_is_node f fd) : Binds S.K fd ["self", "node"] [] := F.binds (ps := ["self", "node"]) fun _ _ _ _ _ _ us hl => match us, hl with | [_, _], _ => rfl
theorem ok_is_closed {f : Addr} {fd : FuncData} {fk_RowWalk_is_node : Addr} {fdk_RowWalk_is_node : FuncData} {fk_RowWalk_first : Addr} {fdk_RowWalk_first : FuncData} {fk_RowWalk_is_fine : Addr} {fdk_RowWalk_is_fine : FuncData} {fk_RowWalk_signs : Addr} {fdk_RowWalk_signs : FuncData} {fk_RowWalk_behind : Addr} {fdk_RowWalk_behind : FuncData} (F : Fun S.K "is_closed" "is_closed" s_is_closed f fd) (n_all : mg "all" = none) (k_RowWalk_is_node : Met S mg base 0 "is_node" 2 ["self", "node"] 2 m_RowWalk_is_node fk_RowWalk_is_node fdk_RowWalk_is_node) (k_RowWalk_first : Met S mg base 0 "first" 2 ["self"] 1 m_RowWalk_first fk_RowWalk_first fdk_RowWalk_first) (k_RowWalk_is_fine : Met S mg base 0 "is_fine" 4 ["self", "node"] 2 m_RowWalk_is_fine fk_RowWalk_is_fine fdk_RowWalk_is_fine) (k_RowWalk_signs : Met S mg base 0 "signs" 2 ["self", "node"] 2 m_RowWalk_signs fk_RowWalk_signs fdk_RowWalk_signs) (k_RowWalk_behind : Met S mg base 0 "behind" 4 ["self", "node", "sign"] 3 m_RowWalk_behind fk_RowWalk_behind fdk_RowWalk_behind) : FnOk S.P S.w S.K mg base CX0 5 f fd ["walk", "nodes"] (spM S 2 m_is_closed) := by
  refine F.ok sc_is_closed (fun vs H Q E h => h.1) (fun cdv A outer s H vs Q E hr h => ?_)
  have nd := sc_is_closed.nd
  refine ⟨_, (pss_cons (ps_if (pt_not (pt_truS S (pe_callB (call_allS S rfl) (by rfl) n_all (by decide +kernel) (pa_cons (pe_lc (own := [("node", 3)]) (g := (gName 3)) (by rfl) nd (pi_anyS S (pv 1)) (blkOk_by (own := [("node", 3)]) (N := ["walk", "nodes", "found", "node", "sign"]) (sc := defScope s_is_closed) (by decide +kernel)) (fun _ _ _ _ _ => (pg_name (i := 3) nd rfl (Or.inl rfl))) (fun _ _ _ _ _ => pts_nil) (fun _ _ _ _ _ => (pe_meth (pv 0) k_RowWalk_is_node.cl k_RowWalk_is_node.mt k_RowWalk_is_node.ok (hr.mono (by decide)) k_RowWalk_is_node.b .nil pass0 (pa_cons (pv 3) pa_nil)))) pa_nil)))) (pss_one (ps_ret pe_bl)) pss_nil) (pss_cons (ps_setDcN (i := 2) (own := [("node", 3)]) (g := (gName 3)) (hu9 hr) (by rfl) nd rfl rfl (sw_trueD rfl rfl rfl (by decide +kernel)) (pi_anyS S (pv 1)) (blkOk_by (own := [("node", 3)]) (N := ["walk", "nodes", "found", "node", "sign"]) (sc := defScope s_is_closed) (by decide +kernel)) (fun _ _ _ _ _ => (pg_name (i := 3) nd rfl (Or.inl rfl))) (fun _ _ _ _ _ => pts_nil) (fun _ _ _ _ _ => (pv 3)) (fun _ _ _ _ _ => pe_bl)) (pss_cons (ps_if (pt_cmpR (op_niYS S (hu65 hr)) (pe_meth0 (pv 0) k_RowWalk_first.cl k_RowWalk_first.mt k_RowWalk_first.ok (hr.mono (by decide)) k_RowWalk_first.b .nil pass0) (pv 2) rfl) (pss_one (ps_ret pe_bl)) pss_nil) (pss_cons (ps_for PassesOwn.never rfl (pi_anyS S (pv 2)) (pg_name (i := 3) nd rfl (Or.inl rfl)) (pss_cons (ps_if (pt_not (pt_truS S (pe_meth (pv 0) k_RowWalk_is_fine.cl k_RowWalk_is_fine.mt k_RowWalk_is_fine.ok (hr.mono (by decide)) k_RowWalk_is_fine.b .nil pass0 (pa_cons (pv 3) pa_nil)))) (pss_one (ps_ret pe_bl)) pss_nil) (pss_one (ps_for PassesOwn.never rfl (pi_anyS S (pe_meth (pv 0) k_RowWalk_signs.cl k_RowWalk_signs.mt k_RowWalk_signs.ok (hr.mono (by decide)) k_RowWalk_signs.b .nil pass0 (pa_cons (pv 3) pa_nil))) (pg_name (i := 4) nd rfl (Or.inl rfl)) (pss_one (ps_if (pt_cmpR (op_niYS S (hu65 hr)) (pe_meth (pv 0) k_RowWalk_behind.cl k_RowWalk_behind.mt k_RowWalk_behind.ok (hr.mono (by decide)) k_RowWalk_behind.b .nil pass0 (pa_cons (pv 3) (pa_cons (pv 4) pa_nil))) (pv 2) rfl) (pss_one (ps_ret pe_bl)) pss_nil)))))) (pss_one (ps_ret pe_bl)))))), fn_run (N := ["walk", "nodes", "found", "node", "sign"]) (m := mb_is_closed) ?_ h⟩
  exact (ss_seq (ss_if (st_not (st_tru (se_cb vc_all (sa_cons (se_lc (vs := [3]) (si_any se_var) sg_name (gw_name (by decide)) st_yes (se_meth k_RowWalk_is_node.nm se_var (sa_cons se_var sa_nil))) sa_nil)))) (ss_ret se_bl) ss_next) (ss_seq (ss_asg (se_dc (vs := [3]) (si_any se_var) sg_name (gw_name (by decide)) st_yes se_var se_bl) sg_name) (ss_seq (ss_if (st_test (se_op vo_niY (se_meth k_RowWalk_first.nm se_var sa_nil) se_var)) (ss_ret se_bl) ss_next) (ss_seq (ss_for (si_any se_var) sg_name (ss_seq (ss_if (st_not (st_tru (se_meth k_RowWalk_is_fine.nm se_var (sa_cons se_var sa_nil)))) (ss_ret se_bl) ss_next) (ss_for (si_any (se_meth k_RowWalk_signs.nm se_var (sa_cons se_var sa_nil))) sg_name (ss_if (st_test (se_op vo_niY (se_meth k_RowWalk_behind.nm se_var (sa_cons se_var (sa_cons se_var sa_nil))) se_var)) (ss_ret se_bl) ss_next)))) (ss_ret se_bl)))))
theorem bd_is_closed {f : Addr} {fd : FuncData} (F : Fun S.K "is_closed" "is_closed" s_is_closed f fd) : Binds S.K fd ["walk", "nodes"] [] := F.binds (ps := ["walk", "nodes"]) fun _ _ _ _ _ _ us hl => match us, hl with | [_, _], _ => rfl
theorem ok_is_parting {f : Addr} {fd : FuncData} {fc_is_text : Addr} {fdc_is_text : FuncData} {fc_fits : Addr} {fdc_fits : FuncData} {fc_turn : Addr} {fdc_turn : FuncData} (F : Fun S.K "is_parting" "is_parting" s_is_parting f fd) (c_is_text : Cal S mg base "is_text" 1 ["text"] 1 m_is_text fc_is_text fdc_is_text) (c_fits : Cal S mg base "fits" 1 ["text", "kind"] 2 m_fits fc_fits fdc_fits) (c_turn : Cal S mg base "turn" 1 ["way", "text"] 2 m_turn fc_turn fdc_turn) : FnOk S.P S.w S.K mg base CX0 2 f fd ["one", "other", "kind", "text"] (spM S 4 m_is_parting) := by
  refine F.ok sc_is_parting (fun vs H Q E h => h.1) (fun cdv A outer s H vs Q E hr h => ?_)
  have nd := sc_is_parting.nd
  refine ⟨_, (pss_one (ps_ret (pe_and (pe_call c_is_text.ok (hr.mono (by decide)) (by rfl) c_is_text.g c_is_text.kp c_is_text.b .nil pass0 (pa_cons (pv 3) pa_nil)) (pe_and (pe_call c_fits.ok (hr.mono (by decide)) (by rfl) c_fits.g c_fits.kp c_fits.b .nil pass0 (pa_cons (pv 3) (pa_cons (pv 2) pa_nil))) (pe_one (pe_cmpR (op_neS S hr.units) (pe_call c_turn.ok (hr.mono (by decide)) (by rfl) c_turn.g c_turn.kp c_turn.b .nil pass0 (pa_cons (pv 0) (pa_cons (pv 3) pa_nil))) (pe_call c_turn.ok (hr.mono (by decide)) (by rfl) c_turn.g c_turn.kp c_turn.b .nil pass0 (pa_cons (pv 1) (pa_cons (pv 3) pa_nil))) (nomark _))))))), fn_run (N := ["one", "other", "kind", "text"]) (m := mb_is_parting) ?_ h⟩
  exact (ss_ret (se_andV (se_call (sa_cons se_var sa_nil)) (se_andV (se_call (sa_cons se_var (sa_cons se_var sa_nil))) (se_op vo_ne (se_call (sa_cons se_var (sa_cons se_var sa_nil))) (se_call (sa_cons se_var (sa_cons se_var sa_nil)))))))
theorem bd_is_parting {f : Addr} {fd : FuncData} (F : Fun S.K "is_parting" "is_parting" s_is_parting f fd) : Binds S.K fd ["one", "other", "kind", "text"] [] := F.binds (ps := ["one", "other", "kind", "text"]) fun _ _ _ _ _ _ us hl => match us, hl with | [_, _, _, _], _ => rfl
theorem ok__law_read {f : Addr} {fd : FuncData} {fc__law_sign : Addr} {fdc__law_sign : FuncData} (F : Fun S.K "_law_read" "_law_read" s__law_read f fd) (n_zip : mg "zip" = none) (c__law_sign : Cal S mg base "_law_sign" 1 ["word", "is_held", "sign"] 3 m__law_sign fc__law_sign fdc__law_sign) (n_tuple : mg "tuple" = none) : FnOk S.P S.w S.K mg base CX0 2 f fd ["way", "standing", "text"] (spM S 3 m__law_read) := by
  refine F.ok sc__law_read (fun vs H Q E h => h.1) (fun cdv A outer s H vs Q E hr h => ?_)
  have nd := sc__law_read.nd
  refine ⟨_, (pss_cons (ps_set (i := 3) nd rfl (Or.inl rfl) (pe_lst pa_nil)) (pss_cons (ps_for PassesOwn.never rfl (pi_zipA (by rfl) n_zip (pa_cons (pv 0) (pa_cons (pv 1) pa_nil))) (pg_tup rfl (pgs_cons (pg_name (i := 4) nd rfl (Or.inl rfl)) (pgs_cons (pg_name (i := 5) nd rfl (Or.inl rfl)) pgs_nil))) (pss_cons (ps_set (i := 6) nd rfl (Or.inl rfl) pe_str) (pss_cons (ps_for PassesOwn.never rfl (pi_anyS S (pv 2)) (pg_name (i := 7) nd rfl (Or.inl rfl)) (pss_cons (ps_asg (pe_call c__law_sign.ok (hr.mono (by decide)) (by rfl) c__law_sign.g c__law_sign.kp c__law_sign.b .nil pass0 (pa_cons (pv 4) (pa_cons (pv 5) (pa_cons (pv 7) pa_nil)))) (pg_tup rfl (pgs_cons (pg_name (i := 5) nd rfl (Or.inl rfl)) (pgs_cons (pg_name (i := 8) nd rfl (Or.inl rfl)) pgs_nil)))) (pss_one (ps_set (i := 6) nd rfl (Or.inl rfl) (pe_op (op_addS S) (pv 6) (pv 8)))))) (pss_cons (ps_expr (pe_bm PySem.F.plainAttrs_list PySem.F.slot_list_append PySem.F.type_list_append mt_append (pv 3) (pa_cons (pv 5) pa_nil))) (pss_one (ps_set (i := 2) nd rfl (Or.inl rfl) (pv 6))))))) (pss_one (ps_ret (pe_tup (pa_cons (pe_callTy (call_tupS S) (by rfl) n_tuple (by decide +kernel) (pa_cons (pv 3) pa_nil)) (pa_cons (pv 2) pa_nil))))))), fn_run (N := ["way", "standing", "text", "late", "word", "is_held", "found", "sign", "some"]) (m := mb__law_read) ?_ h⟩
  exact (ss_seq (ss_asg (se_lstM sa_nil) sg_name) (ss_seq (ss_for (si_zip (sa_cons se_var (sa_cons se_var sa_nil))) (sg_tup (sgs_cons sg_name (sgs_cons sg_name sgs_nil))) (ss_seq (ss_asg (se_strL) sg_name) (ss_seq (ss_for (si_any se_var) sg_name (ss_seq (ss_asg (se_call (sa_cons se_var (sa_cons se_var (sa_cons se_var sa_nil)))) (sg_tup (sgs_cons sg_name (sgs_cons sg_name sgs_nil)))) (ss_asg (se_op vo_add se_var se_var) sg_name))) (ss_seq (ss_drop (se_app se_var se_var)) (ss_asg se_var sg_name))))) (ss_ret (se_tup (sa_cons (se_cb vc_tuple (sa_cons se_var sa_nil)) (sa_cons se_var sa_nil))))))
theorem bd__law_read {f : Addr} {fd : FuncData} (F : Fun S.K "_law_read" "_law_read" s__law_read f fd) : Binds S.K fd ["way", "standing", "text"] [] := F.binds (ps := ["way", "standing", "text"]) fun _ _ _ _ _ _ us hl => match us, hl with | [_, _, _], _ => rfl
end
end K04
namespace K04
open PySem PySem.Spec PyProof.Rows L2 RZ PpSet Rm
section
variable {S : Se} {mg : Str → Option Value} {base : Heap} {ag_CONVERSIONS ag_KINDS ag_SIGNS ag__HELD ag__MADE_OF ag__PLAIN ag__REPLACED ag_behind : Addr}
theorem ok_without_common {f : Addr} {fd : FuncData} (F : Fun S.K "without_common" "without_common" s_without_common f fd) (n_len : mg "len" = none) : FnOk S.P S.w S.K mg base CX0 1 f fd ["first", "second"] (spM S 2 m_without_common) := by
  refine F.ok sc_without_common (fun vs H Q E h => h.1) (fun cdv A outer s H vs Q E hr h => ?_)
  have nd := sc_without_common.nd
  refine ⟨_, (pss_cons (ps_set (i := 2) nd rfl (Or.inl rfl) pe_int) (pss_cons (ps_while PassesOwn.never (PW.pt (pw_and (pt_cmpR op_lt (pv 2) (pe_callB (call_lenS S) (by rfl) n_len (by decide +kernel) (pa_cons (pv 0) pa_nil)) (nomark _)) (pw_and (pt_cmpR op_lt (pv 2) (pe_callB (call_lenS S) (by rfl) n_len (by decide +kernel) (pa_cons (pv 1) pa_nil)) (nomark _)) (pw_and1 (pt_cmpR (op_eqS S hr.units) (pe_ix (ix_S S (hu9 hr)) (pv 0) (pv 2) (fun _ _ => rfl)) (pe_ix (ix_S S (hu9 hr)) (pv 1) (pv 2) (fun _ _ => rfl)) (nomark _)))))) (pss_one (ps_aug (i := 2) nd rfl (Or.inl rfl) pe_int ip_add))) (pss_one (ps_ret (pe_tup (pa_cons (pe_slice (sl_S S) (pv 0) (po_some (pv 2)) po_none) (pa_cons (pe_slice (sl_S S) (pv 1) (po_some (pv 2)) po_none) pa_nil))))))), fn_run (N := ["first", "second", "size"]) (m := mb_without_common) ?_ h⟩
  exact (ss_seq (ss_asg se_int sg_name) (ss_seq (ss_while (st_and (st_test (se_op vo_cmp se_var (se_cb vc_len (sa_cons se_var sa_nil)))) (st_and (st_test (se_op vo_cmp se_var (se_cb vc_len (sa_cons se_var sa_nil)))) (st_test (se_op vo_eq (se_op vo_ixX se_var se_var) (se_op vo_ixX se_var se_var))))) (ss_aug se_int)) (ss_ret (se_tup (sa_cons (se_sl se_var (so_some se_var) so_none) (sa_cons (se_sl se_var (so_some se_var) so_none) sa_nil))))))
theorem bd_without_common {f : Addr} {fd : FuncData} (F : Fun S.K "without_common" "without_common" s_without_common f fd) : Binds S.K fd ["first", "second"] [] := F.binds (ps := ["first", "second"]) fun _ _ _ _ _ _ us hl => match us, hl with | [_, _], _ => rfl
theorem ok_RowWalk_init {f : Addr} {fd : FuncData} (F : Fun S.K "__init__" "RowWalk.__init__" s_RowWalk_init f fd) (f_one : Fld S "one" [(0, 0)]) (f_other : Fld S "other" [(0, 1)]) (f_kind : Fld S "kind" [(0, 2)]) : FnOk S.P S.w S.K mg base CX0 1 f fd ["self", "one", "other", "kind"] (spM S 4 m_RowWalk_init) := by
  refine F.ok sc_RowWalk_init (fun vs H Q E h => h.1) (fun cdv A outer s H vs Q E hr h => ?_)
  have nd := sc_RowWalk_init.nd
  refine ⟨_, (pss_cons (ps_fld (pv 0) (pv 1) rfl) (pss_cons (ps_fld (pv 0) (pv 2) rfl) (pss_one (ps_fld (pv 0) (pv 3) rfl)))), fn_run (N := ["self", "one", "other", "kind"]) (m := mb_RowWalk_init) ?_ h⟩
  exact (ss_seq (ss_fld f_one se_var se_var) (ss_seq (ss_fld f_other se_var se_var) (ss_fld f_kind se_var se_var)))
theorem bd_RowWalk_init {f : Addr} {fd : FuncData} (F : Fun S.K "__init__" "RowWalk.__init__" s_RowWalk_init f fd) : Binds S.K fd ["self", "one", "other", "kind"] [] := F.binds (ps := ["self", "one", "other", "kind"]) fun _ _ _ _ _ _ us hl => match us, hl with | [_, _, _, _], _ => rfl
theorem ok_Alike_shows {f : Addr} {fd : FuncData} {fc__check : Addr} {fdc__check : FuncData} {fc_are_rows : Addr} {fdc_are_rows : FuncData} (F : Fun S.K "shows" "Alike.shows" s_Alike_shows f fd) (c__check : Cal S mg base "_check" 4 ["one", "other", "kind"] 3 m__check_comparing fc__check fdc__check) (c_are_rows : Cal S mg base "are_rows" 6 ["one", "other", "kind", "rows"] 4 m_are_rows fc_are_rows fdc_are_rows) (f_rows : Fld S "rows" [(1, 0)]) : FnOk S.P S.w S.K mg base CX0 7 f fd ["self", "one", "other", "kind"] (spM S 4 m_Alike_shows) := by
  refine F.ok sc_Alike_shows (fun vs H Q E h => h.1) (fun cdv A outer s H vs Q E hr h => ?_)
  have nd := sc_Alike_shows.nd
  refine ⟨_, (pss_cons (ps_expr (pe_call c__check.ok (hr.mono (by decide)) (by rfl) c__check.g c__check.kp c__check.b .nil pass0 (pa_cons (pv 1) (pa_cons (pv 2) (pa_cons (pv 3) pa_nil))))) (pss_one (ps_ret (pe_call c_are_rows.ok (hr.mono (by decide)) (by rfl) c_are_rows.g c_are_rows.kp c_are_rows.b .nil pass0 (pa_cons (pv 1) (pa_cons (pv 2) (pa_cons (pv 3) (pa_cons (pe_fldS S (pv 0)) pa_nil)))))))), fn_run (N := ["self", "one", "other", "kind"]) (m := mb_Alike_shows) ?_ h⟩
  exact (ss_seq (ss_drop (se_call (sa_cons se_var (sa_cons se_var (sa_cons se_var sa_nil))))) (ss_ret (se_call (sa_cons se_var (sa_cons se_var (sa_cons se_var (sa_cons (se_fld f_rows se_var) sa_nil)))))))
theorem bd_Alike_shows {f : Addr} {fd : FuncData} (F : Fun S.K "shows" "Alike.shows" s_Alike_shows f fd) : Binds S.K fd ["self", "one", "other", "kind"] [] := F.binds (ps := ["self", "one", "other", "kind"]) fun _ _ _ _ _ _ us hl => match us, hl with | [_, _, _, _], _ => rfl
theorem ok__law_first {f : Addr} {fd : FuncData} (F : Fun S.K "_law_first" "_law_first" s__law_first f fd) (n_len : mg "len" = none) : FnOk S.P S.w S.K mg base CX0 1 f fd ["way"] (spM S 1 m__law_first) := by
  refine F.ok sc__law_first (fun vs H Q E h => h.1) (fun cdv A outer s H vs Q E hr h => ?_)
  have nd := sc__law_first.nd
  refine ⟨_, (pss_one (ps_ret (pe_op (op_mulS S) (pe_tup (pa_cons pe_bl pa_nil)) (pe_callB (call_lenS S) (by rfl) n_len (by decide +kernel) (pa_cons (pv 0) pa_nil))))), fn_run (N := ["way"]) (m := mb__law_first) ?_ h⟩
  exact (ss_ret (se_op vo_mul (se_tup (sa_cons se_bl sa_nil)) (se_cb vc_len (sa_cons se_var sa_nil))))
theorem bd__law_first {f : Addr} {fd : FuncData} (F : Fun S.K "_law_first" "_law_first" s__law_first f fd) : Binds S.K fd ["way"] [] := F.binds (ps := ["way"]) fun _ _ _ _ _ _ us hl => match us, hl with | [_], _ => rfl
theorem ok__law_behind {f : Addr} {fd : FuncData} {fc__law_read : Addr} {fdc__law_read : FuncData} (F : Fun S.K "_law_behind" "_law_behind" s__law_behind f fd) (c__law_read : Cal S mg base "_law_read" 2 ["way", "standing", "text"] 3 m__law_read fc__law_read fdc__law_read) : FnOk S.P S.w S.K mg base CX0 3 f fd ["one", "other", "kind", "row", "sign"] (spM S 5 m__law_behind) := by
  refine F.ok sc__law_behind (fun vs H Q E h => h.1) (fun cdv A outer s H vs Q E hr h => ?_)
  have nd := sc__law_behind.nd
  refine ⟨_, (pss_cons (ps_par (i := 5) (j := 6) (by rfl) nd rfl rfl (by decide) rfl rfl (pa_cons (pe_call c__law_read.ok (hr.mono (by decide)) (by rfl) c__law_read.g c__law_read.kp c__law_read.b .nil pass0 (pa_cons (pv 0) (pa_cons (pe_ix (ix_S S (hu9 hr)) (pv 3) pe_int (fun _ _ => rfl)) (pa_cons (pv 4) pa_nil)))) (pa_cons (pe_call c__law_read.ok (hr.mono (by decide)) (by rfl) c__law_read.g c__law_read.kp c__law_read.b .nil pass0 (pa_cons (pv 1) (pa_cons (pe_ix (ix_S S (hu9 hr)) (pv 3) pe_int (fun _ _ => rfl)) (pa_cons (pv 4) pa_nil)))) pa_nil)) (by rfl)) (pss_cons (ps_par (i := 7) (j := 8) (by rfl) nd rfl rfl (by decide) rfl rfl (pa_cons (pe_op (op_addS S) (pe_ix (ix_S S (hu9 hr)) (pv 3) pe_int (fun _ _ => rfl)) (pe_ix (ix_S S (hu9 hr)) (pv 5) pe_int (fun _ _ => rfl))) (pa_cons (pe_op (op_addS S) (pe_ix (ix_S S (hu9 hr)) (pv 3) pe_int (fun _ _ => rfl)) (pe_ix (ix_S S (hu9 hr)) (pv 6) pe_int (fun _ _ => rfl))) pa_nil)) (by rfl)) (pss_cons (ps_while PassesOwn.never (PW.pt (pw_and (pt_cmpR (op_neS S hr.units) (pv 7) pe_str (nomark _)) (pw_and (pt_cmpR (op_neS S hr.units) (pv 8) pe_str (nomark _)) (pw_and1 (pt_cmpR (op_eqS S hr.units) (pe_ix (ix_S S (hu9 hr)) (pv 7) pe_int (fun _ _ => rfl)) (pe_ix (ix_S S (hu9 hr)) (pv 8) pe_int (fun _ _ => rfl)) (nomark _)))))) (pss_one (ps_par (i := 7) (j := 8) (by rfl) nd rfl rfl (by decide) rfl rfl (pa_cons (pe_slice (sl_S S) (pv 7) (po_some pe_int) po_none) (pa_cons (pe_slice (sl_S S) (pv 8) (po_some pe_int) po_none) pa_nil)) (by rfl)))) (pss_cons (ps_set (i := 9) nd rfl (Or.inl rfl) (pe_tup (pa_cons (pe_ix (ix_S S (hu9 hr)) (pv 5) pe_int (fun _ _ => rfl)) (pa_cons (pe_ix (ix_S S (hu9 hr)) (pv 6) pe_int (fun _ _ => rfl)) (pa_cons (pe_and (pe_cmpR (op_eqS S hr.units) (pv 2) pe_str (nomark _)) (pe_one (pe_cmpR (op_eqS S hr.units) (pv 4) pe_str (nomark _)))) (pa_cons (pv 7) (pa_cons (pv 8) pa_nil))))))) (pss_one (ps_ret (pe_ifExp (PW.pt (pw_or (pt_cmpR (op_eqS S hr.units) (pv 7) pe_str (nomark _)) (pw_or1 (pt_cmpR (op_eqS S hr.units) (pv 8) pe_str (nomark _))))) (pv 9) pe_non))))))), fn_run (N := ["one", "other", "kind", "row", "sign", "first", "second", "mine", "theirs", "late"]) (m := mb__law_behind) ?_ h⟩
  exact (ss_seq (ss_par (sa_cons (se_call (sa_cons se_var (sa_cons (se_op vo_ixX se_var se_int) (sa_cons se_var sa_nil)))) (sa_cons (se_call (sa_cons se_var (sa_cons (se_op vo_ixX se_var se_int) (sa_cons se_var sa_nil)))) sa_nil))) (ss_seq (ss_par (sa_cons (se_op vo_add (se_op vo_ixX se_var se_int) (se_op vo_ixX se_var se_int)) (sa_cons (se_op vo_add (se_op vo_ixX se_var se_int) (se_op vo_ixX se_var se_int)) sa_nil))) (ss_seq (ss_while (st_and (st_test (se_op vo_ne se_var (se_strL))) (st_and (st_test (se_op vo_ne se_var (se_strL))) (st_test (se_op vo_eq (se_op vo_ixX se_var se_int) (se_op vo_ixX se_var se_int))))) (ss_par (sa_cons (se_sl se_var (so_some se_int) so_none) (sa_cons (se_sl se_var (so_some se_int) so_none) sa_nil)))) (ss_seq (ss_asg (se_tup (sa_cons (se_op vo_ixX se_var se_int) (sa_cons (se_op vo_ixX se_var se_int) (sa_cons (se_andV (se_op vo_eq se_var (se_strL)) (se_op vo_eq se_var (se_strL))) (sa_cons se_var (sa_cons se_var sa_nil)))))) sg_name) (ss_ret (se_if (st_or (st_test (se_op vo_eq se_var (se_strL))) (st_test (se_op vo_eq se_var (se_strL)))) se_var se_non))))))
theorem bd__law_behind {f : Addr} {fd : FuncData} (F : Fun S.K "_law_behind" "_law_behind" s__law_behind f fd) : Binds S.K fd ["one", "other", "kind", "row", "sign"] [] := F.binds (ps := ["one", "other", "kind", "row", "sign"]) fun _ _ _ _ _ _ us hl => match us, hl with | [_, _, _, _, _], _ => rfl
theorem ok__law_is_of {f : Addr} {fd : FuncData} (F : Fun S.K "_law_is_of" "_law_is_of" s__law_is_of f fd) (n_list : mg "list" = none) (n_any : mg "any" = none) : FnOk S.P S.w S.K mg base CX0 1 f fd ["text", "kind"] (spM S 2 m__law_is_of) := by
  refine F.ok sc__law_is_of (fun vs H Q E h => h.1) (fun cdv A outer s H vs Q E hr h => ?_)
  have nd := sc__law_is_of.nd
  refine ⟨_, (pss_cons (ps_if (pt_cmpR (op_inYS S (hu65 hr)) (pv 1) (pe_tup (pa_cons pe_str (pa_cons pe_str pa_nil))) rfl) (pss_one (ps_ret (pe_cmpR (op_niYS S (hu65 hr)) (pe_ifExp (pt_cmpR (op_eqS S hr.units) (pv 1) pe_str (nomark _)) pe_str pe_str) (pe_callTy (call_listYS S rfl) (by rfl) n_list (by decide +kernel) (pa_cons (pv 0) pa_nil)) rfl))) pss_nil) (pss_cons (ps_if (pt_cmpR (op_eqS S hr.units) (pv 1) pe_str (nomark _)) (pss_one (ps_ret pe_bl)) pss_nil) (pss_cons (ps_set (i := 2) nd rfl (Or.inl rfl) (pe_m1 PySem.F.slot_str_split PySem.F.type_str_split mt_splitT (pv 0) pe_str)) (pss_one (ps_ret (pe_not (pe_callB (call_anyS S rfl) (by rfl) n_any (by decide +kernel) (pa_cons (pe_lc (own := [("sign", 3)]) (g := (gName 3)) (by rfl) nd (pi_anyS S (pe_callTy (call_listYS S rfl) (by rfl) n_list (by decide +kernel) (pa_cons (pe_joinS S pe_str (pv 2)) pa_nil))) (blkOk_by (own := [("sign", 3)]) (N := ["text", "kind", "pieces", "sign"]) (sc := defScope s__law_is_of) (by decide +kernel)) (fun _ _ _ _ _ => (pg_name (i := 3) nd rfl (Or.inl rfl))) (fun _ _ _ _ _ => pts_nil) (fun _ _ _ _ _ => (pe_cmpR (op_inYS S (hu65 hr)) (pv 3) (pe_tup (pa_cons pe_str (pa_cons pe_str pa_nil))) rfl))) pa_nil)))))))), fn_run (N := ["text", "kind", "pieces", "sign"]) (m := mb__law_is_of) ?_ h⟩
  exact (ss_seq (ss_if (st_test (se_op vo_inY se_var (se_tup (sa_cons (se_strL) (sa_cons (se_strL) sa_nil))))) (ss_ret (se_op vo_niY (se_if (st_test (se_op vo_eq se_var (se_strL))) (se_strL) (se_strL)) (se_cb vc_listY (sa_cons se_var sa_nil)))) ss_next) (ss_seq (ss_if (st_test (se_op vo_eq se_var (se_strL))) (ss_ret se_bl) ss_next) (ss_seq (ss_asg (se_m1 vo_split se_var (se_strL)) sg_name) (ss_ret (se_notV (se_cb vc_any (sa_cons (se_lc (vs := [3]) (si_any (se_cb vc_listY (sa_cons (se_join0 se_var) sa_nil))) sg_name (gw_name (by decide)) st_yes (se_op vo_inY se_var (se_tup (sa_cons (se_strL) (sa_cons (se_strL) sa_nil))))) sa_nil)))))))
theorem bd__law_is_of {f : Addr} {fd : FuncData} (F : Fun S.K "_law_is_of" "_law_is_of" s__law_is_of f fd) : Binds S.K fd ["text", "kind"] [] := F.binds (ps := ["text", "kind"]) fun _ _ _ _ _ _ us hl => match us, hl with | [_, _], _ => rfl
theorem ok__law_by {f : Addr} {fd : FuncData} (F : Fun S.K "_law_by" "_law_by" s__law_by f fd) (n_enumerate : mg "enumerate" = none) : FnOk S.P S.w S.K mg base CX0 1 f fd ["word", "text"] (spM S 2 m__law_by) := by
  refine F.ok sc__law_by (fun vs H Q E h => h.1) (fun cdv A outer s H vs Q E hr h => ?_)
  have nd := sc__law_by.nd
  refine ⟨_, (pss_cons (ps_set (i := 2) nd rfl (Or.inl rfl) pe_str) (pss_cons (ps_for PassesOwn.never rfl (pi_enumX S (by rfl) n_enumerate (pa_cons (pv 1) pa_nil)) (pg_tup rfl (pgs_cons (pg_name (i := 3) nd rfl (Or.inl rfl)) (pgs_cons (pg_name (i := 4) nd rfl (Or.inl rfl)) pgs_nil))) (pss_cons (ps_set (i := 5) nd rfl (Or.inl rfl) (pe_cmpR (op_eqS S hr.units) (pe_slice (sl_S S) (pv 1) (po_some (pe_op (op_addS S) (pv 3) pe_int)) (po_some (pe_op (op_addS S) (pv 3) pe_int))) pe_str (nomark _))) (pss_cons (ps_set (i := 6) nd rfl (Or.inl rfl) (pe_and (pe_cmpR op_gt (pv 3) pe_int (nomark _)) (pe_one (pe_cmpR (op_eqS S hr.units) (pe_ix (ix_S S (hu9 hr)) (pv 1) (pe_op op_sub (pv 3) pe_int) (fun _ _ => rfl)) pe_str (nomark _))))) (pss_one (ps_if (PW.pt (pw_and (pt_cmpR (op_eqS S hr.units) (pv 4) pe_str (nomark _)) (pw_and1 (PW.pt (pw_or (pt_cmpR (op_eqS S hr.units) (pv 0) pe_str (nomark _)) (pw_or1 (PW.pt (pw_and (pt_cmpR (op_eqS S hr.units) (pv 0) pe_str (nomark _)) (pw_and1 (pt_not (pt_truS S (pv 6)))))))))))) (pss_one (ps_set (i := 2) nd rfl (Or.inl rfl) (pe_op (op_addS S) (pv 2) pe_str))) (pss_one (ps_if (PW.pt (pw_and (pt_cmpR (op_eqS S hr.units) (pv 4) pe_str (nomark _)) (pw_and1 (pt_cmpR (op_eqS S hr.units) (pv 0) pe_str (nomark _))))) (pss_one (ps_set (i := 2) nd rfl (Or.inl rfl) (pe_op (op_addS S) (pv 2) pe_str))) (pss_one (ps_if (PW.pt (pw_and (pt_cmpR (op_eqS S hr.units) (pv 4) pe_str (nomark _)) (pw_and1 (pt_cmpR (op_inYS S (hu65 hr)) (pv 0) (pe_tup (pa_cons pe_str (pa_cons pe_str (pa_cons pe_str pa_nil)))) rfl)))) (pss_cons (ps_set (i := 7) nd rfl (Or.inl rfl) (pe_dget (hu1 hr) (pe_disp (pps_cons pe_str (pe_lst (pa_cons pe_str (pa_cons pe_str pa_nil))) (pps_cons pe_str (pe_lst (pa_cons pe_str (pa_cons pe_str pa_nil))) (pps_cons pe_str (pe_lst (pa_cons pe_str (pa_cons pe_str pa_nil))) pps_nil))) (by rfl) (by rfl) (by simp) (by decide)) (pv 0) (fun _ _ => rfl))) (pss_one (ps_set (i := 2) nd rfl (Or.inl rfl) (pe_op (op_addS S) (pv 2) (pe_ix (ix_S S (hu9 hr)) (pv 7) (pe_ifExp (pt_truS S (pv 5)) pe_int pe_int) (fun _ _ => rfl)))))) (pss_one (ps_set (i := 2) nd rfl (Or.inl rfl) (pe_op (op_addS S) (pv 2) (pv 4))))))))))))) (pss_one (ps_ret (pv 2))))), fn_run (N := ["word", "text", "found", "at", "sign", "is_ahead", "is_behind", "some"]) (m := mb__law_by) ?_ h⟩
  exact (ss_seq (ss_asg (se_strL) sg_name) (ss_seq (ss_for (si_enumX (sa_cons se_var sa_nil)) (sg_tup (sgs_cons sg_name (sgs_cons sg_name sgs_nil))) (ss_seq (ss_asg (se_op vo_eq (se_sl se_var (so_some (se_op vo_add se_var se_int)) (so_some (se_op vo_add se_var se_int))) (se_strL)) sg_name) (ss_seq (ss_asg (se_andV (se_op vo_cmp se_var se_int) (se_op vo_eq (se_op vo_ixX se_var (se_op vo_sub se_var se_int)) (se_strL))) sg_name) (ss_if (st_and (st_test (se_op vo_eq se_var (se_strL))) (st_or (st_test (se_op vo_eq se_var (se_strL))) (st_and (st_test (se_op vo_eq se_var (se_strL))) (st_not (st_tru se_var))))) (ss_asg (se_op vo_add se_var (se_strL)) sg_name) (ss_if (st_and (st_test (se_op vo_eq se_var (se_strL))) (st_test (se_op vo_eq se_var (se_strL)))) (ss_asg (se_op vo_add se_var (se_strL)) sg_name) (ss_if (st_and (st_test (se_op vo_eq se_var (se_strL))) (st_test (se_op vo_inY se_var (se_tup (sa_cons (se_strL) (sa_cons (se_strL) (sa_cons (se_strL) sa_nil))))))) (ss_seq (ss_asg (se_dix [[98, 111, 116, 104], [108, 111, 110, 101, 115], [112, 97, 105, 114, 115]] (pr_cons (se_lst (sa_cons (se_strL) (sa_cons (se_strL) sa_nil))) (pr_cons (se_lst (sa_cons (se_strL) (sa_cons (se_strL) sa_nil))) (pr_cons (se_lst (sa_cons (se_strL) (sa_cons (se_strL) sa_nil))) pr_nil))) se_var (by decide +kernel) (by decide)) sg_name) (ss_asg (se_op vo_add se_var (se_op vo_ixX se_var (se_if (st_tru se_var) se_int se_int))) sg_name)) (ss_asg (se_op vo_add se_var se_var) sg_name))))))) (ss_ret se_var)))
theorem bd__law_by {f : Addr} {fd : FuncData} (F : Fun S.K "_law_by" "_law_by" s__law_by f fd) : Binds S.K fd ["word", "text"] [] := F.binds (ps := ["word", "text"]) fun _ _ _ _ _ _ us hl => match us, hl with | [_, _], _ => rfl
end
end K04
namespace Sx
open PySem PySem.Spec
open PySem.StrLaws (replL replL_nil replL_hit replL_miss)
inductive Cv where | all | both | care | lone | lones | pairs deriving DecidableEq
inductive Sg where | a | n | r deriving DecidableEq
def Sg.c : Sg → Nat | .a => 97 | .n => 110 | .r => 114
inductive Kd where | any | bare | lone | paired deriving DecidableEq
def ofl (l : List Nat) : Str := ⟨l.toArray⟩
def txt (l : List Sg) : Str := ofl (l.map Sg.c)
theorem ofl_len (l : List Nat) : (ofl l).length = l.length := Rm.ofl_len l
theorem replace_ofl {x y z : List Nat} (h : 1 ≤ y.length) : Txt.replace (ofl x) (ofl y) (ofl z) = ofl (replL y z x) := Rm.replace_ofl h

/-! ### the mathematics: what becomes of a text, all places at once -/
def outS (c : Cv) (prev next : Bool) : Sg → List Sg
  | .a => [.a]
  | .n => match c with
    | .all => [.r, .n]
    | .care => if prev then [.n] else [.r, .n]
    | .lone => [.r]
    | _ => [.n]
  | .r => match c with
    | .both => if next then [] else [.n]
    | .lones => if next then [.r] else [.n]
    | .pairs => if next then [] else [.r]
    | _ => [.r]
def isN : List Sg → Bool | .n :: _ => true | _ => false
def go (c : Cv) : Bool → List Sg → List Sg
  | _, [] => []
  | p, s :: l => outS c p (isN l) s ++ go c (decide (s = .r)) l
def by1 (c : Cv) (l : List Sg) : List Sg := go c false l
def turnL : List Cv → List Sg → List Sg
  | [], l => l
  | c :: ws, l => turnL ws (by1 c l)
/-! ### by replacing -/
theorem r1_hit (c : Nat) (z m : List Nat) : replL [c] z (c :: m) = z ++ replL [c] z m := replL_hit (by simp) (by simp)
theorem r1_miss {c d : Nat} (h : d ≠ c) (z m : List Nat) : replL [c] z (d :: m) = d :: replL [c] z m := replL_miss (by simp [h])
theorem r2_hit (z m : List Nat) : replL [114, 110] z (114 :: 110 :: m) = z ++ replL [114, 110] z m := replL_hit (by simp) (by simp)
theorem r2_miss {d : Nat} (h : d ≠ 114) (z m : List Nat) : replL [114, 110] z (d :: m) = d :: replL [114, 110] z m := replL_miss (by cases m <;> simp [h])
theorem r2_miss2 {d : Nat} (h : d ≠ 110) (z m : List Nat) : replL [114, 110] z (114 :: d :: m) = 114 :: replL [114, 110] z (d :: m) := replL_miss (by simp [h])
theorem r2_last (z : List Nat) : replL [114, 110] z [114] = [114] := by
  rw [replL_miss (by simp), replL_nil]
def pairsOf : Cv → List (List Nat × List Nat)
  | .all => [([110], [114, 110])]
  | .both => [([114, 110], [110]), ([114], [110])]
  | .care => [([114, 110], [110]), ([110], [114, 110])]
  | .lone => [([110], [114])]
  | .lones => [([114, 110], [120]), ([114], [110]), ([120], [114, 110])]
  | .pairs => [([114, 110], [110])]
def repAll (ps : List (List Nat × List Nat)) (m : List Nat) : List Nat := ps.foldl (fun m p => replL p.1 p.2 m) m
theorem go_prev {c : Cv} (p q : Bool) {l : List Sg} (h : isN l = false) : go c p l = go c q l := by
  cases l with
  | nil => rfl
  | cons s l =>
    cases s with
    | n => cases h
    | a => rfl
    | r => cases c <;> rfl
theorem rep_by (c : Cv) : ∀ (k : Nat) (l : List Sg), l.length ≤ k → repAll (pairsOf c) (l.map Sg.c) = (by1 c l).map Sg.c
  | 0, l, h => by
    have e : l = [] := List.length_eq_zero_iff.mp (by omega)
    subst e
    cases c <;> simp [repAll, pairsOf, replL_nil, by1, go]
  | k + 1, l, h => by
    cases l with
    | nil => cases c <;> simp [repAll, pairsOf, replL_nil, by1, go]
    | cons s l =>
      have ih := rep_by c k l (by simpa using h)
      cases s with
      | a =>
        have e2 : by1 c (.a :: l) = .a :: by1 c l := by cases c <;> rfl
        rw [e2, List.map_cons, List.map_cons, ← ih]
        cases c <;> simp [repAll, pairsOf, Sg.c, r1_miss, r2_miss]
      | n =>
        have e2 : by1 c (.n :: l) = outS c false (isN l) .n ++ by1 c l := by cases c <;> rfl
        rw [e2, List.map_append, ← ih]
        cases c <;> simp [repAll, pairsOf, Sg.c, r1_hit, r1_miss, r2_miss, outS]
      | r =>
        cases l with
        | nil => cases c <;> simp [repAll, pairsOf, Sg.c, r1_hit, r1_miss, r2_last, replL_nil, by1, go, outS, isN]
        | cons t l =>
          have ih2 := rep_by c (k - 1) l (by simp at h; omega)
          cases t with
          | n =>
            have e2 : by1 c (.r :: .n :: l) = outS c false true .r ++ (outS c true (isN l) .n ++ by1 c l) := by cases c <;> rfl
            rw [e2, List.map_append, List.map_append, ← ih2]
            cases c <;> simp [repAll, pairsOf, Sg.c, r1_hit, r1_miss, r2_hit, outS]
          | a =>
            have e2 : by1 c (.r :: .a :: l) = outS c false false .r ++ by1 c (.a :: l) := by cases c <;> rfl
            rw [e2, List.map_append, ← ih]
            cases c <;> simp [repAll, pairsOf, Sg.c, r1_hit, r1_miss, r2_miss, r2_miss2, outS]
          | r =>
            have e2 : by1 c (.r :: .r :: l) = outS c false false .r ++ by1 c (.r :: l) := by cases c <;> rfl
            rw [e2, List.map_append, ← ih]
            cases c <;> simp [repAll, pairsOf, Sg.c, r1_hit, r1_miss, r2_miss2, outS]
/-! ### sign by sign -/
def holds : Cv → Bool | .both => true | .lones => true | .pairs => true | _ => false
def heldN : Cv → List Sg | .lones => [.r] | _ => []
def heldE : Cv → List Sg | .both => [.n] | .lones => [.n] | .pairs => [.r] | _ => []
def plain : Cv → Bool | .all => true | .lone => true | _ => false
def one (c : Cv) (b : Bool) (s : Sg) : Bool × List Sg :=
  match c with
  | .all => (false, if s = .n then [.r, .n] else [s])
  | .lone => (false, if s = .n then [.r] else [s])
  | .care => (decide (s = .r), if s = .n && !b then [.r, .n] else [s])
  | c => (decide (s = .r), (if b then (if s = .n then heldN c else heldE c) else []) ++ (if s = .r then [] else [s]))
def many (c : Cv) : Bool → List Sg → Bool × List Sg
  | b, [] => (b, [])
  | b, s :: l => ((many c (one c b s).1 l).1, (one c b s).2 ++ (many c (one c b s).1 l).2)
theorem many_app (c : Cv) : ∀ (b : Bool) (x y : List Sg), many c b (x ++ y) = ((many c (many c b x).1 y).1, (many c b x).2 ++ (many c (many c b x).1 y).2)
  | b, [], y => rfl
  | b, s :: x, y => by
    show ((many c (one c b s).1 (x ++ y)).1, (one c b s).2 ++ (many c (one c b s).1 (x ++ y)).2) = _
    rw [many_app c _ x y]
    simp [many]
def tailE (c : Cv) (b : Bool) : List Sg := if b && holds c then heldE c else []
def runF (c : Cv) (b : Bool) (l : List Sg) : List Sg := (many c b l).2 ++ tailE c (many c b l).1
theorem go_any {c : Cv} (h : c ≠ .care) (p q : Bool) (l : List Sg) : go c p l = go c q l := by
  cases l with
  | nil => rfl
  | cons s l =>
    cases s with
    | a => rfl
    | r => cases c <;> rfl
    | n => cases c <;> first | rfl | exact absurd rfl h
theorem run_cons (c : Cv) (b : Bool) (s : Sg) (l : List Sg) : runF c b (s :: l) = (one c b s).2 ++ runF c (one c b s).1 l := by simp [runF, many]
theorem run_care : ∀ (b : Bool) (l : List Sg), runF .care b l = go .care b l
  | b, [] => by cases b <;> rfl
  | b, s :: l => by
    rw [run_cons, run_care _ l]
    cases b <;> cases s <;> rfl
theorem run_go {c : Cv} (h : c ≠ .care) : ∀ (b : Bool) (l : List Sg), runF c b l = (if b && holds c then outS c false (isN l) .r else []) ++ go c false l
  | b, [] => by cases c <;> cases b <;> first | rfl | exact absurd rfl h
  | b, s :: l => by
    have e : go c false (s :: l) = outS c false (isN l) s ++ go c false l := by
      show outS c false (isN l) s ++ go c (decide (s = .r)) l = _
      rw [go_any h _ false l]
    rw [run_cons, run_go h _ l, e]
    cases c <;> first | exact absurd rfl h | (cases b <;> cases s <;> simp [one, holds, heldN, heldE, outS, isN])
theorem run_by (c : Cv) (l : List Sg) : runF c false l = by1 c l := by
  by_cases h : c = .care
  · subst h
    exact run_care false l
  · rw [run_go h]
    rfl
/-! ### ways -/
def stepW : List Cv → List Bool → List Sg → List Bool × List Sg
  | c :: ws, b :: st, t => ((many c b t).1 :: (stepW ws st (many c b t).2).1, (stepW ws st (many c b t).2).2)
  | _, _, t => ([], t)
def endW : List Cv → List Bool → List Sg → List Sg
  | c :: ws, b :: st, t => endW ws st (runF c b t)
  | _, _, t => t
theorem step_len : ∀ (ws : List Cv) (st : List Bool) (t : List Sg), st.length = ws.length → (stepW ws st t).1.length = ws.length
  | [], _, _, _ => by simp [stepW]
  | _ :: ws, b :: st, t, h => by
    show (stepW ws st _).1.length + 1 = ws.length + 1
    rw [step_len ws st _ (by simpa using h)]
  | _ :: _, [], _, h => by simp at h
theorem end_app : ∀ (ws : List Cv) (st : List Bool) (x y : List Sg), st.length = ws.length → endW ws st (x ++ y) = (stepW ws st x).2 ++ endW ws (stepW ws st x).1 y
  | [], st, x, y, h => by
    cases st with
    | nil => rfl
    | cons _ _ => simp at h
  | c :: ws, b :: st, x, y, h => by
    have hl : st.length = ws.length := by simpa using h
    show endW ws st (runF c b (x ++ y)) = (stepW ws st (many c b x).2).2 ++ endW ws (stepW ws st (many c b x).2).1 (runF c (many c b x).1 y)
    have e : runF c b (x ++ y) = (many c b x).2 ++ runF c (many c b x).1 y := by simp [runF, many_app]
    rw [e, end_app ws st _ _ hl]
  | _ :: _, [], _, _, h => by simp at h
def walkW (ws : List Cv) : List Bool → List Sg → List Bool × List Sg
  | st, [] => (st, [])
  | st, s :: l => ((walkW ws (stepW ws st [s]).1 l).1, (stepW ws st [s]).2 ++ (walkW ws (stepW ws st [s]).1 l).2)
theorem walk_end (ws : List Cv) : ∀ (l : List Sg) (st : List Bool), st.length = ws.length → (walkW ws st l).2 ++ endW ws (walkW ws st l).1 [] = endW ws st l
  | [], st, h => rfl
  | s :: l, st, h => by
    have e := end_app ws st [s] l h
    rw [List.singleton_append] at e
    rw [e, ← walk_end ws l _ (step_len ws st [s] h)]
    simp [walkW]
theorem end_turn : ∀ (ws : List Cv) (l : List Sg), endW ws (List.replicate ws.length false) l = turnL ws l
  | [], l => rfl
  | c :: ws, l => by
    show endW ws (List.replicate ws.length false) (runF c false l) = turnL ws (by1 c l)
    rw [run_by, end_turn ws]

/-! ### kinds -/
def strip : List Sg → List Sg
  | .r :: .n :: l => strip l
  | s :: l => s :: strip l
  | [] => []
def prN : List Sg → Nat
  | .r :: .n :: l => prN l + 1
  | _ :: l => prN l
  | [] => 0
theorem strip_repl : ∀ (k : Nat) (l : List Sg), l.length ≤ k → replL [114, 110] [] (l.map Sg.c) = (strip l).map Sg.c
  | 0, l, h => by
    have e : l = [] := List.length_eq_zero_iff.mp (by omega)
    subst e
    exact replL_nil
  | k + 1, l, h => by
    cases l with
    | nil => exact replL_nil
    | cons s l =>
      have ih := strip_repl k l (by simpa using h)
      cases s with
      | a => simp [strip, Sg.c, r2_miss, ih]
      | n => simp [strip, Sg.c, r2_miss, ih]
      | r =>
        cases l with
        | nil => simp [strip, Sg.c, r2_last]
        | cons t l =>
          have ih2 := strip_repl (k - 1) l (by simp at h; omega)
          cases t with
          | n => simp [strip, Sg.c, r2_hit, ih2]
          | a =>
            simp only [List.map_cons, Sg.c] at ih ⊢
            rw [r2_miss2 (by decide), ih]
            rfl
          | r =>
            simp only [List.map_cons, Sg.c] at ih ⊢
            rw [r2_miss2 (by decide), ih]
            rfl
theorem strip_len : ∀ l : List Sg, (strip l).length + 2 * prN l = l.length
  | [] => rfl
  | .a :: l => by have := strip_len l; simp [strip, prN]; omega
  | .n :: l => by have := strip_len l; simp [strip, prN]; omega
  | [.r] => rfl
  | .r :: .n :: l => by have := strip_len l; simp [strip, prN]; omega
  | .r :: .a :: l => by have := strip_len (.a :: l); simp [strip, prN] at this ⊢; omega
  | .r :: .r :: l => by have := strip_len (.r :: l); simp [strip, prN] at this ⊢; omega
theorem strip_r : ∀ l : List Sg, (strip l).count .r + prN l = l.count .r
  | [] => rfl
  | .a :: l => by have := strip_r l; simp [strip, prN]; omega
  | .n :: l => by have := strip_r l; simp [strip, prN]; omega
  | [.r] => rfl
  | .r :: .n :: l => by have := strip_r l; simp [strip, prN]; omega
  | .r :: .a :: l => by have := strip_r (.a :: l); simp [strip, prN] at this ⊢; omega
  | .r :: .r :: l => by have := strip_r (.r :: l); simp [strip, prN] at this ⊢; omega
theorem strip_n : ∀ l : List Sg, (strip l).count .n + prN l = l.count .n
  | [] => rfl
  | .a :: l => by have := strip_n l; simp [strip, prN]; omega
  | .n :: l => by have := strip_n l; simp [strip, prN]; omega
  | [.r] => rfl
  | .r :: .n :: l => by have := strip_n l; simp [strip, prN]; omega
  | .r :: .a :: l => by have := strip_n (.a :: l); simp [strip, prN] at this ⊢; omega
  | .r :: .r :: l => by have := strip_n (.r :: l); simp [strip, prN] at this ⊢; omega
def kindL (k : Kd) (l : List Sg) : Bool := match k with
  | .any => true
  | .bare => decide (Sg.r ∉ l)
  | .lone => decide (Sg.n ∉ l)
  | .paired => (strip l).all fun s => decide (s = .a)
theorem all_a (l : List Sg) : (l.all fun s => decide (s = .a)) = decide (l.count .r = 0 ∧ l.count .n = 0) := by
  induction l with
  | nil => rfl
  | cons s l ih =>
    rw [List.all_cons, ih]
    cases s <;> simp
theorem paired_count (l : List Sg) : kindL .paired l = (decide (l.count .r = l.count .n) && decide (l.count .n = prN l)) := by
  show (strip l).all _ = _
  have h1 := strip_r l
  have h2 := strip_n l
  rw [all_a, Bool.eq_iff_iff]
  simp only [decide_eq_true_eq, Bool.and_eq_true]
  omega
/-! ### how often -/
section
open Builtin Builtin.Str
theorem count_repl {x y : List Nat} (h : 1 ≤ y.length) : ((replL y [] x).length : Int) + Txt.count (ofl x) (ofl y) * y.length = x.length := by
  have e := replace_ofl (x := x) (y := y) (z := []) h
  have hg : (glued (ofl y) (partsBetween (ofl x) (occurrences (ofl x) (ofl y) 0 (ofl x).length ((ofl x).length + 1)) (ofl y).length)).length = (ofl x).length := by rw [StrLaws.glued_between_self]
  rw [size_glued, length_partsBetween, Nat.add_sub_cancel] at hg
  have e2 := congrArg Str.length e
  rw [ofl_len] at e2
  unfold Txt.replace at e2
  show _ + ((occurrences (ofl x) (ofl y) 0 (ofl x).length ((ofl x).length + 1)).length : Int) * _ = _
  have hx : (ofl x).length = x.length := ofl_len x
  have hl : (ofl y).length = y.length := ofl_len y
  rw [hl] at hg
  generalize occurrences (ofl x) (ofl y) 0 (ofl x).length ((ofl x).length + 1) = occ at hg e2 ⊢
  cases occ with
  | nil =>
    have z : (ofl x).length = (replL y [] x).length := e2
    show _ + (0 : Int) * _ = _
    omega
  | cons i r =>
    have hyz : (y.length == 0) = false := beq_eq_false_iff_ne.mpr (by omega)
    rw [hl, hyz, Bool.false_and, Bool.or_false, if_neg (show ¬ ((i :: r).isEmpty = true) from Bool.false_ne_true), size_glued, length_partsBetween] at e2
    have z : (((partsBetween (ofl x) (i :: r) y.length).map (·.length)).sum + ((i :: r).length + 1 - 1) * 0) = (replL y [] x).length := e2
    rw [Nat.mul_zero, Nat.add_zero] at z
    rw [z, hx] at hg
    have hg2 : (((replL y [] x).length + (i :: r).length * y.length : Nat) : Int) = (x.length : Int) := congrArg _ hg
    rw [Int.natCast_add, Int.natCast_mul] at hg2
    exact hg2
end
theorem filt_r (l : List Sg) : (replL [114] [] (l.map Sg.c)).length + l.count .r = l.length := by
  induction l with
  | nil => simp [replL_nil]
  | cons s l ih =>
    cases s
    · rw [List.map_cons, show Sg.c .a = 97 from rfl, r1_miss (by decide)]
      simp at ih ⊢
      omega
    · rw [List.map_cons, show Sg.c .n = 110 from rfl, r1_miss (by decide)]
      simp at ih ⊢
      omega
    · rw [List.map_cons, show Sg.c .r = 114 from rfl, r1_hit]
      simp at ih ⊢
      omega
theorem filt_n (l : List Sg) : (replL [110] [] (l.map Sg.c)).length + l.count .n = l.length := by
  induction l with
  | nil => simp [replL_nil]
  | cons s l ih =>
    cases s
    · rw [List.map_cons, show Sg.c .a = 97 from rfl, r1_miss (by decide)]
      simp at ih ⊢
      omega
    · rw [List.map_cons, show Sg.c .n = 110 from rfl, r1_hit]
      simp at ih ⊢
      omega
    · rw [List.map_cons, show Sg.c .r = 114 from rfl, r1_miss (by decide)]
      simp at ih ⊢
      omega
theorem count_r (l : List Sg) : Txt.count (txt l) "r" = l.count .r := by
  have c := count_repl (x := l.map Sg.c) (y := [114]) (by decide)
  have f := filt_r l
  rw [List.length_map] at c
  have e : Txt.count (txt l) "r" = Txt.count (ofl (l.map Sg.c)) (ofl [114]) := rfl
  rw [e]
  simp only [List.length_cons, List.length_nil] at c
  omega
theorem count_n (l : List Sg) : Txt.count (txt l) "n" = l.count .n := by
  have c := count_repl (x := l.map Sg.c) (y := [110]) (by decide)
  have f := filt_n l
  rw [List.length_map] at c
  have e : Txt.count (txt l) "n" = Txt.count (ofl (l.map Sg.c)) (ofl [110]) := rfl
  rw [e]
  simp only [List.length_cons, List.length_nil] at c
  omega
theorem count_rn (l : List Sg) : Txt.count (txt l) "rn" = prN l := by
  have c := count_repl (x := l.map Sg.c) (y := [114, 110]) (by decide)
  rw [strip_repl l.length l (Nat.le_refl _), List.length_map, List.length_map] at c
  have f := strip_len l
  have e : Txt.count (txt l) "rn" = Txt.count (ofl (l.map Sg.c)) (ofl [114, 110]) := rfl
  rw [e]
  simp only [List.length_cons, List.length_nil] at c
  omega
/-! ### kinds, sign by sign -/
def can (k : Kd) (b : Bool) (g : Sg) : Bool := match k with
  | .any => true
  | .bare => decide (g ≠ .r)
  | .lone => decide (g ≠ .n)
  | .paired => decide (g = .n) == b
def opn (k : Kd) (g : Sg) : Bool := decide (k = .paired) && decide (g = .r)
def runK (k : Kd) : Bool → List Sg → Option Bool
  | b, [] => some b
  | b, g :: l => if can k b g then runK k (opn k g) l else none
theorem runK_app (k : Kd) : ∀ (x y : List Sg) (b : Bool), runK k b (x ++ y) = (runK k b x).bind fun c => runK k c y
  | [], y, b => rfl
  | g :: x, y, b => by
    show (if can k b g then runK k (opn k g) (x ++ y) else none) = (if can k b g then runK k (opn k g) x else none).bind _
    by_cases h : can k b g = true
    · rw [if_pos h, if_pos h, runK_app k x y]
    · rw [if_neg h, if_neg h]
      rfl
theorem run_plain {k : Kd} (h : k ≠ .paired) : ∀ l : List Sg, runK k false l = if l.all (can k false) then some false else none
  | [] => rfl
  | g :: l => by
    have e : opn k g = false := by
      unfold opn
      rw [decide_eq_false h]
      rfl
    show (if can k false g then runK k (opn k g) l else none) = _
    rw [e, run_plain h l, List.all_cons]
    cases can k false g <;> simp
theorem run_paired : ∀ l : List Sg, decide (runK .paired false l = some false) = (strip l).all fun s => decide (s = .a)
  | [] => rfl
  | .a :: l => by
    have := run_paired l
    show decide (runK .paired false l = some false) = _
    rw [this]
    simp [strip]
  | .n :: l => by simp [strip, runK, can]
  | [.r] => rfl
  | .r :: .n :: l => by
    have := run_paired l
    show decide (runK .paired false l = some false) = _
    rw [this]
    simp [strip]
  | .r :: .a :: l => by simp [strip, runK, can, opn]
  | .r :: .r :: l => by simp [strip, runK, can, opn]
theorem kind_run (k : Kd) (l : List Sg) : kindL k l = decide (runK k false l = some false) := by
  have key : ∀ (p : Sg → Bool), decide ((if l.all p = true then some false else none : Option Bool) = some false) = l.all p := fun p => by
    cases l.all p <;> simp
  cases k with
  | paired => exact (run_paired l).symm
  | any =>
    rw [run_plain (by decide), key]
    symm
    rw [kindL, List.all_eq_true]
    intro _ _
    rfl
  | bare =>
    rw [run_plain (by decide), key]
    show decide (Sg.r ∉ l) = _
    rw [Bool.eq_iff_iff, decide_eq_true_eq, List.all_eq_true]
    constructor
    · intro h x hx
      exact decide_eq_true (fun e => h (e ▸ hx))
    · intro h hr
      exact absurd rfl (of_decide_eq_true (h _ hr))
  | lone =>
    rw [run_plain (by decide), key]
    show decide (Sg.n ∉ l) = _
    rw [Bool.eq_iff_iff, decide_eq_true_eq, List.all_eq_true]
    constructor
    · intro h x hx
      exact decide_eq_true (fun e => h (e ▸ hx))
    · intro h hr
      exact absurd rfl (of_decide_eq_true (h _ hr))
/-! ### what two texts begin with, taken away -/
def lcp : List Sg → List Sg → List Sg × List Sg
  | g :: x, h :: y => if g = h then lcp x y else (g :: x, h :: y)
  | x, y => (x, y)
theorem lcp_spec : ∀ x y : List Sg, ∃ c, x = c ++ (lcp x y).1 ∧ y = c ++ (lcp x y).2
  | [], y => ⟨[], by cases y <;> simp [lcp]⟩
  | g :: x, [] => ⟨[], by simp [lcp]⟩
  | g :: x, h :: y => by
    by_cases e : g = h
    · subst e
      obtain ⟨c, h1, h2⟩ := lcp_spec x y
      refine ⟨g :: c, ?_, ?_⟩
      · rw [lcp, if_pos rfl, List.cons_append, ← h1]
      · rw [lcp, if_pos rfl, List.cons_append, ← h2]
    · exact ⟨[], by rw [lcp, if_neg e]; rfl, by rw [lcp, if_neg e]; rfl⟩
theorem lcp_ne : ∀ x y : List Sg, (lcp x y).1 ≠ [] → (lcp x y).2 ≠ [] → ∀ s t, (lcp x y).1 ++ s ≠ (lcp x y).2 ++ t
  | [], y, h, _ => absurd (by cases y <;> simp [lcp]) h
  | g :: x, [], _, h => absurd (by simp [lcp]) h
  | g :: x, h :: y, h1, h2 => by
    by_cases e : g = h
    · subst e
      rw [lcp, if_pos rfl] at h1 h2 ⊢
      exact lcp_ne x y h1 h2
    · rw [lcp, if_neg e]
      intro s t z
      rw [List.cons_append, List.cons_append] at z
      exact e (List.cons.inj z).1

end Sx
namespace Sx
open PySem PySem.Spec Rm K04
/-! ### runs: one step after the other -/
section
variable {ρ ρ1 : Rho} {h h1 h2 : List LO} {v w : LV} {vs : List LV} {r : R (Fl × Rho)} {ma mb mc : ME} {mA : MA} {a b : MS} {g : MG} {mt mu : MT} {c d : Bool}
def cal (f : MF) (vs : List LV) : Option LV := match f vs [] with
  | .ok v h' => outV h' v
  | _ => none
theorem cal_of {f : MF} (e : f vs [] = .ok v h1) (o : outV h1 v = some w) : cal f vs = some w := by
  unfold cal
  rw [e]
  exact o
theorem ev_call {n : Nat} {f : MF} (e : mA ρ h = .ok vs h1) (c : cal f vs = some w) (hn : vs.length = n) (hp : LV.pures vs = true) : mCall n f mA ρ h = .ok w h1 := by
  unfold mCall
  rw [e]
  show (if vs.length = n then (if LV.pures vs = true then _ else _) else _) = _
  rw [if_pos hn, if_pos hp]
  unfold cal at c
  split at c
  · rename_i v h' q
    try rw [q]
    show (match outV h' v with | some w => R.ok w h1 | none => .bad) = _
    rw [c]
  · cases c
theorem ev_callS {n : Nat} {f : MF} (e : mA ρ h = .ok vs h1) (c : f vs h1 = .ok w h2) (hn : vs.length = n) : mCallS n f mA ρ h = .ok w h2 := by
  unfold mCallS
  rw [e]
  show (if vs.length = n then (f vs h1).safe else _) = _
  rw [if_pos hn, c]
  rfl
theorem ev_seq (e1 : a ρ h = .ok (.nx, ρ1) h1) (e2 : b ρ1 h1 = r) : mSeq a b ρ h = r := by
  unfold mSeq
  rw [e1]
  exact e2
theorem ev_rt (e1 : a ρ h = .ok (.rt v, ρ1) h1) : mSeq a b ρ h = .ok (.rt v, ρ1) h1 := by
  unfold mSeq
  rw [e1]
  rfl
theorem ev_asg (e1 : ma ρ h = .ok v h1) (e2 : g v ρ h1 = .ok ρ1 h2) : mAsg ma g ρ h = .ok (.nx, ρ1) h2 := by
  unfold mAsg
  rw [e1]
  show (g v ρ h1).bind _ = _
  rw [e2]
  rfl
theorem ev_drop (e1 : ma ρ h = .ok v h1) : mDrop ma ρ h = .ok (.nx, ρ) h1 := by
  unfold mDrop
  rw [e1]
  rfl
theorem ev_ret (e1 : ma ρ h = .ok v h1) : mRet ma ρ h = .ok (.rt v, ρ) h1 := by
  unfold mRet
  rw [e1]
  rfl
theorem ev_ifS (e1 : mt ρ h = .ok c h1) (e2 : (if c = true then a ρ h1 else b ρ h1) = r) : mIfS mt a b ρ h = r := by
  unfold mIfS
  rw [e1]
  exact e2
theorem ev_ifT (e1 : mt ρ h = .ok true h1) (e2 : a ρ h1 = r) : mIfS mt a b ρ h = r := ev_ifS e1 e2
theorem ev_ifF (e1 : mt ρ h = .ok false h1) (e2 : b ρ h1 = r) : mIfS mt a b ρ h = r := ev_ifS e1 e2
theorem ev_if {r : R LV} (e1 : mt ρ h = .ok c h1) (e2 : (if c = true then ma ρ h1 else mb ρ h1) = r) : mIf mt ma mb ρ h = r := by
  unfold mIf
  rw [e1]
  exact e2
theorem ev_cons (e1 : ma ρ h = .ok v h1) (e2 : mA ρ h1 = .ok vs h2) : mCons ma mA ρ h = .ok (v :: vs) h2 := by
  unfold mCons
  rw [e1]
  show (mA ρ h1).bind _ = _
  rw [e2]
  rfl
theorem ev_tup (e1 : mA ρ h = .ok vs h1) (hl : vs.length ≤ 60000) : mTup mA ρ h = .ok (.tup vs) h1 := by
  unfold mTup
  rw [e1]
  exact if_pos hl
theorem ev_lst (e1 : mA ρ h = .ok vs h1) (hl : vs.length ≤ 60000) : mLst mA ρ h = .ok (.vl vs) h1 := by
  unfold mLst
  rw [e1]
  exact if_pos hl
theorem ev_op {f : LV → LV → List LO → R LV} {q : R LV} (e1 : ma ρ h = .ok v h1) (e2 : mb ρ h1 = .ok w h2) (e3 : f v w h2 = q) : mOp f ma mb ρ h = q := by
  unfold mOp
  rw [e1]
  show (mb ρ h1).bind _ = _
  rw [e2]
  exact e3
theorem ev_cb {f : List LV → List LO → R LV} {q : R LV} (e1 : mA ρ h = .ok vs h1) (e2 : f vs h1 = q) : mCB f mA ρ h = q := by
  unfold mCB
  rw [e1]
  exact e2
theorem ev_b (e1 : ma ρ h = .ok (.bl c) h1) : mB ma ρ h = .ok c h1 := by
  unfold mB
  rw [e1]
  rfl
theorem ev_tru (e1 : ma ρ h = .ok v h1) (e2 : truL h1 v = some c) : mTru ma ρ h = .ok c h1 := by
  unfold mTru
  rw [e1]
  show (match truL h1 v with | some b => R.ok b h1 | none => .bad) = _
  rw [e2]
theorem ev_truB (e1 : ma ρ h = .ok (.bl c) h1) : mTru ma ρ h = .ok c h1 := ev_tru e1 rfl
theorem ev_not (e1 : mt ρ h = .ok c h1) : mNot mt ρ h = .ok (!c) h1 := by
  unfold mNot
  rw [e1]
  rfl
theorem ev_or (e1 : mt ρ h = .ok c h1) (e2 : c = false → mu ρ h1 = .ok d h1) : mOr mt mu ρ h = .ok (c || d) h1 := by
  unfold mOr
  rw [e1]
  cases c with
  | true => rfl
  | false => exact e2 rfl
theorem ev_and (e1 : mt ρ h = .ok c h1) (e2 : c = true → mu ρ h1 = .ok d h1) : mAnd mt mu ρ h = .ok (c && d) h1 := by
  unfold mAnd
  rw [e1]
  cases c with
  | false => rfl
  | true => exact e2 rfl
theorem ev_orV (e1 : ma ρ h = .ok (.bl c) h1) (e2 : c = false → mb ρ h1 = .ok (.bl d) h1) : mOrV ma mb ρ h = .ok (.bl (c || d)) h1 := by
  unfold mOrV
  rw [e1]
  cases c with
  | true => rfl
  | false => exact e2 rfl
theorem ev_andV (e1 : ma ρ h = .ok (.bl c) h1) (e2 : c = true → mb ρ h1 = .ok (.bl d) h1) : mAndV ma mb ρ h = .ok (.bl (c && d)) h1 := by
  unfold mAndV
  rw [e1]
  cases c with
  | false => rfl
  | true => exact e2 rfl
theorem ev_notV (e1 : ma ρ h = .ok (.bl c) h1) : mNotV ma ρ h = .ok (.bl (!c)) h1 := by
  unfold mNotV
  rw [e1]
  rfl
theorem ev_par {i j : Nat} (e1 : mA ρ h = .ok [v, w] h1) : mPar i j mA ρ h = .ok (.nx, (ρ.set i (some v)).set j (some w)) h1 := by
  unfold mPar
  rw [e1]
  rfl
theorem fn_rt {n : Nat} {body : MS} {args : List LV} (e : body (args.map some ++ List.replicate (n - args.length) none) h = .ok (.rt v, ρ1) h1) : mFn n body args h = .ok v h1 := by
  unfold mFn
  rw [e]
  rfl
theorem fn_nx {n : Nat} {body : MS} {args : List LV} (e : body (args.map some ++ List.replicate (n - args.length) none) h = .ok (.nx, ρ1) h1) : mFn n body args h = .ok .non h1 := by
  unfold mFn
  rw [e]
  rfl
end
/-! ### loops over values -/
def runL (g : MG) (mb : MS) : List LV → Rho → List LO → R (Fl × Rho)
  | [], ρ, h => .ok (.nx, ρ) h
  | v :: xs, ρ, h => (g v ρ h).bind fun ρ1 h1 => (mb ρ1 h1).bind fun r h2 => match r.1 with
      | .nx => runL g mb xs r.2 h2
      | .ct => runL g mb xs r.2 h2
      | .bk => .ok (.nx, r.2) h2
      | .rt v => .ok (.rt v, r.2) h2
theorem forM_vals {g : MG} {mb : MS} {xs : List LV} : ∀ (n i : Nat) (ρ : Rho) (h : List LO), xs.length < n + i → i ≤ xs.length → forM (.vals xs) g mb n i ρ h = runL g mb (xs.drop i) ρ h
  | 0, i, ρ, h, l1, l2 => by omega
  | n + 1, i, ρ, h, l1, l2 => by
    by_cases c : i < xs.length
    · rw [List.drop_eq_getElem_cons c]
      have e : Itr.at (.vals xs) i h = some (some xs[i]) := by
        show some xs[i]? = _
        rw [List.getElem?_eq_getElem c]
      simp only [Rm.forM, e, runL]
      have ih : ∀ (ρ : Rho) (h : List LO), Rm.forM (.vals xs) g mb n (i + 1) ρ h = runL g mb (xs.drop (i + 1)) ρ h := fun ρ h => forM_vals n (i + 1) ρ h (by omega) (by omega)
      simp only [ih]
      try rfl
    · have e0 : i = xs.length := by omega
      subst e0
      have e : Itr.at (.vals xs) xs.length h = some none := by
        show some xs[xs.length]? = _
        rw [List.getElem?_eq_none (Nat.le_refl _)]
      rw [List.drop_length]
      simp only [Rm.forM, e, runL]
theorem ev_for {mi : MI} {g : MG} {mb : MS} {xs : List LV} {ρ : Rho} {h h1 : List LO} {r : R (Fl × Rho)} (e1 : mi ρ h = .ok (.vals xs) h1) (hl : xs.length < 60000) (e2 : runL g mb xs ρ h1 = r) : mFor mi g mb ρ h = r := by
  unfold mFor
  rw [e1]
  show Rm.forM (.vals xs) g mb 60000 0 ρ h1 = _
  rw [forM_vals 60000 0 ρ h1 (by omega) (Nat.zero_le _), List.drop_zero]
  exact e2
theorem ev_lnil {g : MG} {mb : MS} {ρ : Rho} {h : List LO} : runL g mb [] ρ h = .ok (.nx, ρ) h := rfl
theorem ev_lcons {g : MG} {mb : MS} {v : LV} {xs : List LV} {ρ ρ1 ρ2 : Rho} {h h1 h2 : List LO} {r : R (Fl × Rho)} (e1 : g v ρ h = .ok ρ1 h1) (e2 : mb ρ1 h1 = .ok (.nx, ρ2) h2) (e3 : runL g mb xs ρ2 h2 = r) : runL g mb (v :: xs) ρ h = r := by
  simp only [runL, e1, R.bind, e2]
  exact e3
theorem ev_lrt {g : MG} {mb : MS} {v w : LV} {xs : List LV} {ρ ρ1 ρ2 : Rho} {h h1 h2 : List LO} (e1 : g v ρ h = .ok ρ1 h1) (e2 : mb ρ1 h1 = .ok (.rt w, ρ2) h2) : runL g mb (v :: xs) ρ h = .ok (.rt w, ρ2) h2 := by
  simp only [runL, e1, R.bind, e2]
def lcL (g : MG) (mt : MT) (me : ME) (ρ : Rho) : List LV → List LO → List LV → R LV
  | [], h, acc => .ok (.vl acc.reverse) h
  | v :: xs, h, acc => (g v ρ h).safe.bind fun ρ1 h1 => (mt ρ1 h1).safe.bind fun b h2 => if b = true then (me ρ1 h2).safe.bind fun y h3 => lcL g mt me ρ xs h3 (y :: acc) else lcL g mt me ρ xs h2 acc
theorem lcM_vals {g : MG} {mt : MT} {me : ME} {ρ : Rho} {xs : List LV} : ∀ (n i : Nat) (h : List LO) (acc : List LV), xs.length < n + i → i ≤ xs.length → lcM (.vals xs) g mt me ρ n i h acc = lcL g mt me ρ (xs.drop i) h acc
  | 0, i, h, acc, l1, l2 => by omega
  | n + 1, i, h, acc, l1, l2 => by
    by_cases c : i < xs.length
    · rw [List.drop_eq_getElem_cons c]
      have e : Itr.at (.vals xs) i h = some (some xs[i]) := by
        show some xs[i]? = _
        rw [List.getElem?_eq_getElem c]
      simp only [lcM, e, lcL]
      have ih : ∀ (h : List LO) (acc : List LV), lcM (.vals xs) g mt me ρ n (i + 1) h acc = lcL g mt me ρ (xs.drop (i + 1)) h acc := fun h acc => lcM_vals n (i + 1) h acc (by omega) (by omega)
      simp only [ih]
    · have e0 : i = xs.length := by omega
      subst e0
      have e : Itr.at (.vals xs) xs.length h = some none := by
        show some xs[xs.length]? = _
        rw [List.getElem?_eq_none (Nat.le_refl _)]
      rw [List.drop_length]
      simp only [lcM, e, lcL]
theorem ev_lc {mi : MI} {g : MG} {mt : MT} {me : ME} {vs : List Nat} {xs : List LV} {ρ : Rho} {h h1 : List LO} {r : R LV} (e1 : mi ρ h = .ok (.vals xs) h1) (hl : xs.length < 60000) (e2 : lcL g mt me (wipeR ρ vs) xs h1 [] = r) : mLc mi g mt me vs ρ h = r := by
  unfold mLc
  rw [e1]
  show lcM (.vals xs) g mt me (wipeR ρ vs) 60000 0 h1 [] = _
  rw [lcM_vals 60000 0 h1 [] (by omega) (Nat.zero_le _), List.drop_zero]
  exact e2
theorem lcL_map {g : MG} {me : ME} {ρ : Rho} {h : List LO} {α : Type} (enc : α → LV) (f : α → LV) : ∀ (xs : List α) (acc : List LV), (∀ x ∈ xs, ∃ ρ1, g (enc x) ρ h = .ok ρ1 h ∧ me ρ1 h = .ok (f x) h) → lcL g mYes me ρ (xs.map enc) h acc = .ok (.vl (acc.reverse ++ xs.map f)) h
  | [], acc, _ => by simp [lcL]
  | x :: xs, acc, H => by
    obtain ⟨ρ1, e1, e2⟩ := H x List.mem_cons_self
    rw [List.map_cons]
    simp only [lcL, e1, R.safe, R.bind, mYes, e2, if_true]
    rw [lcL_map enc f xs (f x :: acc) fun y hy => H y (List.mem_cons_of_mem _ hy)]
    simp
/-! ### values of the texts -/
def Cv.cs : Cv → List Nat
  | .all => [97, 108, 108] | .both => [98, 111, 116, 104] | .care => [99, 97, 114, 101] | .lone => [108, 111, 110, 101] | .lones => [108, 111, 110, 101, 115] | .pairs => [112, 97, 105, 114, 115]
def Kd.cs : Kd → List Nat
  | .any => [97, 110, 121] | .bare => [98, 97, 114, 101] | .lone => [108, 111, 110, 101] | .paired => [112, 97, 105, 114, 101, 100]
abbrev sL (l : List Sg) : LV := .str (l.map Sg.c)
abbrev cL (c : Cv) : LV := .str c.cs
abbrev kL (k : Kd) : LV := .str k.cs
abbrev gL (g : Sg) : LV := .str [g.c]
abbrev wL (ws : List Cv) : LV := .tup (ws.map cL)
abbrev bL (bs : List Bool) : LV := .tup (bs.map .bl)
theorem pures_cL : ∀ ws : List Cv, LV.pures (ws.map cL) = true
  | [] => rfl
  | c :: ws => by
    show (LV.pure (cL c) && LV.pures (ws.map cL)) = true
    rw [pures_cL ws]
    rfl
theorem pures_bl : ∀ bs : List Bool, LV.pures (bs.map LV.bl) = true
  | [] => rfl
  | c :: ws => by
    show (LV.pure (.bl c) && LV.pures (ws.map .bl)) = true
    rw [pures_bl ws]
    rfl
theorem pure_wL (ws : List Cv) : (wL ws).pure = true := pures_cL ws
theorem pure_bL (bs : List Bool) : (bL bs).pure = true := pures_bl bs
theorem pures_cons {x : LV} {xs : List LV} (a : x.pure = true) (b : LV.pures xs = true) : LV.pures (x :: xs) = true := by
  show (x.pure && LV.pures xs) = true
  rw [a, b]
  rfl
theorem outV_pure {h : List LO} {v : LV} (p : v.pure = true) : outV h v = some v := if_pos p
/-! ### one conversion, a sign -/
theorem c_one (c : Cv) (b : Bool) (s : Sg) : cal m__read_one [cL c, .bl b, gL s] = some (.tup [.bl (one c b s).1, sL (one c b s).2]) := by
  cases c <;> cases b <;> cases s <;> rfl
end Sx
namespace Sx
open PySem PySem.Spec Rm K04
open PySem.StrLaws (replL replL_nil replL_hit replL_miss)
section
variable {ρ ρ1 : Rho} {h h1 h2 : List LO} {v w : LV} {vs : List LV} {r : R (Fl × Rho)} {ma mb mc : ME} {mA : MA}
theorem ev_lstM (e1 : mA ρ h = .ok vs h1) (hl : vs.length ≤ 60000) : mLstM mA ρ h = .ok (.ref h1.length) (h1 ++ [.lst vs]) := by
  unfold mLstM
  rw [e1]
  exact if_pos hl
theorem ev_app {n : Nat} {xs ys : List LV} (e1 : ma ρ h = .ok (.ref n) h1) (l1 : h1[n]? = some (.lst xs)) (e2 : mb ρ h1 = .ok w h2) (l2 : h2[n]? = some (.lst ys)) (hl : ys.length < 60000) : mApp ma mb ρ h = .ok .non (h2.set n (.lst (ys ++ [w]))) := by
  unfold mApp
  rw [e1]
  show (match LV.lst h1 (.ref n) with | some _ => _ | none => _) = _
  simp only [LV.lst, l1]
  rw [e2]
  show fApp (.ref n) w h2 = _
  simp only [fApp, l2, if_pos hl]
theorem ev_any {t : List Sg} (e : ma ρ h = .ok (sL t) h1) : mAnyI ma ρ h = .ok (.vals (t.map gL)) h1 := by
  unfold mAnyI
  rw [e]
  show R.ok (Itr.vals ((t.map Sg.c).map fun c => LV.str [c])) h1 = _
  rw [List.map_map]
  rfl
theorem ev_anyT {xs : List LV} (e : ma ρ h = .ok (.tup xs) h1) : mAnyI ma ρ h = .ok (.vals xs) h1 := by
  unfold mAnyI
  rw [e]
  rfl
theorem ev_anyL {xs : List LV} (e : ma ρ h = .ok (.vl xs) h1) : mAnyI ma ρ h = .ok (.vals xs) h1 := by
  unfold mAnyI
  rw [e]
  rfl
theorem ev_zip {xs ys : List LV} (e : mA ρ h = .ok [.tup xs, .tup ys] h1) : mZip mA ρ h = .ok (.vals (zipL xs ys)) h1 := by
  unfold mZip
  rw [e]
  rfl
theorem ev_join {xs : List LV} {zs : List (List Nat)} (e : ma ρ h = .ok v h1) (q : v.seq h1 = some xs) (a : LV.asStrs xs = some zs) (hl : zs.flatten.length ≤ 60000) : mJoin0 ma ρ h = .ok (.str zs.flatten) h1 := by
  unfold mJoin0
  rw [e]
  show (match v.seq h1 with | some xs => _ | none => _) = _
  simp only [q, a, if_pos hl]
end
theorem asStrs_map (zs : List (List Nat)) : LV.asStrs (zs.map .str) = some zs := by
  induction zs with
  | nil => rfl
  | cons z zs ih => simp [LV.asStrs, ih]
theorem asBls_map (zs : List Bool) : LV.asBls (zs.map .bl) = some zs := by
  induction zs with
  | nil => rfl
  | cons z zs ih => simp [LV.asBls, ih]
/-! ### sizes -/
theorem one_len (c : Cv) (b : Bool) (s : Sg) : (one c b s).2.length ≤ 2 := by cases c <;> cases b <;> cases s <;> decide
theorem many_len (c : Cv) : ∀ (t : List Sg) (b : Bool), (many c b t).2.length ≤ 2 * t.length
  | [], b => Nat.le_refl _
  | s :: t, b => by
    have h1 := one_len c b s
    have h2 := many_len c t (one c b s).1
    simp only [many, List.length_append, List.length_cons]
    omega
theorem tail_len (c : Cv) (b : Bool) : (tailE c b).length ≤ 1 := by cases c <;> cases b <;> decide
theorem outS_len (c : Cv) (p n : Bool) (s : Sg) : (outS c p n s).length ≤ 2 := by cases c <;> cases p <;> cases n <;> cases s <;> decide
theorem go_len (c : Cv) : ∀ (l : List Sg) (p : Bool), (go c p l).length ≤ 2 * l.length
  | [], p => Nat.le_refl _
  | s :: l, p => by
    have h1 := outS_len c p (isN l) s
    have h2 := go_len c l (decide (s = .r))
    simp only [go, List.length_append, List.length_cons]
    omega
theorem by1_len (c : Cv) (l : List Sg) : (by1 c l).length ≤ 2 * l.length := go_len c l false
theorem turn_len : ∀ (ws : List Cv) (l : List Sg), (turnL ws l).length ≤ 2 ^ ws.length * l.length
  | [], l => by simp [turnL]
  | c :: ws, l => by
    have h1 := turn_len ws (by1 c l)
    have h2 := by1_len c l
    have h3 := Nat.mul_le_mul_left (2 ^ ws.length) h2
    simp only [turnL, List.length_cons, Nat.pow_succ]
    calc _ ≤ 2 ^ ws.length * (by1 c l).length := h1
      _ ≤ 2 ^ ws.length * (2 * l.length) := h3
      _ = 2 ^ ws.length * 2 * l.length := by rw [Nat.mul_assoc]
theorem replL_len {y z : List Nat} (hy : y ≠ []) (hz : z.length ≤ 2) : ∀ (k : Nat) (x : List Nat), x.length ≤ k → (replL y z x).length ≤ 2 * x.length
  | 0, x, h => by
    have e := List.length_eq_zero_iff.mp (Nat.le_zero.mp h)
    subst e
    rw [replL_nil]
    exact Nat.le_refl _
  | k + 1, [], h => by rw [replL_nil]; exact Nat.le_refl _
  | k + 1, c :: r, h => by
    have hy1 : 1 ≤ y.length := by
      cases y with
      | nil => exact absurd rfl hy
      | cons _ _ => simp
    by_cases e : (c :: r).take y.length = y
    · rw [replL_hit hy e, List.length_append]
      have ih := replL_len (y := y) (z := z) hy hz k ((c :: r).drop y.length) (by rw [List.length_drop]; simp only [List.length_cons] at h ⊢; omega)
      rw [List.length_drop] at ih
      have hl : y.length ≤ (c :: r).length := by
        have := congrArg List.length e
        rw [List.length_take] at this
        omega
      simp only [List.length_cons] at ih h hl ⊢
      omega
    · rw [replL_miss e]
      have ih := replL_len (y := y) (z := z) hy hz k r (by simpa using h)
      simp only [List.length_cons]
      omega
/-! ### one conversion, a text -/
def pz (c : Cv) : Bool → List Sg → List (List Nat)
  | _, [] => []
  | b, s :: t => (one c b s).2.map Sg.c :: pz c (one c b s).1 t
theorem pz_flat (c : Cv) : ∀ (t : List Sg) (b : Bool), (pz c b t).flatten = (many c b t).2.map Sg.c
  | [], b => rfl
  | s :: t, b => by simp only [pz, many, List.flatten_cons, List.map_append, pz_flat c t]
theorem pz_len (c : Cv) : ∀ (t : List Sg) (b : Bool), (pz c b t).length = t.length
  | [], b => rfl
  | s :: t, b => by simp only [pz, List.length_cons, pz_len c t]
def raB : MS := (mSeq (mAsg (mCall 3 m__read_one (mCons (mVar 0) (mCons (mVar 1) (mCons (mVar 4) mNil)))) (mGTup 2 (mGCons (mName 1) (mGCons (mName 5) mGNil)))) (mDrop (mApp (mVar 3) (mVar 5))))
theorem ra_loop (c : Cv) (tx : Option LV) : ∀ (t : List Sg) (b : Bool) (acc : List LV) (x4 x5 : Option LV), acc.length + t.length ≤ 50000 → ∃ x4' x5', runL (mName 4) raB (t.map gL) [some (cL c), some (.bl b), tx, some (.ref 0), x4, x5] [.lst acc] = .ok (.nx, [some (cL c), some (.bl (many c b t).1), tx, some (.ref 0), x4', x5']) [.lst (acc ++ (pz c b t).map .str)]
  | [], b, acc, x4, x5, hl => ⟨x4, x5, by simp [pz, many, runL]⟩
  | s :: t, b, acc, x4, x5, hl => by
    simp only [List.length_cons] at hl
    obtain ⟨y4, y5, ih⟩ := ra_loop c tx t (one c b s).1 (acc ++ [sL (one c b s).2]) (some (gL s)) (some (sL (one c b s).2)) (by simp only [List.length_append, List.length_singleton]; omega)
    refine ⟨y4, y5, ?_⟩
    rw [List.map_cons]
    refine ev_lcons rfl (ev_seq (ev_asg (ev_call (ev_cons rfl (ev_cons rfl (ev_cons rfl rfl))) (c_one c b s) rfl rfl) rfl) (ev_drop (ev_app rfl rfl rfl rfl (by omega)))) ?_
    simp only [pz, many, List.map_cons]
    rw [List.append_assoc, List.singleton_append] at ih
    exact ih
theorem c_all (c : Cv) (b : Bool) (t : List Sg) (hl : t.length ≤ 20000) : cal m__read_all [cL c, .bl b, sL t] = some (.tup [.bl (many c b t).1, sL (many c b t).2]) := by
  obtain ⟨y4, y5, e⟩ := ra_loop c (some (sL t)) t b [] none none (by simp only [List.length_nil]; omega)
  have hf := many_len c t b
  refine cal_of (v := .tup [.bl (many c b t).1, .str (pz c b t).flatten]) (fn_rt (ev_seq (ev_asg (ev_lstM rfl (Nat.zero_le _)) rfl) (ev_seq (ev_for (ev_any (t := t) rfl) (by rw [List.length_map]; omega) e) (ev_ret (ev_tup (ev_cons rfl (ev_cons (ev_join rfl rfl (asStrs_map _) ?_) rfl)) ?_))))) ?_
  · rw [pz_flat, List.length_map]; omega
  · show 2 ≤ 60000; decide
  · rw [pz_flat]
    exact outV_pure rfl
/-! ### a way, signs -/
def stB : MS := (mSeq (mAsg (mCall 3 m__read_all (mCons (mVar 5) (mCons (mVar 6) (mCons (mVar 4) mNil)))) (mGTup 2 (mGCons (mName 7) (mGCons (mName 4) mGNil)))) (mDrop (mApp (mVar 3) (mVar 7))))
theorem st_loop (wv bv tv : Option LV) : ∀ (ws : List Cv) (bs : List Bool) (t : List Sg) (acc : List LV) (x5 x6 x7 : Option LV), bs.length = ws.length → 2 ^ ws.length * t.length ≤ 20000 → acc.length + ws.length ≤ 1000 →
    ∃ y5 y6 y7, runL (mGTup 2 (mGCons (mName 5) (mGCons (mName 6) mGNil))) stB (zipL (ws.map cL) (bs.map .bl)) [wv, bv, tv, some (.ref 0), some (sL t), x5, x6, x7] [.lst acc] = .ok (.nx, [wv, bv, tv, some (.ref 0), some (sL (stepW ws bs t).2), y5, y6, y7]) [.lst (acc ++ (stepW ws bs t).1.map .bl)]
  | [], bs, t, acc, x5, x6, x7, h1, h2, h3 => ⟨x5, x6, x7, by simp [stepW, zipL, runL]⟩
  | c :: ws, [], t, acc, x5, x6, x7, h1, h2, h3 => by simp at h1
  | c :: ws, b :: bs, t, acc, x5, x6, x7, h1, h2, h3 => by
    simp only [List.length_cons] at h1 h2 h3
    have hm := many_len c t b
    have hp : 1 ≤ 2 ^ ws.length := Nat.one_le_two_pow
    have ht : t.length ≤ 20000 := by
      refine Nat.le_trans ?_ h2
      exact Nat.le_mul_of_pos_left _ (by rw [Nat.pow_succ]; omega)
    have h2' : 2 ^ ws.length * (many c b t).2.length ≤ 20000 := by
      refine Nat.le_trans (Nat.mul_le_mul_left _ hm) ?_
      rw [← Nat.mul_assoc, ← Nat.pow_succ]
      exact h2
    obtain ⟨y5, y6, y7, ih⟩ := st_loop wv bv tv ws bs (many c b t).2 (acc ++ [.bl (many c b t).1]) (some (cL c)) (some (.bl b)) (some (.bl (many c b t).1)) (by omega) h2' (by simp only [List.length_append, List.length_singleton]; omega)
    refine ⟨y5, y6, y7, ?_⟩
    rw [List.map_cons, List.map_cons]
    show runL _ _ (LV.tup [cL c, .bl b] :: zipL (ws.map cL) (bs.map .bl)) _ _ = _
    refine ev_lcons rfl (ev_seq (ev_asg (ev_call (ev_cons rfl (ev_cons rfl (ev_cons rfl rfl))) (c_all c b t ht) rfl rfl) rfl) (ev_drop (ev_app rfl rfl rfl rfl (by omega)))) ?_
    simp only [stepW, List.map_cons]
    rw [List.append_assoc, List.singleton_append] at ih
    exact ih
theorem zipL_len : ∀ (xs ys : List LV), (zipL xs ys).length ≤ xs.length
  | [], ys => by cases ys <;> simp [zipL]
  | x :: xs, [] => by simp [zipL]
  | x :: xs, y :: ys => by
    have := zipL_len xs ys
    simp only [zipL, List.length_cons]
    omega
theorem c_step (ws : List Cv) (bs : List Bool) (t : List Sg) (h1 : bs.length = ws.length) (h2 : 2 ^ ws.length * t.length ≤ 20000) (h3 : ws.length ≤ 100) : cal m_step [wL ws, bL bs, sL t] = some (.tup [bL (stepW ws bs t).1, sL (stepW ws bs t).2]) := by
  obtain ⟨y5, y6, y7, e⟩ := st_loop (some (wL ws)) (some (bL bs)) (some (sL t)) ws bs t [] none none none h1 h2 (by simp only [List.length_nil]; omega)
  refine cal_of (v := .tup [bL (stepW ws bs t).1, sL (stepW ws bs t).2]) (fn_rt (ev_seq (ev_asg (ev_lstM rfl (Nat.zero_le _)) rfl) (ev_seq (ev_asg rfl rfl) (ev_seq (ev_for (ev_zip (xs := ws.map cL) (ys := bs.map .bl) rfl) (by have := zipL_len (ws.map cL) (bs.map .bl); rw [List.length_map] at this; omega) e) (ev_ret (ev_tup (ev_cons (ev_cb rfl rfl) (ev_cons rfl rfl)) ?_)))))) ?_
  · show 2 ≤ 60000; decide
  · refine outV_pure ?_
    exact pures_cons (pure_bL _) rfl
/-! ### the end -/
def enB : MS := (mSeq (mAsg (mCall 3 m__read_all (mCons (mVar 3) (mCons (mVar 4) (mCons (mVar 2) mNil)))) (mGTup 2 (mGCons (mName 5) (mGCons (mName 2) mGNil)))) (mIfS (mAnd (mTru (mVar 5)) (mB (mInK kt__HELD (mVar 3)))) (mAsg (mOp fAdd (mVar 2) (mOp fIxX (mIxK kt__HELD (mVar 3)) (mC (.int 1)))) (mName 2)) mNext))
theorem held_in (c : Cv) (ρ : Rho) (h : List LO) (e : ρ[3]? = some (some (cL c))) : mInK kt__HELD (mVar 3) ρ h = .ok (.bl (holds c)) h := by
  unfold mInK mVar
  rw [e]
  cases c <;> rfl
theorem held_at (c : Cv) (hc : holds c = true) (ρ : Rho) (h : List LO) (e : ρ[3]? = some (some (cL c))) : mOp fIxX (mIxK kt__HELD (mVar 3)) (mC (.int 1)) ρ h = .ok (sL (heldE c)) h := by
  unfold mOp mIxK mVar
  rw [e]
  cases c <;> first | rfl | cases hc
theorem runF_len (c : Cv) (b : Bool) (t : List Sg) : (runF c b t).length ≤ 2 * t.length + 1 := by
  have h1 := many_len c t b
  have h2 := tail_len c (many c b t).1
  simp only [runF, List.length_append]
  omega
theorem en_loop (wv bv : Option LV) : ∀ (ws : List Cv) (bs : List Bool) (t : List Sg) (x3 x4 x5 : Option LV), bs.length = ws.length → 2 ^ ws.length * (t.length + 1) ≤ 20000 →
    ∃ y3 y4 y5, runL (mGTup 2 (mGCons (mName 3) (mGCons (mName 4) mGNil))) enB (zipL (ws.map cL) (bs.map .bl)) [wv, bv, some (sL t), x3, x4, x5] [] = .ok (.nx, [wv, bv, some (sL (endW ws bs t)), y3, y4, y5]) []
  | [], bs, t, x3, x4, x5, h1, h2 => ⟨x3, x4, x5, by simp [endW, zipL, runL]⟩
  | c :: ws, [], t, x3, x4, x5, h1, h2 => by simp at h1
  | c :: ws, b :: bs, t, x3, x4, x5, h1, h2 => by
    simp only [List.length_cons] at h1 h2
    have hr := runF_len c b t
    have hp : 1 ≤ 2 ^ ws.length := Nat.one_le_two_pow
    have ht : t.length ≤ 20000 := by
      have : t.length + 1 ≤ 2 ^ (ws.length + 1) * (t.length + 1) := Nat.le_mul_of_pos_left _ (by rw [Nat.pow_succ]; omega)
      omega
    have h2' : 2 ^ ws.length * ((runF c b t).length + 1) ≤ 20000 := by
      refine Nat.le_trans (Nat.mul_le_mul_left _ (show (runF c b t).length + 1 ≤ 2 * (t.length + 1) by omega)) ?_
      rw [← Nat.mul_assoc, ← Nat.pow_succ]
      exact h2
    obtain ⟨y3, y4, y5, ih⟩ := en_loop wv bv ws bs (runF c b t) (some (cL c)) (some (.bl b)) (some (.bl (many c b t).1)) (by omega) h2'
    refine ⟨y3, y4, y5, ?_⟩
    rw [List.map_cons, List.map_cons]
    show runL _ _ (LV.tup [cL c, .bl b] :: zipL (ws.map cL) (bs.map .bl)) _ _ = _
    refine ev_lcons (ρ2 := [wv, bv, some (sL (runF c b t)), some (cL c), some (.bl b), some (.bl (many c b t).1)]) rfl (ev_seq (ev_asg (ev_call (ev_cons rfl (ev_cons rfl (ev_cons rfl rfl))) (c_all c b t ht) rfl rfl) rfl) ?_) ih
    refine ev_ifS (ev_and (ev_truB rfl) fun _ => ev_b (held_in c _ _ rfl)) ?_
    cases q : ((many c b t).1 && holds c) with
    | false =>
      have e : runF c b t = (many c b t).2 := by simp [runF, tailE, q]
      rw [e]
      rfl
    | true =>
      rw [if_pos rfl]
      have hc : holds c = true := by
        rw [Bool.and_eq_true] at q
        exact q.2
      have e : runF c b t = (many c b t).2 ++ heldE c := by simp [runF, tailE, q]
      rw [e]
      refine ev_asg (ev_op rfl (held_at c hc _ _ rfl) ?_) rfl
      show (if _ then _ else _) = _
      rw [if_pos, ← List.map_append]
      rw [List.length_map, List.length_map, ← List.length_append, ← e]
      have : t.length ≤ 20000 := ht
      omega
theorem c_end (ws : List Cv) (bs : List Bool) (h1 : bs.length = ws.length) (h3 : ws.length ≤ 12) : cal m_ending [wL ws, bL bs] = some (sL (endW ws bs [])) := by
  have h2 : 2 ^ ws.length * (([] : List Sg).length + 1) ≤ 20000 := by
    have := Nat.pow_le_pow_right (show 0 < 2 by decide) h3
    simp only [List.length_nil]
    omega
  obtain ⟨y3, y4, y5, e⟩ := en_loop (some (wL ws)) (some (bL bs)) ws bs [] none none none h1 h2
  exact cal_of (fn_rt (ev_seq (ev_asg rfl rfl) (ev_seq (ev_for (ev_zip (xs := ws.map cL) (ys := bs.map .bl) rfl) (by have := zipL_len (ws.map cL) (bs.map .bl); rw [List.length_map] at this; omega) e) (ev_ret rfl)))) (outV_pure rfl)
theorem c_start (ws : List Cv) (h3 : ws.length ≤ 100) : cal m_starting [wL ws] = some (bL (List.replicate ws.length false)) := by
  have e2 : ∀ n : Nat, (List.replicate n [LV.bl false]).flatten = (List.replicate n false).map LV.bl := fun n => by
    induction n with
    | zero => rfl
    | succ n ih => rw [List.replicate_succ, List.flatten_cons, ih, List.replicate_succ]; rfl
  refine cal_of (h1 := []) (fn_rt (ev_ret (ev_op (h2 := []) (v := .tup [.bl false]) (w := .int ws.length) (ev_tup (ev_cons rfl rfl) (by decide)) (ev_cb rfl ?_) ?_))) (outV_pure (pure_bL _))
  · show R.ok (LV.int (ws.map cL).length) [] = _
    rw [List.length_map]
  · show (if 0 ≤ (ws.length : Int) ∧ (ws.length : Int) ≤ 1000 ∧ 1 ≤ 1000 then R.ok (LV.tup (List.replicate ((ws.length : Int)).toNat [LV.bl false]).flatten) [] else R.bad) = _
    rw [if_pos (by omega), Int.toNat_natCast, e2]
/-! ### turning -/
theorem replM_ok : ∀ (ps : List (List Nat × List Nat)) (a : List Nat), (∀ q ∈ ps, q.1 ≠ [] ∧ q.2.length ≤ 2) → 2 ^ ps.length * a.length ≤ 160000 → replM ps a = some (repAll ps a)
  | [], a, _, _ => rfl
  | q :: ps, a, hq, hl => by
    obtain ⟨h1, h2⟩ := hq q List.mem_cons_self
    have hr := replL_len h1 h2 a.length a (Nat.le_refl _)
    have hp : 1 ≤ 2 ^ ps.length := Nat.one_le_two_pow
    simp only [List.length_cons] at hl
    have ha : a.length ≤ 160000 := Nat.le_trans (Nat.le_mul_of_pos_left _ (by rw [Nat.pow_succ]; omega)) hl
    simp only [replM]
    rw [if_pos ⟨ha, by omega⟩, replM_ok ps _ (fun p hp => hq p (List.mem_cons_of_mem _ hp)) ?_]
    · rfl
    · refine Nat.le_trans (Nat.mul_le_mul_left _ hr) ?_
      rw [← Nat.mul_assoc, ← Nat.pow_succ]
      exact hl
theorem repl1 (c : Cv) (t : List Sg) (wv x3 x4 : Option LV) (h : List LO) (hl : t.length ≤ 20000) : mRepl rt__REPLACED 2 3 4 1 [wv, some (sL t), some (cL c), x3, x4] h = .ok (.nx, [wv, some (sL (by1 c t)), some (cL c), none, none]) h := by
  have hm : replM (pairsOf c) (t.map Sg.c) = some ((by1 c t).map Sg.c) := by
    rw [replM_ok, rep_by c t.length t (Nat.le_refl _)]
    · intro q hq
      cases c <;> simp [pairsOf] at hq <;> (first | (subst hq; exact ⟨by simp, by simp⟩) | (rcases hq with e | e <;> (subst e; exact ⟨by simp, by simp⟩)) | (rcases hq with e | e | e <;> (subst e; exact ⟨by simp, by simp⟩)))
    · rw [List.length_map]
      have : (pairsOf c).length ≤ 3 := by cases c <;> decide
      have := Nat.pow_le_pow_right (show 0 < 2 by decide) this
      have := Nat.mul_le_mul_right t.length this
      omega
  have hk : rt__REPLACED.lookup c.cs = some (pairsOf c) := by cases c <;> rfl
  show (match rt__REPLACED.lookup c.cs with | some ps => (match replM ps (t.map Sg.c) with | some b => _ | none => _) | none => _) = _
  rw [hk]
  show (match replM (pairsOf c) (t.map Sg.c) with | some b => _ | none => _) = _
  rw [hm]
  rfl
theorem tu_loop (wv : Option LV) : ∀ (ws : List Cv) (t : List Sg) (x2 x3 x4 : Option LV), 2 ^ ws.length * t.length ≤ 2500 → ∃ y2 y3 y4, runL (mName 2) (mRepl rt__REPLACED 2 3 4 1) (ws.map cL) [wv, some (sL t), x2, x3, x4] [] = .ok (.nx, [wv, some (sL (turnL ws t)), y2, y3, y4]) []
  | [], t, x2, x3, x4, h => ⟨x2, x3, x4, rfl⟩
  | c :: ws, t, x2, x3, x4, h => by
    simp only [List.length_cons] at h
    have hb := by1_len c t
    have hp : 1 ≤ 2 ^ ws.length := Nat.one_le_two_pow
    have h' : 2 ^ ws.length * (2 * t.length) ≤ 2500 := by
      rw [← Nat.mul_assoc, ← Nat.pow_succ]
      exact h
    have ht : 2 * t.length ≤ 2500 := Nat.le_trans (Nat.le_mul_of_pos_left _ (by omega)) h'
    obtain ⟨y2, y3, y4, ih⟩ := tu_loop wv ws (by1 c t) (some (cL c)) none none (Nat.le_trans (Nat.mul_le_mul_left _ hb) h')
    exact ⟨y2, y3, y4, ev_lcons rfl (repl1 c t _ _ _ _ (by omega)) ih⟩
theorem c_turn (ws : List Cv) (t : List Sg) (h : 2 ^ ws.length * t.length ≤ 2500) (h3 : ws.length ≤ 100) : cal m_turn [wL ws, sL t] = some (sL (turnL ws t)) := by
  obtain ⟨y2, y3, y4, e⟩ := tu_loop (some (wL ws)) ws t none none none h
  exact cal_of (fn_rt (ev_seq (ev_for (ev_anyT (xs := ws.map cL) rfl) (by rw [List.length_map]; omega) e) (ev_ret rfl))) (outV_pure rfl)
end Sx
namespace Sx
open PySem PySem.Spec Rm K04
section
variable {ρ ρ1 : Rho} {h h1 h2 : List LO} {v w : LV} {vs : List LV} {r : R (Fl × Rho)} {ma mb mc : ME} {mA : MA} {mt : MT} {a b : MS}
theorem ev_meth {C n : Nat} {f : MF} {fs : List LV} (e1 : ma ρ h = .ok (.obj C fs) h1) (e2 : mA ρ h1 = .ok vs h2) (c : cal f (.obj C fs :: vs) = some w) (hn : (LV.obj C fs :: vs).length = n) (hp : LV.pures (LV.obj C fs :: vs) = true) : mMeth C n f ma mA ρ h = .ok w h2 := by
  unfold mMeth
  rw [e1]
  show (if C = C then (mA ρ h1).bind _ else _) = _
  rw [if_pos rfl, e2]
  show (if (LV.obj C fs :: vs).length = n then (if LV.pures (LV.obj C fs :: vs) = true then _ else _) else _) = _
  rw [if_pos hn, if_pos hp]
  unfold cal at c
  split at c
  · rename_i v h' q
    try rw [q]
    show (match outV h' v with | some w => R.ok w h2 | none => .bad) = _
    rw [c]
  · cases c
theorem ev_slFrom {x : List Sg} {j : Nat} {ml mh : MO} (e1 : ma ρ h = .ok (sL x) h1) (e2 : ml ρ h1 = .ok (some (j : Int)) h2) (e3 : mh ρ h2 = .ok none h2) (hj : j ≤ x.length) (hl : x.length ≤ 60000) : mSl ma ml mh ρ h = .ok (sL (x.drop j)) h2 := by
  unfold mSl
  rw [e1]
  show (ml ρ h1).bind _ = _
  rw [e2]
  show (mh ρ h2).bind _ = _
  rw [e3]
  show (if (x.map Sg.c).length ≤ 60000 then R.ok (LV.str (cutL (x.map Sg.c) (some (j : Int)) none)) h2 else R.bad) = _
  rw [List.length_map, if_pos hl]
  unfold cutL
  rw [HT.sIx_nat, HT.sIx_none, List.length_map, Nat.min_eq_left hj, ← List.map_drop, List.take_of_length_le]
  rw [List.length_map, List.length_drop]
  exact Nat.le_refl _
end
theorem c_inj {a b : Sg} : a.c = b.c ↔ a = b := by cases a <;> cases b <;> simp [Sg.c]
theorem map_inj {x y : List Sg} : x.map Sg.c = y.map Sg.c ↔ x = y := by
  constructor
  · intro h
    induction x generalizing y with
    | nil => cases y with
      | nil => rfl
      | cons _ _ => simp at h
    | cons a x ih => cases y with
      | nil => simp at h
      | cons b y =>
        rw [List.map_cons, List.map_cons, List.cons.injEq, c_inj] at h
        rw [h.1, ih h.2]
  · intro h; rw [h]
theorem eq_sL (x y : List Sg) (h : List LO) : fEq false (sL x) (sL y) h = .ok (.bl (decide (x = y))) h := by
  show R.ok (LV.bl (decide (x.map Sg.c = y.map Sg.c))) h = _
  rw [decide_eq_decide.mpr map_inj]
theorem ne_sL (x y : List Sg) (h : List LO) : fEq true (sL x) (sL y) h = .ok (.bl (decide (x ≠ y))) h := by
  show R.ok (LV.bl (!decide (x.map Sg.c = y.map Sg.c))) h = _
  rw [decide_eq_decide.mpr map_inj, decide_not]
theorem add_sL {x y : List Sg} (h : List LO) (hl : x.length + y.length ≤ 60000) : fAdd (sL x) (sL y) h = .ok (sL (x ++ y)) h := by
  show (if (x.map Sg.c).length + (y.map Sg.c).length ≤ 60000 then R.ok (LV.str (x.map Sg.c ++ y.map Sg.c)) h else R.bad) = _
  rw [List.length_map, List.length_map, if_pos hl, ← List.map_append]
theorem len_sL {x : List Sg} (h : List LO) (hl : x.length ≤ 60000) : fLen [sL x] h = .ok (.int x.length) h := by
  show (if (x.map Sg.c).length ≤ 60000 then R.ok (LV.int (x.map Sg.c).length) h else R.bad) = _
  rw [List.length_map, if_pos hl]
theorem ix_sL {x : List Sg} {i : Nat} (h : List LO) (hi : i < x.length) (hl : x.length ≤ 60000) : fIxX (sL x) (.int (i : Int)) h = .ok (gL x[i]) h := by
  show (if (x.map Sg.c).length ≤ 60000 then (match L2.atI (x.map Sg.c) (i : Int) with | some c => R.ok (LV.str [c]) h | none => R.bad) else R.bad) = _
  rw [List.length_map, if_pos hl]
  have e : L2.atI (x.map Sg.c) (i : Int) = some x[i].c := by
    unfold L2.atI L2.ixN
    rw [List.length_map, if_pos (by omega), if_pos (by omega)]
    show (x.map Sg.c)[((i : Int)).toNat]? = _
    rw [Int.toNat_natCast, List.getElem?_map, List.getElem?_eq_getElem hi]
    rfl
  rw [e]
/-! ### kinds -/
def sgs (k : Kd) (b : Bool) : List Sg := [Sg.a, .n, .r].filter (can k b)
theorem c_coming (k : Kd) (b : Bool) : cal m_coming [.str k.cs, .bl b] = some (.tup ((sgs k b).map gL)) := by cases k <;> cases b <;> rfl
theorem c_half (k : Kd) (g : Sg) : cal m_is_half [.str k.cs, gL g] = some (.bl (opn k g)) := by cases k <;> cases g <;> rfl
def oL : Option Bool → LV
  | some b => .bl b
  | none => .non
theorem in_sgs (k : Kd) (b : Bool) (g : Sg) (h : List LO) : fInY true (gL g) (.tup ((sgs k b).map gL)) h = .ok (.bl (!can k b g)) h := by cases k <;> cases b <;> cases g <;> rfl
def wbB : MS := (mSeq (mIfS (mB (mOp (fInY true) (mVar 3) (mCall 2 m_coming (mCons (mVar 0) (mCons (mVar 1) mNil))))) (mRet (mC .non)) mNext) (mAsg (mCall 2 m_is_half (mCons (mVar 0) (mCons (mVar 3) mNil))) (mName 1)))
theorem wb_loop (k : Kd) (tx : Option LV) : ∀ (t : List Sg) (b : Bool) (x3 : Option LV), ∃ ρ', runL (mName 3) wbB (t.map gL) [some (.str k.cs), some (.bl b), tx, x3] [] = .ok (match runK k b t with | some c => (.nx, ρ') | none => (.rt .non, ρ')) [] ∧ ∀ c, runK k b t = some c → ρ'[1]? = some (some (.bl c))
  | [], b, x3 => ⟨[some (.str k.cs), some (.bl b), tx, x3], rfl, fun c e => by injection e with e; rw [e]; rfl⟩
  | g :: t, b, x3 => by
    rw [List.map_cons]
    cases hc : can k b g with
    | false =>
      refine ⟨[some (.str k.cs), some (.bl b), tx, some (gL g)], ?_, fun c e => by simp [runK, hc] at e⟩
      have e0 : runK k b (g :: t) = none := by simp [runK, hc]
      rw [e0]
      refine ev_lrt rfl (ev_rt (ev_ifT (ev_b (ev_op rfl (ev_call (ev_cons rfl (ev_cons rfl rfl)) (c_coming k b) rfl rfl) ?_)) (ev_ret rfl)))
      rw [in_sgs, hc]
      rfl
    | true =>
      obtain ⟨ρ', ih, ih2⟩ := wb_loop k tx t (opn k g) (some (gL g))
      have e0 : runK k b (g :: t) = runK k (opn k g) t := by simp [runK, hc]
      refine ⟨ρ', ?_, ?_⟩
      · rw [e0]
        refine ev_lcons rfl (ev_seq (ev_ifF (ev_b (ev_op rfl (ev_call (ev_cons rfl (ev_cons rfl rfl)) (c_coming k b) rfl rfl) ?_)) rfl) (ev_asg (ev_call (ev_cons rfl (ev_cons rfl rfl)) (c_half k g) rfl rfl) rfl)) ih
        rw [in_sgs, hc]
        rfl
      · rw [e0]
        exact ih2
theorem pure_oL (o : Option Bool) : (oL o).pure = true := by cases o <;> rfl
/-! ### what both begin with -/
theorem lcp_drop {x y : List Sg} {i : Nat} (h1 : i < x.length) (h2 : i < y.length) (e : x[i] = y[i]) : lcp (x.drop i) (y.drop i) = lcp (x.drop (i + 1)) (y.drop (i + 1)) := by
  rw [List.drop_eq_getElem_cons h1, List.drop_eq_getElem_cons h2, lcp, if_pos e]
def wcC : MT := (mAnd (mB (mOp (fCmp fun i j => decide (i < j)) (mVar 2) (mCB fLen (mCons (mVar 0) mNil)))) (mAnd (mB (mOp (fCmp fun i j => decide (i < j)) (mVar 2) (mCB fLen (mCons (mVar 1) mNil)))) (mB (mOp (fEq false) (mOp fIxX (mVar 0) (mVar 2)) (mOp fIxX (mVar 1) (mVar 2))))))
theorem wc_loop {x y : List Sg} (hx : x.length ≤ 40000) (hy : y.length ≤ 40000) : ∀ (n i : Nat), i ≤ x.length → i ≤ y.length → x.length < n + i → ∃ j : Nat, whileM wcC (mAug 2 (mC (.int 1)) fun i j => i + j) n [some (sL x), some (sL y), some (.int (i : Int))] [] = .ok (.nx, [some (sL x), some (sL y), some (.int (j : Int))]) [] ∧ j ≤ x.length ∧ j ≤ y.length ∧ lcp (x.drop i) (y.drop i) = (x.drop j, y.drop j)
  | 0, i, h1, h2, h3 => by omega
  | n + 1, i, h1, h2, h3 => by
    have stop : ∀ {c : Bool}, c = false → wcC [some (sL x), some (sL y), some (.int (i : Int))] [] = .ok c [] → whileM wcC (mAug 2 (mC (.int 1)) fun i j => i + j) (n + 1) [some (sL x), some (sL y), some (.int (i : Int))] [] = .ok (.nx, [some (sL x), some (sL y), some (.int (i : Int))]) [] := by
      intro c hc e
      simp only [whileM, e, R.bind, hc, Bool.false_eq_true, if_false]
    have c1 : mB (mOp (fCmp fun i j => decide (i < j)) (mVar 2) (mCB fLen (mCons (mVar 0) mNil))) [some (sL x), some (sL y), some (.int (i : Int))] [] = .ok (decide ((i : Int) < (x.length : Int))) [] :=
      ev_b (ev_op (v := .int i) (w := .int x.length) rfl (ev_cb (ev_cons rfl rfl) (len_sL [] (by omega))) rfl)
    have c2 : mB (mOp (fCmp fun i j => decide (i < j)) (mVar 2) (mCB fLen (mCons (mVar 1) mNil))) [some (sL x), some (sL y), some (.int (i : Int))] [] = .ok (decide ((i : Int) < (y.length : Int))) [] :=
      ev_b (ev_op (v := .int i) (w := .int y.length) rfl (ev_cb (ev_cons rfl rfl) (len_sL [] (by omega))) rfl)
    by_cases g1 : i < x.length
    · by_cases g2 : i < y.length
      · have c3 : mB (mOp (fEq false) (mOp fIxX (mVar 0) (mVar 2)) (mOp fIxX (mVar 1) (mVar 2))) [some (sL x), some (sL y), some (.int (i : Int))] [] = .ok (decide ([x[i]] = [y[i]])) [] :=
          ev_b (ev_op (ev_op rfl rfl (ix_sL [] g1 (by omega))) (ev_op rfl rfl (ix_sL [] g2 (by omega))) (eq_sL [x[i]] [y[i]] []))
        have cc := ev_and (mu := mAnd _ _) c1 fun _ => ev_and (mu := mB _) c2 fun _ => c3
        by_cases e : x[i] = y[i]
        · obtain ⟨j, ih, j1, j2, j3⟩ := wc_loop hx hy n (i + 1) (by omega) (by omega) (by omega)
          refine ⟨j, ?_, j1, j2, by rw [lcp_drop g1 g2 e]; exact j3⟩
          have ct : wcC [some (sL x), some (sL y), some (.int (i : Int))] [] = .ok true [] := by
            refine Eq.trans cc ?_
            rw [decide_eq_true (show (i : Int) < (x.length : Int) by omega), decide_eq_true (show (i : Int) < (y.length : Int) by omega), decide_eq_true (show [x[i]] = [y[i]] by rw [e])]
            rfl
          have ei : ((i : Int) + 1) = ((i + 1 : Nat) : Int) := by omega
          simp only [whileM, ct, R.bind, if_true]
          show whileM _ _ n [some (sL x), some (sL y), some (.int ((i : Int) + 1))] [] = _
          rw [ei]
          exact ih
        · refine ⟨i, stop (c := (decide ((i : Int) < (x.length : Int)) && (decide ((i : Int) < (y.length : Int)) && decide ([x[i]] = [y[i]])))) ?_ cc, h1, h2, ?_⟩
          · rw [decide_eq_false (show ¬ [x[i]] = [y[i]] from fun q => e (by injection q)), Bool.and_false, Bool.and_false]
          · rw [List.drop_eq_getElem_cons g1, List.drop_eq_getElem_cons g2, lcp, if_neg e]
      · have cc := ev_and (mu := mAnd _ (mB (mOp (fEq false) (mOp fIxX (mVar 0) (mVar 2)) (mOp fIxX (mVar 1) (mVar 2))))) c1 fun _ => ev_and (d := false) (mu := mB (mOp (fEq false) (mOp fIxX (mVar 0) (mVar 2)) (mOp fIxX (mVar 1) (mVar 2)))) c2 fun q => absurd (of_decide_eq_true q) (by omega)
        refine ⟨i, stop ?_ cc, h1, h2, ?_⟩
        · rw [Bool.and_false, Bool.and_false]
        · have e : y.drop i = [] := List.drop_eq_nil_of_le (by omega)
          rw [e]
          cases x.drop i <;> rfl
    · have cc := ev_and (d := false) (mu := mAnd (mB (mOp (fCmp fun i j => decide (i < j)) (mVar 2) (mCB fLen (mCons (mVar 1) mNil)))) (mB (mOp (fEq false) (mOp fIxX (mVar 0) (mVar 2)) (mOp fIxX (mVar 1) (mVar 2))))) c1 fun q => absurd (of_decide_eq_true q) (by omega)
      refine ⟨i, stop ?_ cc, h1, h2, ?_⟩
      · rw [Bool.and_false]
      · have e : x.drop i = [] := List.drop_eq_nil_of_le (by omega)
        rw [e]
        cases y.drop i <;> rfl
theorem c_lcp (x y : List Sg) (hx : x.length ≤ 40000) (hy : y.length ≤ 40000) : cal m_without_common [sL x, sL y] = some (.tup [sL (lcp x y).1, sL (lcp x y).2]) := by
  obtain ⟨j, e, j1, j2, j3⟩ := wc_loop hx hy 50000 0 (Nat.zero_le _) (Nat.zero_le _) (by omega)
  rw [List.drop_zero, List.drop_zero] at j3
  rw [j3]
  exact cal_of (h1 := []) (v := .tup [sL (x.drop j), sL (y.drop j)]) (fn_rt (ev_seq (ev_asg rfl rfl) (ev_seq e (ev_ret (ev_tup (ev_cons (ev_slFrom rfl rfl rfl j1 (by omega)) (ev_cons (ev_slFrom rfl rfl rfl j2 (by omega)) rfl)) (by show 2 ≤ 60000; decide)))))) (outV_pure rfl)
/-! ### rows -/
structure Row where
  s1 : List Bool
  s2 : List Bool
  op : Bool
  u : List Sg
  v : List Sg
  deriving DecidableEq
def nextR (A B : List Cv) (k : Kd) (r : Row) (g : Sg) : Row :=
  ⟨(stepW A r.s1 [g]).1, (stepW B r.s2 [g]).1, opn k g, (lcp (r.u ++ (stepW A r.s1 [g]).2) (r.v ++ (stepW B r.s2 [g]).2)).1, (lcp (r.u ++ (stepW A r.s1 [g]).2) (r.v ++ (stepW B r.s2 [g]).2)).2⟩
def firstR (A B : List Cv) : Row := ⟨List.replicate A.length false, List.replicate B.length false, false, [], []⟩
def evenR (A B : List Cv) (r : Row) : Bool := decide (r.u ++ endW A r.s1 [] = r.v ++ endW B r.s2 [])
def rowL (r : Row) : LV := .tup [bL r.s1, bL r.s2, .bl r.op, sL r.u, sL r.v]
theorem pure_rowL (r : Row) : (rowL r).pure = true := pures_cons (pure_bL _) (pures_cons (pure_bL _) rfl)
theorem stepW_len : ∀ (ws : List Cv) (bs : List Bool) (t : List Sg), (stepW ws bs t).2.length ≤ 2 ^ ws.length * t.length
  | [], bs, t => by simp [stepW]
  | c :: ws, [], t => by
    have : 1 ≤ 2 ^ (c :: ws).length := Nat.one_le_two_pow
    show t.length ≤ _
    exact Nat.le_mul_of_pos_left _ (by omega)
  | c :: ws, b :: bs, t => by
    have h1 := many_len c t b
    have h2 := stepW_len ws bs (many c b t).2
    have h3 := Nat.mul_le_mul_left (2 ^ ws.length) h1
    rw [← Nat.mul_assoc, ← Nat.pow_succ] at h3
    simp only [stepW, List.length_cons]
    exact Nat.le_trans h2 h3
theorem endW_len : ∀ (ws : List Cv) (bs : List Bool) (t : List Sg), (endW ws bs t).length + 1 ≤ 2 ^ ws.length * (t.length + 1)
  | [], bs, t => by simp [endW]
  | c :: ws, [], t => by
    have : 1 ≤ 2 ^ (c :: ws).length := Nat.one_le_two_pow
    show t.length + 1 ≤ _
    exact Nat.le_mul_of_pos_left _ (by omega)
  | c :: ws, b :: bs, t => by
    have h1 := runF_len c b t
    have h2 := endW_len ws bs (runF c b t)
    have h3 := Nat.mul_le_mul_left (2 ^ ws.length) (show (runF c b t).length + 1 ≤ 2 * (t.length + 1) by omega)
    rw [← Nat.mul_assoc, ← Nat.pow_succ] at h3
    simp only [endW, List.length_cons]
    exact Nat.le_trans h2 h3
theorem pow12 {n : Nat} (h : n ≤ 12) : 2 ^ n ≤ 4096 := Nat.pow_le_pow_right (show 0 < 2 by decide) h
theorem endW_len0 {ws : List Cv} (bs : List Bool) (h : ws.length ≤ 12) : (endW ws bs []).length ≤ 4096 := by
  have h1 := endW_len ws bs []
  have h2 := pow12 h
  simp only [List.length_nil] at h1
  omega
theorem stepW_len1 {ws : List Cv} (bs : List Bool) (g : Sg) (h : ws.length ≤ 12) : (stepW ws bs [g]).2.length ≤ 4096 := by
  have h1 := stepW_len ws bs [g]
  have h2 := pow12 h
  simp only [List.length_singleton] at h1
  omega
abbrev wk (A B : List Cv) (k : Kd) : LV := .obj 0 [wL A, wL B, .str k.cs]
theorem pure_wk (A B : List Cv) (k : Kd) : (wk A B k).pure = true := pures_cons (pure_wL A) (pures_cons (pure_wL B) rfl)
section
variable {A B : List Cv} {k : Kd} (hA : A.length ≤ 12) (hB : B.length ≤ 12)
include hA hB
theorem c_rfirst : cal m_RowWalk_first [wk A B k] = some (rowL (firstR A B)) := by
  refine cal_of (h1 := []) (v := rowL (firstR A B)) (fn_rt (ev_ret (ev_tup (ev_cons (ev_call (ev_cons rfl rfl) (c_start A (by omega)) rfl (pures_cons (pure_wL A) rfl)) (ev_cons (ev_call (ev_cons rfl rfl) (c_start B (by omega)) rfl (pures_cons (pure_wL B) rfl)) rfl)) ?_))) (outV_pure (pure_rowL _))
  show 5 ≤ 60000; decide
theorem c_rsigns (r : Row) : cal m_RowWalk_signs [wk A B k, rowL r] = some (.tup ((sgs k r.op).map gL)) := by
  refine cal_of (h1 := []) (fn_rt (ev_ret (ev_call (ev_cons rfl (ev_cons rfl rfl)) (c_coming k r.op) rfl rfl))) (outV_pure ?_)
  cases k <;> cases r.op <;> rfl
theorem c_rfine (r : Row) (h1 : r.s1.length = A.length) (h2 : r.s2.length = B.length) (hu : r.u.length ≤ 20000) (hv : r.v.length ≤ 20000) : cal m_RowWalk_is_fine [wk A B k, rowL r] = some (.bl (r.op || evenR A B r)) := by
  have l1 := endW_len0 r.s1 hA
  have l2 := endW_len0 r.s2 hB
  refine cal_of (h1 := []) (fn_rt (ev_seq (ev_asg rfl rfl) (ev_ret (ev_orV (c := r.op) (d := evenR A B r) rfl fun _ => ?_)))) (outV_pure rfl)
  exact ev_op (ev_op rfl (ev_call (ev_cons rfl (ev_cons rfl rfl)) (c_end A r.s1 h1 hA) rfl (pures_cons (pure_wL A) (pures_cons (pure_bL _) rfl))) (add_sL [] (by omega))) (ev_op rfl (ev_call (ev_cons rfl (ev_cons rfl rfl)) (c_end B r.s2 h2 hB) rfl (pures_cons (pure_wL B) (pures_cons (pure_bL _) rfl))) (add_sL [] (by omega))) (eq_sL _ _ _)
theorem c_rbehind (r : Row) (g : Sg) (h1 : r.s1.length = A.length) (h2 : r.s2.length = B.length) (hu : r.u.length ≤ 20000) (hv : r.v.length ≤ 20000) : cal m_RowWalk_behind [wk A B k, rowL r, gL g] = some (rowL (nextR A B k r g)) := by
  have l1 := stepW_len1 r.s1 g hA
  have l2 := stepW_len1 r.s2 g hB
  have p1 := pow12 hA
  have p2 := pow12 hB
  refine cal_of (h1 := []) (v := rowL (nextR A B k r g)) (fn_rt (ev_seq (ev_asg rfl rfl) (ev_seq (ev_asg (ev_call (ev_cons rfl (ev_cons rfl (ev_cons rfl rfl))) (c_step A r.s1 [g] h1 (by simp only [List.length_singleton]; omega) (by omega)) rfl (pures_cons (pure_wL A) (pures_cons (pure_bL _) rfl))) rfl)
    (ev_seq (ev_asg (ev_call (ev_cons rfl (ev_cons rfl (ev_cons rfl rfl))) (c_step B r.s2 [g] h2 (by simp only [List.length_singleton]; omega) (by omega)) rfl (pures_cons (pure_wL B) (pures_cons (pure_bL _) rfl))) rfl)
    (ev_seq (ev_asg (ev_call (ev_cons (ev_op rfl rfl (add_sL [] (by omega))) (ev_cons (ev_op rfl rfl (add_sL [] (by omega))) rfl)) (c_lcp _ _ (by rw [List.length_append]; omega) (by rw [List.length_append]; omega)) rfl rfl) rfl)
    (ev_ret (ev_tup (ev_cons rfl (ev_cons rfl (ev_cons (ev_call (ev_cons rfl (ev_cons rfl rfl)) (c_half k g) rfl rfl) (ev_cons rfl (ev_cons rfl rfl))))) ?_))))))) (outV_pure (pure_rowL _))
  show 5 ≤ 60000; decide
end
end Sx
namespace Sx
open PySem PySem.Spec Rm K04
/-! ### a search level by level -/
section
variable {α : Type} [DecidableEq α] (first : α) (sg : α → List Sg) (nxt : α → Sg → α) (fine : α → Bool)
inductive Pth : List Sg → α → Prop
  | nil : Pth [] first
  | snoc {t : List Sg} {a : α} {g : Sg} : Pth t a → g ∈ sg a → Pth (t ++ [g]) (nxt a g)
def goS (a : α) (t : List Sg) : List Sg → List α → List (α × List Sg) → List α × List (α × List Sg)
  | [], F, L => (F, L)
  | g :: gs, F, L => if nxt a g ∈ F then goS a t gs F L else goS a t gs (F ++ [nxt a g]) (L ++ [(nxt a g, t ++ [g])])
theorem goS_spec (a : α) (t : List Sg) : ∀ (gs : List Sg) (F : List α) (L : List (α × List Sg)), ∃ N : List (α × List Sg), goS nxt a t gs F L = (F ++ N.map (·.1), L ++ N) ∧ N.length ≤ gs.length ∧ (N.map (·.1)).Nodup ∧
    (∀ p ∈ N, p.1 ∉ F ∧ ∃ g ∈ gs, p = (nxt a g, t ++ [g])) ∧ ∀ g ∈ gs, nxt a g ∈ F ++ N.map (·.1)
  | [], F, L => ⟨[], by simp [goS], Nat.le_refl _, List.nodup_nil, fun _ h => (nomatch h), fun _ h => (nomatch h)⟩
  | g :: gs, F, L => by
    by_cases c : nxt a g ∈ F
    · obtain ⟨N, e, h1, h2, h3, h4⟩ := goS_spec a t gs F L
      refine ⟨N, by rw [goS, if_pos c, e], Nat.le_succ_of_le h1, h2, fun p hp => ?_, fun q hq => ?_⟩
      · obtain ⟨x, q, y, z⟩ := h3 p hp
        exact ⟨x, q, List.mem_cons_of_mem _ y, z⟩
      · rcases List.mem_cons.mp hq with e2 | e2
        · rw [e2]; exact List.mem_append_left _ c
        · exact h4 q e2
    · obtain ⟨N, e, h1, h2, h3, h4⟩ := goS_spec a t gs (F ++ [nxt a g]) (L ++ [(nxt a g, t ++ [g])])
      refine ⟨(nxt a g, t ++ [g]) :: N, by rw [goS, if_neg c, e]; simp, by simp only [List.length_cons]; omega, ?_, fun p hp => ?_, fun q hq => ?_⟩
      · rw [List.map_cons, List.nodup_cons]
        refine ⟨fun hm => ?_, h2⟩
        obtain ⟨p, hp, e2⟩ := List.mem_map.mp hm
        exact (h3 p hp).1 (by rw [e2]; exact List.mem_append_right _ List.mem_cons_self)
      · rcases List.mem_cons.mp hp with e2 | e2
        · subst e2; exact ⟨c, g, List.mem_cons_self, rfl⟩
        · obtain ⟨x, q, y, z⟩ := h3 p e2
          exact ⟨fun hm => x (List.mem_append_left _ hm), q, List.mem_cons_of_mem _ y, z⟩
      · rw [List.map_cons]
        rcases List.mem_cons.mp hq with e2 | e2
        · rw [e2]; exact List.mem_append_right _ List.mem_cons_self
        · have := h4 q e2
          rw [List.append_assoc] at this
          exact this
variable (ok : α → Prop) (U : List α)
structure Mid (n : Nat) (V : List α) (rs L : List (α × List Sg)) (F : List α) : Prop where
  nd : (V ++ (rs.map (·.1) ++ L.map (·.1))).Nodup
  mem : ∀ a, a ∈ F ↔ a ∈ V ∨ a ∈ rs.map (·.1) ∨ a ∈ L.map (·.1)
  fin : ∀ v ∈ V, ok v ∧ fine v = true
  cl : ∀ v ∈ V, ∀ g ∈ sg v, nxt v g ∈ F
  lv : ∀ p ∈ rs, ok p.1 ∧ p.2.length = n ∧ Pth first sg nxt p.2 p.1
  lg : ∀ p ∈ L, ok p.1 ∧ p.2.length = n + 1 ∧ Pth first sg nxt p.2 p.1
  one : first ∈ F
  cnt : F.length ≤ 1 + 3 * V.length
  dep : n ≤ V.length
  near : ∀ t a, Pth first sg nxt t a → (t.length < n → a ∈ V) ∧ (t.length = n → a ∈ V ∨ a ∈ rs.map (·.1))
structure Fin3 : Prop where
  first : ok first
  step : ∀ a g, ok a → fine a = true → g ∈ sg a → ok (nxt a g)
  three : ∀ a, (sg a).length ≤ 3
  few : ∀ a, ok a → fine a = true → a ∈ U
variable {first sg nxt fine ok U}
theorem Mid.start (fn : Fin3 first sg nxt fine ok U) : Mid first sg nxt fine ok 0 [] [(first, [])] [] [first] := by
  refine ⟨by simp, fun a => by simp, fun _ h => (nomatch h), fun _ h => (nomatch h), fun p hp => ?_, fun _ h => (nomatch h), List.mem_cons_self, by simp, Nat.le_refl _, fun t a h => ⟨fun q => absurd q (Nat.not_lt_zero _), fun q => ?_⟩⟩
  · rw [List.mem_singleton.mp hp]
    exact ⟨fn.first, rfl, .nil⟩
  · have e := List.eq_nil_of_length_eq_zero q
    subst e
    generalize hx : ([] : List Sg) = x at h
    cases h with
    | nil => exact .inr List.mem_cons_self
    | snoc h1 h2 => simp at hx
theorem Mid.step {n : Nat} {V : List α} {a : α} {t : List Sg} {rs L : List (α × List Sg)} {F : List α} (fn : Fin3 first sg nxt fine ok U) (M : Mid first sg nxt fine ok n V ((a, t) :: rs) L F) (hf : fine a = true) : Mid first sg nxt fine ok n (V ++ [a]) rs (goS nxt a t (sg a) F L).2 (goS nxt a t (sg a) F L).1 := by
  obtain ⟨N, e, h1, h2, h3, h4⟩ := goS_spec nxt a t (sg a) F L
  obtain ⟨oka, hn, hp⟩ := M.lv (a, t) List.mem_cons_self
  rw [e]
  dsimp only
  have hs := fn.three a
  refine ⟨?_, fun b => ?_, fun v hv => ?_, fun v hv g hg => ?_, fun p hp => M.lv p (List.mem_cons_of_mem _ hp), fun p hpm => ?_, List.mem_append_left _ M.one, ?_, ?_, fun s b hb => ⟨fun q => ?_, fun q => ?_⟩⟩
  · have z := M.nd
    have e2 : V ++ [a] ++ (rs.map (·.1) ++ (L ++ N).map (·.1)) = (V ++ ((((a, t) :: rs).map (·.1)) ++ L.map (·.1))) ++ N.map (·.1) := by simp
    rw [e2, List.nodup_append]
    refine ⟨z, h2, fun x hx y hy exy => ?_⟩
    subst exy
    obtain ⟨p, hp2, e3⟩ := List.mem_map.mp hy
    refine (h3 p hp2).1 ?_
    rw [e3, M.mem]
    simpa [List.mem_append, or_assoc] using hx
  · rw [List.mem_append, M.mem, List.map_append, List.mem_append, List.mem_append, List.map_cons, List.mem_cons, List.mem_singleton]
    constructor
    · rintro ((h | h | h) | h)
      · exact .inl (.inl h)
      · rcases h with h | h
        · exact .inl (.inr h)
        · exact .inr (.inl h)
      · exact .inr (.inr (.inl h))
      · exact .inr (.inr (.inr h))
    · rintro ((h | h) | h | h | h)
      · exact .inl (.inl h)
      · exact .inl (.inr (.inl (.inl h)))
      · exact .inl (.inr (.inl (.inr h)))
      · exact .inl (.inr (.inr h))
      · exact .inr h
  · rcases List.mem_append.mp hv with h | h
    · exact M.fin v h
    · rw [List.mem_singleton.mp h]
      exact ⟨oka, hf⟩
  · rcases List.mem_append.mp hv with h | h
    · exact List.mem_append_left _ (M.cl v h g hg)
    · rw [List.mem_singleton.mp h] at hg ⊢
      exact h4 g hg
  · rcases List.mem_append.mp hpm with h | h
    · exact M.lg p h
    · obtain ⟨_, g, hg, e3⟩ := h3 p h
      subst e3
      refine ⟨fn.step a g oka hf hg, ?_, .snoc hp hg⟩
      show (t ++ [g]).length = n + 1
      rw [List.length_append, show t.length = n from hn]
      rfl
  · have c := M.cnt
    rw [List.length_append, List.length_append, List.length_map]
    simp only [List.length_singleton]
    omega
  · have := M.dep
    rw [List.length_append]
    omega
  · exact List.mem_append_left _ ((M.near s b hb).1 q)
  · rcases (M.near s b hb).2 q with h | h
    · exact .inl (List.mem_append_left _ h)
    · rw [List.map_cons, List.mem_cons] at h
      rcases h with h | h
      · exact .inl (by rw [h]; exact List.mem_append_right _ List.mem_cons_self)
      · exact .inr h
theorem Mid.over {n : Nat} {V : List α} {L : List (α × List Sg)} {F : List α} (M : Mid first sg nxt fine ok n V [] L F) (hd : n + 1 ≤ V.length) : Mid first sg nxt fine ok (n + 1) V L [] F := by
  have all : ∀ t a, Pth first sg nxt t a → t.length ≤ n → a ∈ V := fun t a h q => by
    rcases Nat.lt_or_eq_of_le q with c | c
    · exact (M.near t a h).1 c
    · rcases (M.near t a h).2 c with z | z
      · exact z
      · cases z
  refine ⟨by have := M.nd; simpa using this, fun a => by rw [M.mem]; simp, M.fin, M.cl, M.lg, fun _ h => (nomatch h), M.one, M.cnt, hd, fun t a h => ⟨fun q => all t a h (by omega), fun q => ?_⟩⟩
  cases h with
  | nil => cases q
  | snoc h1 h2 =>
    rw [List.length_append] at q
    have := M.cl _ (all _ _ h1 (by simp only [List.length_singleton] at q; omega)) _ h2
    rw [M.mem] at this
    rcases this with z | z | z
    · exact .inl z
    · cases z
    · exact .inr z
theorem Mid.few {n : Nat} {V : List α} {rs L : List (α × List Sg)} {F : List α} (fn : Fin3 first sg nxt fine ok U) (M : Mid first sg nxt fine ok n V rs L F) : V.length ≤ U.length ∧ L.length ≤ F.length ∧ rs.length ≤ F.length := by
  have sub : ∀ (l1 l2 : List α), l1.Nodup → (∀ k ∈ l1, k ∈ l2) → l1.length ≤ l2.length := by
    intro l1
    induction l1 with
    | nil => intro _ _ _; exact Nat.zero_le _
    | cons a l1 ih =>
      intro l2 hn hs
      have ha : a ∈ l2 := hs a List.mem_cons_self
      obtain ⟨hna, hn1⟩ := List.nodup_cons.mp hn
      have h := ih (l2.erase a) hn1 fun k hk => (List.mem_erase_of_ne (fun e : k = a => hna (e ▸ hk))).mpr (hs k (List.mem_cons_of_mem _ hk))
      rw [List.length_erase_of_mem ha] at h
      have := List.length_pos_of_mem ha
      rw [List.length_cons]
      omega
  have nd := M.nd
  rw [List.nodup_append] at nd
  have nd2 := nd.2.1
  rw [List.nodup_append] at nd2
  refine ⟨sub _ _ nd.1 fun v hv => fn.few v (M.fin v hv).1 (M.fin v hv).2, ?_⟩
  have h1 := sub _ F nd2.2.1 fun k hk => (M.mem k).mpr (.inr (.inr hk))
  have h2 := sub _ F nd2.1 fun k hk => (M.mem k).mpr (.inr (.inl hk))
  rw [List.length_map] at h1 h2
  exact ⟨h1, h2⟩
structure Shut (first : α) (sg : α → List Sg) (nxt : α → Sg → α) (fine : α → Bool) (ok : α → Prop) (F : List α) : Prop where
  one : first ∈ F
  fin : ∀ v ∈ F, ok v ∧ fine v = true
  cl : ∀ v ∈ F, ∀ g ∈ sg v, nxt v g ∈ F
theorem Mid.shut {n : Nat} {V : List α} {F : List α} (M : Mid first sg nxt fine ok n V [] [] F) : Shut first sg nxt fine ok F := by
  have e : ∀ v, v ∈ F → v ∈ V := fun v h => by
    rw [M.mem] at h
    rcases h with z | z | z
    · exact z
    · cases z
    · cases z
  exact ⟨M.one, fun v h => M.fin v (e v h), fun v h => M.cl v (e v h)⟩
def Least (first : α) (sg : α → List Sg) (nxt : α → Sg → α) (fine : α → Bool) (t : List Sg) : Prop := (∃ a, Pth first sg nxt t a ∧ fine a = false) ∧ ∀ s b, Pth first sg nxt s b → fine b = false → t.length ≤ s.length
theorem Mid.least {n : Nat} {V : List α} {a : α} {t : List Sg} {rs L : List (α × List Sg)} {F : List α} (M : Mid first sg nxt fine ok n V ((a, t) :: rs) L F) (hf : fine a = false) : Least first sg nxt fine t := by
  obtain ⟨_, hn, hp⟩ := M.lv (a, t) List.mem_cons_self
  refine ⟨⟨a, hp, hf⟩, fun s b h hb => ?_⟩
  have hn : t.length = n := hn
  rw [hn]
  rcases Nat.lt_or_ge s.length n with c | c
  · have := (M.fin b ((M.near s b h).1 c)).2
    rw [this] at hb
    cases hb
  · exact c
end
/-! ### the program's search -/
def inB (eb : ME) : MS := (mSeq (mAsg eb (mName 7)) (mIfS (mB (mOp (fInY true) (mVar 7) (mVar 1))) (mSeq (mAsg (mC (.bl true)) (mGSub fSetX (mVar 1) (mVar 7))) (mDrop (mApp (mVar 3) (mTup (mCons (mVar 7) (mCons (mOp fAdd (mVar 5) (mVar 6)) mNil)))))) mNext))
def lvB (ef es eb : ME) : MS := (mSeq (mIfS (mNot (mTru ef)) (mRet (mTup (mCons (mC .non) (mCons (mVar 5) mNil)))) mNext) (mFor (mAnyI es) (mName 6) (inB eb)))
def whB (ef es eb : ME) : MS := (mSeq (mAsg (mLstM mNil) (mName 3)) (mSeq (mFor (mAnyI (mVar 2)) (mGTup 2 (mGCons (mName 4) (mGCons (mName 5) mGNil))) (lvB ef es eb)) (mAsg (mVar 3) (mName 2))))
def srB (e1 ef es eb : ME) : MS := (mSeq (mAsg (mDispM e1 (mC (.bl true))) (mName 1)) (mSeq (mAsg (mLstM (mCons (mTup (mCons e1 (mCons (mC (.str [])) mNil))) mNil)) (mName 2)) (mSeq (mWhile 50000 (mTru (mVar 2)) (whB ef es eb)) (mRet (mTup (mCons (mCB fListY (mCons (mVar 1) mNil)) (mCons (mC .non) mNil)))))))
def eFst : ME := (mMeth 0 1 m_RowWalk_first (mVar 0) mNil)
def eFin : ME := (mMeth 0 2 m_RowWalk_is_fine (mVar 0) (mCons (mVar 4) mNil))
def eSgs : ME := (mMeth 0 2 m_RowWalk_signs (mVar 0) (mCons (mVar 4) mNil))
def eBeh : ME := (mMeth 0 3 m_RowWalk_behind (mVar 0) (mCons (mVar 4) (mCons (mVar 6) mNil)))
structure Wlk {α : Type} [DecidableEq α] (e1 ef es eb : ME) (wv : LV) (enc : α → LV) (ok : α → Prop) (first : α) (sg : α → List Sg) (nxt : α → Sg → α) (fine : α → Bool) : Prop where
  f1 : ∀ (ρ : Rho) (h : List LO), ρ[0]? = some (some wv) → e1 ρ h = .ok (enc first) h
  ff : ∀ (ρ : Rho) (h : List LO) a, ρ[0]? = some (some wv) → ρ[4]? = some (some (enc a)) → ok a → ef ρ h = .ok (.bl (fine a)) h
  fs : ∀ (ρ : Rho) (h : List LO) a, ρ[0]? = some (some wv) → ρ[4]? = some (some (enc a)) → ok a → es ρ h = .ok (.tup ((sg a).map gL)) h
  fb : ∀ (ρ : Rho) (h : List LO) a g, ρ[0]? = some (some wv) → ρ[4]? = some (some (enc a)) → ρ[6]? = some (some (gL g)) → ok a → eb ρ h = .ok (enc (nxt a g)) h
  tup : ∀ a, ∃ ts, enc a = .tup ts
  fit : ∀ a, kfit (enc a) 8 = true
  inj : ∀ a b, keqL (enc a) (enc b) = decide (a = b)
  pure : ∀ a, (enc a).pure = true
theorem kix_mem {α : Type} [DecidableEq α] {enc : α → LV} (inj : ∀ a b, keqL (enc a) (enc b) = decide (a = b)) (b : α) : ∀ F : List α, decide (kix (enc b) (F.map enc) < (F.map enc).length) = decide (b ∈ F)
  | [] => by simp [kix]
  | a :: F => by
    have ih := kix_mem inj b F
    rw [decide_eq_decide] at ih ⊢
    simp only [List.map_cons, kix, inj, List.length_cons, List.mem_cons]
    by_cases e : b = a
    · simp [e]
    · simp only [e, decide_false, Bool.false_eq_true, if_false, false_or]
      rw [← ih]
      omega
end Sx
namespace Sx
open PySem PySem.Spec Rm K04
section
variable {α : Type} [DecidableEq α] {e1 ef es eb : ME} {wv : LV} {enc : α → LV} {ok : α → Prop} {first : α} {sg : α → List Sg} {nxt : α → Sg → α} {fine : α → Bool} {U : List α}
abbrev encP (enc : α → LV) (p : α × List Sg) : LV := .tup [enc p.1, sL p.2]
abbrev dicO (enc : α → LV) (F : List α) : LO := .dic (F.map enc) (List.replicate F.length (.bl true))
abbrev lstO (enc : α → LV) (L : List (α × List Sg)) : LO := .lst (L.map (encP enc))
theorem not_in (W : Wlk e1 ef es eb wv enc ok first sg nxt fine) {h : List LO} {F : List α} (b : α) (h0 : h[0]? = some (dicO enc F)) : fInY true (enc b) (.ref 0) h = .ok (.bl (!decide (b ∈ F))) h := by
  obtain ⟨ts, et⟩ := W.tup b
  have fit := W.fit b
  have e0 : LV.dct h (.ref 0) = some (F.map enc, List.replicate F.length (.bl true)) := by
    simp only [LV.dct, h0]
  have d : isDct (.ref 0) h = true := by
    unfold isDct
    rw [e0]
    rfl
  have k := kix_mem W.inj b F
  unfold fInY
  rw [if_pos (show isFl (enc b) (.ref 0) h = true by unfold isFl; rw [d]; rfl)]
  unfold fInX
  rw [if_pos d]
  rw [et] at fit k ⊢
  unfold fInN
  rw [e0]
  simp only [fit, if_true]
  rw [k]
theorem not_inT (W : Wlk e1 ef es eb wv enc ok first sg nxt fine) {h : List LO} {F : List α} {b : α} (h0 : h[0]? = some (dicO enc F)) (hm : b ∈ F) : fInY true (enc b) (.ref 0) h = .ok (.bl false) h := by
  rw [not_in W b h0, decide_eq_true hm]
  rfl
theorem not_inF (W : Wlk e1 ef es eb wv enc ok first sg nxt fine) {h : List LO} {F : List α} {b : α} (h0 : h[0]? = some (dicO enc F)) (hm : b ∉ F) : fInY true (enc b) (.ref 0) h = .ok (.bl true) h := by
  rw [not_in W b h0, decide_eq_false hm]
  rfl
theorem put_in (W : Wlk e1 ef es eb wv enc ok first sg nxt fine) {h : List LO} {F : List α} {b : α} (h0 : h[0]? = some (dicO enc F)) (hb : b ∉ F) (hl : F.length < 60000) : fSetX (.ref 0) (enc b) (.bl true) h = .ok () (h.set 0 (dicO enc (F ++ [b]))) := by
  obtain ⟨ts, et⟩ := W.tup b
  have fit := W.fit b
  have k := kix_mem W.inj b F
  rw [decide_eq_false hb, decide_eq_false_iff_not] at k
  have er : List.replicate (F ++ [b]).length (LV.bl true) = List.replicate F.length (.bl true) ++ [.bl true] := by
    rw [List.length_append, List.length_singleton, List.replicate_succ']
  show _ = R.ok () (h.set 0 (.dic ((F ++ [b]).map enc) (List.replicate (F ++ [b]).length (.bl true))))
  rw [er, List.map_append, List.map_cons, List.map_nil]
  rw [et] at fit k ⊢
  simp only [fSetX, h0, fit, true_and, List.length_map, hl, if_true]
  rw [List.length_map] at k
  rw [if_neg k]
theorem in_loop (W : Wlk e1 ef es eb wv enc ok first sg nxt fine) {a : α} {t : List Sg} {lv lg : Nat} (oka : ok a) (h0lg : lg ≠ 0) (ht : t.length < 50000) : ∀ (gs : List Sg) (F : List α) (L : List (α × List Sg)) (x6 x7 : Option LV) (h : List LO), F.length + gs.length < 50000 → L.length + gs.length < 50000 → h[0]? = some (dicO enc F) → h[lg]? = some (lstO enc L) →
    ∃ y6 y7 h', runL (mName 6) (inB eb) (gs.map gL) [some wv, some (.ref 0), some (.ref lv), some (.ref lg), some (enc a), some (sL t), x6, x7] h = .ok (.nx, [some wv, some (.ref 0), some (.ref lv), some (.ref lg), some (enc a), some (sL t), y6, y7]) h' ∧
      h'[0]? = some (dicO enc (goS nxt a t gs F L).1) ∧ h'[lg]? = some (lstO enc (goS nxt a t gs F L).2) ∧ ∀ j, j ≠ 0 → j ≠ lg → h'[j]? = h[j]?
  | [], F, L, x6, x7, h, l1, l2, h0, h1 => ⟨x6, x7, h, rfl, h0, h1, fun _ _ _ => rfl⟩
  | g :: gs, F, L, x6, x7, h, l1, l2, h0, h1 => by
    simp only [List.length_cons] at l1 l2
    rw [List.map_cons]
    have eb1 := W.fb [some wv, some (.ref 0), some (.ref lv), some (.ref lg), some (enc a), some (sL t), some (gL g), x7] h a g rfl rfl rfl oka
    have eni : mB (mOp (fInY true) (mVar 7) (mVar 1)) [some wv, some (.ref 0), some (.ref lv), some (.ref lg), some (enc a), some (sL t), some (gL g), some (enc (nxt a g))] h = .ok (!decide (nxt a g ∈ F)) h :=
      ev_b (ev_op (v := enc (nxt a g)) (w := .ref 0) rfl rfl (not_in W _ h0))
    by_cases c : nxt a g ∈ F
    · rw [decide_eq_true c] at eni
      obtain ⟨y6, y7, h', ih, i1, i2, i3⟩ := in_loop W (lv := lv) oka h0lg ht gs F L (some (gL g)) (some (enc (nxt a g))) h (by omega) (by omega) h0 h1
      refine ⟨y6, y7, h', ?_, ?_, ?_, i3⟩
      · exact ev_lcons rfl (ev_seq (ev_asg eb1 rfl) (ev_ifF eni rfl)) ih
      · rw [goS, if_pos c]; exact i1
      · rw [goS, if_pos c]; exact i2
    · rw [decide_eq_false c] at eni
      have eput : mAsg (mC (.bl true)) (mGSub fSetX (mVar 1) (mVar 7)) [some wv, some (.ref 0), some (.ref lv), some (.ref lg), some (enc a), some (sL t), some (gL g), some (enc (nxt a g))] h = .ok (.nx, [some wv, some (.ref 0), some (.ref lv), some (.ref lg), some (enc a), some (sL t), some (gL g), some (enc (nxt a g))]) (h.set 0 (dicO enc (F ++ [nxt a g]))) := by
        refine ev_asg (v := .bl true) (h1 := h) rfl ?_
        show (fSetX (.ref 0) (enc (nxt a g)) (.bl true) h).bind _ = _
        rw [put_in W h0 c (by omega)]
        rfl
      have hl0 : 0 < h.length := (List.getElem?_eq_some_iff.mp h0).1
      have hl1 : lg < h.length := (List.getElem?_eq_some_iff.mp h1).1
      have q0 : (h.set 0 (dicO enc (F ++ [nxt a g])))[lg]? = some (lstO enc L) := by rw [List.getElem?_set_ne (Ne.symm h0lg)]; exact h1
      obtain ⟨y6, y7, h', ih, i1, i2, i3⟩ := in_loop W (lv := lv) oka h0lg ht gs (F ++ [nxt a g]) (L ++ [(nxt a g, t ++ [g])]) (some (gL g)) (some (enc (nxt a g))) ((h.set 0 (dicO enc (F ++ [nxt a g]))).set lg (lstO enc (L ++ [(nxt a g, t ++ [g])]))) (by rw [List.length_append, List.length_singleton]; omega) (by rw [List.length_append, List.length_singleton]; omega)
        (by rw [List.getElem?_set_ne h0lg, List.getElem?_set_self hl0]) (by rw [List.getElem?_set_self (by rw [List.length_set]; exact hl1)])
      have etp : mTup (mCons (mVar 7) (mCons (mOp fAdd (mVar 5) (mVar 6)) mNil)) [some wv, some (.ref 0), some (.ref lv), some (.ref lg), some (enc a), some (sL t), some (gL g), some (enc (nxt a g))] (h.set 0 (dicO enc (F ++ [nxt a g]))) = .ok (.tup [enc (nxt a g), sL (t ++ [g])]) (h.set 0 (dicO enc (F ++ [nxt a g]))) :=
        ev_tup (ev_cons rfl (ev_cons (ev_op (v := sL t) (w := sL [g]) rfl rfl (add_sL _ (by simp only [List.length_singleton]; omega))) rfl)) (by show 2 ≤ 60000; decide)
      refine ⟨y6, y7, h', ?_, ?_, ?_, fun j j0 j1 => ?_⟩
      · refine ev_lcons rfl (ev_seq (ev_asg eb1 rfl) (ev_ifT eni (ev_seq eput (ev_drop (ev_app rfl q0 etp q0 ?_))))) ?_
        · rw [List.length_map]; omega
        · have e : (h.set 0 (dicO enc (F ++ [nxt a g]))).set lg (.lst (L.map (encP enc) ++ [.tup [enc (nxt a g), sL (t ++ [g])]])) = (h.set 0 (dicO enc (F ++ [nxt a g]))).set lg (lstO enc (L ++ [(nxt a g, t ++ [g])])) := by
            rw [show lstO enc (L ++ [(nxt a g, t ++ [g])]) = .lst (L.map (encP enc) ++ [.tup [enc (nxt a g), sL (t ++ [g])]]) from by simp [lstO]]
          exact (congrArg (runL _ _ _ _) e).trans ih
      · rw [goS, if_neg c]; exact i1
      · rw [goS, if_neg c]; exact i2
      · rw [i3 j j0 j1, List.getElem?_set_ne (Ne.symm j1), List.getElem?_set_ne (Ne.symm j0)]
end
end Sx
namespace Sx
open PySem PySem.Spec Rm K04
section
variable {α : Type} [DecidableEq α] {e1 ef es eb : ME} {wv : LV} {enc : α → LV} {ok : α → Prop} {first : α} {sg : α → List Sg} {nxt : α → Sg → α} {fine : α → Bool} {U : List α}
abbrev gRow : MG := mGTup 2 (mGCons (mName 4) (mGCons (mName 5) mGNil))
theorem lv_loop (W : Wlk e1 ef es eb wv enc ok first sg nxt fine) (fn : Fin3 first sg nxt fine ok U) (hU : U.length ≤ 12000) {lv lg n : Nat} {rows : List (α × List Sg)} (h0lv : lv ≠ 0) (h0lg : lg ≠ 0) (hll : lv ≠ lg) :
    ∀ (rs : List (α × List Sg)) (i fuel : Nat) (V F : List α) (L : List (α × List Sg)) (x4 x5 x6 x7 : Option LV) (h : List LO), rows.drop i = rs → rs.length < fuel → Mid first sg nxt fine ok n V rs L F →
    h[0]? = some (dicO enc F) → h[lv]? = some (lstO enc rows) → h[lg]? = some (lstO enc L) →
    (∃ t ρ' h', Rm.forM (.mref lv) gRow (lvB ef es eb) fuel i [some wv, some (.ref 0), some (.ref lv), some (.ref lg), x4, x5, x6, x7] h = .ok (.rt (.tup [.non, sL t]), ρ') h' ∧ Least first sg nxt fine t ∧ t.length ≤ U.length) ∨
    (∃ V' F' L' y4 y5 y6 y7 h', Rm.forM (.mref lv) gRow (lvB ef es eb) fuel i [some wv, some (.ref 0), some (.ref lv), some (.ref lg), x4, x5, x6, x7] h = .ok (.nx, [some wv, some (.ref 0), some (.ref lv), some (.ref lg), y4, y5, y6, y7]) h' ∧
      Mid first sg nxt fine ok n V' [] L' F' ∧ V'.length = V.length + rs.length ∧ h'[0]? = some (dicO enc F') ∧ h'[lg]? = some (lstO enc L'))
  | [], i, fuel, V, F, L, x4, x5, x6, x7, h, hd, hf, M, q0, q1, q2 => by
    refine .inr ⟨V, F, L, x4, x5, x6, x7, h, ?_, M, rfl, q0, q2⟩
    cases fuel with
    | zero => cases hf
    | succ fuel =>
      have e : Itr.at (.mref lv) i h = some none := by
        have : rows.length ≤ i := List.drop_eq_nil_iff.mp hd
        simp only [Itr.at, q1, List.getElem?_map, List.getElem?_eq_none this, Option.map_none]
      simp only [Rm.forM, e]
  | (a, t) :: rs, i, fuel, V, F, L, x4, x5, x6, x7, h, hd, hf, M, q0, q1, q2 => by
    cases fuel with
    | zero => cases hf
    | succ fuel =>
      have hi : rows[i]? = some (a, t) := by
        have := congrArg (fun l => l[0]?) hd
        simpa using this
      have hd' : rows.drop (i + 1) = rs := by
        have := congrArg List.tail hd
        simpa using this
      have e : Itr.at (.mref lv) i h = some (some (encP enc (a, t))) := by
        simp only [Itr.at, q1, List.getElem?_map, hi, Option.map_some]
      obtain ⟨oka, hn, _⟩ := M.lv (a, t) List.mem_cons_self
      have hn : t.length = n := hn
      obtain ⟨f1, f2, _⟩ := M.few fn
      have f3 := M.cnt
      have f4 := M.dep
      have f5 := fn.three a
      have hff := W.ff [some wv, some (.ref 0), some (.ref lv), some (.ref lg), some (enc a), some (sL t), x6, x7] h a rfl rfl oka
      have hfs := W.fs [some wv, some (.ref 0), some (.ref lv), some (.ref lg), some (enc a), some (sL t), x6, x7] h a rfl rfl oka
      cases hfi : fine a with
      | false =>
        rw [hfi] at hff
        refine .inl ⟨t, [some wv, some (.ref 0), some (.ref lv), some (.ref lg), some (enc a), some (sL t), x6, x7], h, ?_, M.least hfi, by omega⟩
        have eb1 : lvB ef es eb [some wv, some (.ref 0), some (.ref lv), some (.ref lg), some (enc a), some (sL t), x6, x7] h = .ok (.rt (.tup [.non, sL t]), [some wv, some (.ref 0), some (.ref lv), some (.ref lg), some (enc a), some (sL t), x6, x7]) h :=
          ev_rt (ev_ifT (ev_not (ev_truB hff)) (ev_ret (ev_tup (ev_cons rfl (ev_cons rfl rfl)) (by show 2 ≤ 60000; decide))))
        simp only [Rm.forM, e]
        show (R.ok [some wv, some (.ref 0), some (.ref lv), some (.ref lg), some (enc a), some (sL t), x6, x7] h).bind _ = _
        simp only [R.bind, eb1]
      | true =>
        rw [hfi] at hff
        obtain ⟨y6, y7, h', r, i1, i2, i3⟩ := in_loop W (lv := lv) (lg := lg) oka h0lg (t := t) (by omega) (sg a) F L x6 x7 h (by omega) (by omega) q0 q2
        have eb1 : lvB ef es eb [some wv, some (.ref 0), some (.ref lv), some (.ref lg), some (enc a), some (sL t), x6, x7] h = .ok (.nx, [some wv, some (.ref 0), some (.ref lv), some (.ref lg), some (enc a), some (sL t), y6, y7]) h' :=
          ev_seq (ev_ifF (ev_not (ev_truB hff)) rfl) (ev_for (ev_anyT hfs) (by rw [List.length_map]; omega) r)
        have st : ∀ r', Rm.forM (.mref lv) gRow (lvB ef es eb) fuel (i + 1) [some wv, some (.ref 0), some (.ref lv), some (.ref lg), some (enc a), some (sL t), y6, y7] h' = r' → Rm.forM (.mref lv) gRow (lvB ef es eb) (fuel + 1) i [some wv, some (.ref 0), some (.ref lv), some (.ref lg), x4, x5, x6, x7] h = r' := by
          intro r' hr
          simp only [Rm.forM, e]
          show (R.ok [some wv, some (.ref 0), some (.ref lv), some (.ref lg), some (enc a), some (sL t), x6, x7] h).bind _ = _
          simp only [R.bind, eb1]
          exact hr
        have ih := lv_loop W fn hU h0lv h0lg hll rs (i + 1) fuel (V ++ [a]) _ _ (some (enc a)) (some (sL t)) y6 y7 h' hd' (by simp only [List.length_cons] at hf; omega) (M.step fn hfi) i1 (by rw [i3 lv h0lv hll]; exact q1) i2
        rcases ih with ⟨t', ρ', h'', r1, r2, r3⟩ | ⟨V', F', L', z4, z5, z6, z7, h'', r1, r2, r3, r4, r5⟩
        · exact .inl ⟨t', ρ', h'', st _ r1, r2, r3⟩
        · refine .inr ⟨V', F', L', z4, z5, z6, z7, h'', st _ r1, r2, ?_, r4, r5⟩
          rw [r3, List.length_append]
          simp only [List.length_cons, List.length_nil]
          omega
theorem wh_loop (W : Wlk e1 ef es eb wv enc ok first sg nxt fine) (fn : Fin3 first sg nxt fine ok U) (hU : U.length ≤ 12000) : ∀ (fuel n : Nat) (V F : List α) (rows : List (α × List Sg)) (lv : Nat) (x3 x4 x5 x6 x7 : Option LV) (h : List LO), U.length < fuel + V.length → lv ≠ 0 → Mid first sg nxt fine ok n V rows [] F →
    h[0]? = some (dicO enc F) → h[lv]? = some (lstO enc rows) →
    (∃ t ρ' h', whileM (mTru (mVar 2)) (whB ef es eb) fuel [some wv, some (.ref 0), some (.ref lv), x3, x4, x5, x6, x7] h = .ok (.rt (.tup [.non, sL t]), ρ') h' ∧ Least first sg nxt fine t ∧ t.length ≤ U.length) ∨
    (∃ F' ρ' h', whileM (mTru (mVar 2)) (whB ef es eb) fuel [some wv, some (.ref 0), some (.ref lv), x3, x4, x5, x6, x7] h = .ok (.nx, ρ') h' ∧ Shut first sg nxt fine ok F' ∧ h'[0]? = some (dicO enc F') ∧ ρ'[1]? = some (some (.ref 0)) ∧ F'.length ≤ 1 + 3 * U.length)
  | 0, n, V, F, rows, lv, x3, x4, x5, x6, x7, h, hf, hl, M, q0, q1 => by
    have := (M.few fn).1
    omega
  | fuel + 1, n, V, F, rows, lv, x3, x4, x5, x6, x7, h, hf, hl, M, q0, q1 => by
    have hV := (M.few fn).1
    have ht : mTru (mVar 2) [some wv, some (.ref 0), some (.ref lv), x3, x4, x5, x6, x7] h = .ok (!(rows.map (encP enc)).isEmpty) h := by
      refine ev_tru (v := .ref lv) (h1 := h) rfl ?_
      simp only [truL, LV.seq, LV.lsf, LV.lst, q1]
    cases rows with
    | nil =>
      refine .inr ⟨F, [some wv, some (.ref 0), some (.ref lv), x3, x4, x5, x6, x7], h, ?_, M.shut, q0, ?_, by have := M.cnt; omega⟩
      · simp only [whileM, ht]
        rfl
      · rfl
    | cons p rows =>
      have hl1 : lv < h.length := (List.getElem?_eq_some_iff.mp q1).1
      have hl0 : 0 < h.length := (List.getElem?_eq_some_iff.mp q0).1
      have g0 : (h ++ [LO.lst []])[0]? = some (dicO enc F) := by rw [List.getElem?_append_left hl0]; exact q0
      have g1 : (h ++ [LO.lst []])[lv]? = some (lstO enc (p :: rows)) := by rw [List.getElem?_append_left hl1]; exact q1
      have g2 : (h ++ [LO.lst []])[h.length]? = some (lstO enc ([] : List (α × List Sg))) := by rw [List.getElem?_append_right (Nat.le_refl _), Nat.sub_self]; rfl
      have hrow := (M.few fn).2.2
      have hcnt := M.cnt
      have hlg : h.length ≠ 0 := by omega
      have go1 : ∀ r ρ1 h1, Rm.forM (.mref lv) gRow (lvB ef es eb) 60000 0 [some wv, some (.ref 0), some (.ref lv), some (.ref h.length), x4, x5, x6, x7] (h ++ [LO.lst []]) = .ok (r, ρ1) h1 → mFor (mAnyI (mVar 2)) gRow (lvB ef es eb) [some wv, some (.ref 0), some (.ref lv), some (.ref h.length), x4, x5, x6, x7] (h ++ [LO.lst []]) = .ok (r, ρ1) h1 := by
        intro r ρ1 h1 e
        have e0 : mAnyI (mVar 2) [some wv, some (.ref 0), some (.ref lv), some (.ref h.length), x4, x5, x6, x7] (h ++ [LO.lst []]) = .ok (.mref lv) (h ++ [LO.lst []]) := by
          show (match itOf (h ++ [LO.lst []]) (.ref lv) with | some it => R.ok it (h ++ [LO.lst []]) | none => .bad) = _
          simp only [itOf, g1]
        unfold mFor
        rw [e0]
        exact e
      have hall : mAsg (mLstM mNil) (mName 3) [some wv, some (.ref 0), some (.ref lv), x3, x4, x5, x6, x7] h = .ok (.nx, [some wv, some (.ref 0), some (.ref lv), some (.ref h.length), x4, x5, x6, x7]) (h ++ [LO.lst []]) := ev_asg (ev_lstM (vs := []) rfl (Nat.zero_le _)) rfl
      rcases lv_loop W fn hU (lv := lv) (lg := h.length) hl hlg (by omega) (p :: rows) 0 60000 V F [] x4 x5 x6 x7 (h ++ [LO.lst []]) rfl (by omega) M g0 g1 g2 with ⟨t, ρ', h', r1, r2, r3⟩ | ⟨V', F', L', y4, y5, y6, y7, h', r1, r2, r3, r4, r5⟩
      · refine .inl ⟨t, ρ', h', ?_, r2, r3⟩
        have e2 : whB ef es eb [some wv, some (.ref 0), some (.ref lv), x3, x4, x5, x6, x7] h = .ok (.rt (.tup [.non, sL t]), ρ') h' := ev_seq hall (ev_rt (go1 _ _ _ r1))
        simp only [whileM, ht]
        show (whB ef es eb [some wv, some (.ref 0), some (.ref lv), x3, x4, x5, x6, x7] h).bind _ = _
        rw [e2]
        rfl
      · have e2 : whB ef es eb [some wv, some (.ref 0), some (.ref lv), x3, x4, x5, x6, x7] h = .ok (.nx, [some wv, some (.ref 0), some (.ref h.length), some (.ref h.length), y4, y5, y6, y7]) h' := ev_seq hall (ev_seq (go1 _ _ _ r1) (ev_asg rfl rfl))
        simp only [List.length_cons] at r3
        have hd := M.dep
        have ih := wh_loop W fn hU fuel (n + 1) V' F' L' h.length (some (.ref h.length)) y4 y5 y6 y7 h' (by omega) hlg (r2.over (by omega)) r4 r5
        have st : ∀ r', whileM (mTru (mVar 2)) (whB ef es eb) fuel [some wv, some (.ref 0), some (.ref h.length), some (.ref h.length), y4, y5, y6, y7] h' = r' → whileM (mTru (mVar 2)) (whB ef es eb) (fuel + 1) [some wv, some (.ref 0), some (.ref lv), x3, x4, x5, x6, x7] h = r' := by
          intro r' hr
          simp only [whileM, ht]
          show (whB ef es eb [some wv, some (.ref 0), some (.ref lv), x3, x4, x5, x6, x7] h).bind _ = _
          rw [e2]
          exact hr
        rcases ih with ⟨t, ρ', h'', s1, s2, s3⟩ | ⟨F'', ρ', h'', s1, s2, s3, s4, s5⟩
        · exact .inl ⟨t, ρ', h'', st _ s1, s2, s3⟩
        · exact .inr ⟨F'', ρ', h'', st _ s1, s2, s3, s4, s5⟩
theorem pures_map (p : ∀ a, (enc a).pure = true) : ∀ F : List α, LV.pures (F.map enc) = true
  | [] => rfl
  | a :: F => pures_cons (p a) (pures_map p F)
theorem c_srch (W : Wlk e1 ef es eb wv enc ok first sg nxt fine) (fn : Fin3 first sg nxt fine ok U) (hU : U.length ≤ 12000) :
    (∃ t, cal (mFn 8 (srB e1 ef es eb)) [wv] = some (.tup [.non, sL t]) ∧ Least first sg nxt fine t ∧ t.length ≤ U.length) ∨
    (∃ F, cal (mFn 8 (srB e1 ef es eb)) [wv] = some (.tup [.vl (F.map enc), .non]) ∧ Shut first sg nxt fine ok F ∧ F.length ≤ 1 + 3 * U.length) := by
  obtain ⟨ts, et⟩ := W.tup first
  have fit := W.fit first
  have d1 : mAsg (mDispM e1 (mC (.bl true))) (mName 1) [some wv, none, none, none, none, none, none, none] [] = .ok (.nx, [some wv, some (.ref 0), none, none, none, none, none, none]) [dicO enc [first]] := by
    have e0 := W.f1 [some wv, none, none, none, none, none, none, none] [] rfl
    refine ev_asg (v := .ref 0) ?_ rfl
    unfold mDispM
    rw [e0, et]
    rw [et] at fit
    show (match LV.tup ts with | .tup ts => if kfit (.tup ts) 8 = true then R.ok (LV.ref 0) [LO.dic [.tup ts] [.bl true]] else .bad | _ => .bad) = R.ok (.ref 0) [LO.dic ([first].map enc) (List.replicate [first].length (.bl true))]
    rw [List.map_cons, List.map_nil, et]
    exact if_pos fit
  have d2 : mAsg (mLstM (mCons (mTup (mCons e1 (mCons (mC (.str [])) mNil))) mNil)) (mName 2) [some wv, some (.ref 0), none, none, none, none, none, none] [dicO enc [first]] = .ok (.nx, [some wv, some (.ref 0), some (.ref 1), none, none, none, none, none]) [dicO enc [first], lstO enc [(first, [])]] :=
    ev_asg (ev_lstM (ev_cons (ev_tup (ev_cons (W.f1 _ _ rfl) rfl) (by show 2 ≤ 60000; decide)) rfl) (by show 1 ≤ 60000; decide)) rfl
  rcases wh_loop W fn hU 50000 0 [] [first] [(first, [])] 1 none none none none none [dicO enc [first], lstO enc [(first, [])]] (by simp only [List.length_nil]; omega) (by decide) (Mid.start fn) rfl rfl with ⟨t, ρ', h', r1, r2, r3⟩ | ⟨F, ρ', h', r1, r2, r3, r4, r5⟩
  · exact .inl ⟨t, cal_of (fn_rt (ev_seq d1 (ev_seq d2 (ev_rt r1)))) (outV_pure rfl), r2, r3⟩
  · refine .inr ⟨F, cal_of (h1 := h') (v := .tup [.vl (F.map enc), .non]) (fn_rt (ev_seq d1 (ev_seq d2 (ev_seq r1 (ev_ret (ev_tup (ev_cons (ev_cb (vs := [.ref 0]) (h1 := h') (ev_cons ?_ rfl) ?_) (ev_cons rfl rfl)) (by show 2 ≤ 60000; decide))))))) (outV_pure (pures_cons (pures_map W.pure F) rfl)), r2, r5⟩
    · unfold mVar
      rw [r4]
    · have e0 : LV.dct h' (.ref 0) = some (F.map enc, List.replicate F.length (.bl true)) := by simp only [LV.dct, r3]
      simp only [fListY, fListX, e0]
end
end Sx
namespace Sx
open PySem PySem.Spec Rm K04
theorem var_of {ρ : Rho} {h : List LO} {i : Nat} {v : LV} (e : ρ[i]? = some (some v)) : mVar i ρ h = .ok v h := by
  unfold mVar
  rw [e]
/-! ### keys -/
theorem keqs_bl : ∀ (x y : List Bool), keqsL (x.map .bl) (y.map .bl) = decide (x = y)
  | [], [] => rfl
  | [], b :: y => by simp [keqsL]
  | a :: x, [] => by simp [keqsL]
  | a :: x, b :: y => by
    simp only [List.map_cons, keqsL, keqL, keqs_bl x y]
    rw [Bool.eq_iff_iff]
    simp
theorem kfits_bl (n : Nat) : ∀ x : List Bool, kfits (x.map .bl) n = true
  | [] => rfl
  | a :: x => by simp only [List.map_cons, kfits, kfit, kfits_bl n x, Bool.and_self]
theorem key_rowL (a b : Row) : keqL (rowL a) (rowL b) = decide (a = b) := by
  obtain ⟨s1, s2, op, u, v⟩ := a
  obtain ⟨s1', s2', op', u', v'⟩ := b
  simp only [rowL, keqL, keqsL, keqs_bl]
  rw [Bool.eq_iff_iff]
  simp only [Bool.and_eq_true, decide_eq_true_eq, beq_iff_eq, Row.mk.injEq, map_inj, and_true]
theorem fit_rowL (r : Row) : kfit (rowL r) 8 = true := by
  simp only [rowL, kfit, kfits, kfits_bl, Bool.and_self]
/-! ### how many rows there can be -/
def allB : Nat → List (List Bool)
  | 0 => [[]]
  | n + 1 => (allB n).map (List.cons false) ++ (allB n).map (List.cons true)
theorem allB_len : ∀ n, (allB n).length = 2 ^ n
  | 0 => rfl
  | n + 1 => by rw [allB, List.length_append, List.length_map, List.length_map, allB_len n, Nat.pow_succ]; omega
theorem allB_mem : ∀ (n : Nat) (l : List Bool), l.length = n → l ∈ allB n
  | 0, l, h => by rw [List.eq_nil_of_length_eq_zero h]; exact List.mem_singleton.mpr rfl
  | n + 1, [], h => by cases h
  | n + 1, b :: l, h => by
    have m := allB_mem n l (by simpa using h)
    rw [allB, List.mem_append]
    cases b
    · exact .inl (List.mem_map_of_mem m)
    · exact .inr (List.mem_map_of_mem m)
def mkE (A B : List Cv) (s1 s2 : List Bool) : Row := ⟨s1, s2, false, (endW B s2 []).take ((endW B s2 []).length - (endW A s1 []).length), (endW A s1 []).take ((endW A s1 []).length - (endW B s2 []).length)⟩
theorem even_mk {A B : List Cv} {r : Row} (ho : r.op = false) (hr : r.u = [] ∨ r.v = []) (e : evenR A B r = true) : r = mkE A B r.s1 r.s2 := by
  have f := of_decide_eq_true (p := r.u ++ endW A r.s1 [] = r.v ++ endW B r.s2 []) e
  clear e
  obtain ⟨s1, s2, op, u, v⟩ := r
  dsimp only at ho hr f
  subst ho
  unfold mkE
  dsimp only
  generalize endW A s1 [] = x at f ⊢
  generalize endW B s2 [] = y at f ⊢
  have l1 := congrArg List.length f
  rw [List.length_append, List.length_append] at l1
  have hu : u = y.take (y.length - x.length) := by
    rcases hr with h | h <;> subst h
    · rw [List.length_nil] at l1
      rw [show y.length - x.length = 0 by omega, List.take_zero]
    · rw [List.nil_append] at f
      rw [← f, List.length_append, show u.length + x.length - x.length = u.length by omega, List.take_left']
      rfl
  have hv : v = x.take (x.length - y.length) := by
    rcases hr with h | h <;> subst h
    · rw [List.nil_append] at f
      rw [f, List.length_append, show v.length + y.length - y.length = v.length by omega, List.take_left']
      rfl
    · rw [List.length_nil] at l1
      rw [show x.length - y.length = 0 by omega, List.take_zero]
  rw [← hu, ← hv]
def pairsB (A B : List Cv) : List (List Bool × List Bool) := (allB A.length).flatMap fun s => (allB B.length).map fun t => (s, t)
theorem pairsB_mem {A B : List Cv} {s t : List Bool} (h1 : s.length = A.length) (h2 : t.length = B.length) : (s, t) ∈ pairsB A B := List.mem_flatMap.mpr ⟨s, allB_mem _ _ h1, List.mem_map.mpr ⟨t, allB_mem _ _ h2, rfl⟩⟩
theorem pairsB_len (A B : List Cv) : (pairsB A B).length = 2 ^ A.length * 2 ^ B.length := by
  unfold pairsB
  rw [← allB_len A.length]
  generalize allB A.length = l
  induction l with
  | nil => simp
  | cons a l ih => rw [List.flatMap_cons, List.length_append, ih, List.length_map, allB_len, List.length_cons, Nat.succ_mul]; omega

def Ev (A B : List Cv) (r : Row) : Prop := r.s1.length = A.length ∧ r.s2.length = B.length ∧ r.op = false ∧ evenR A B r = true ∧ (r.u = [] ∨ r.v = [])
def Gone (A B : List Cv) (k : Kd) (r : Row) : Prop := Ev A B r ∨ ∃ r0, Ev A B r0 ∧ r = nextR A B k r0 .r
def okR (A B : List Cv) (k : Kd) (r : Row) : Prop := r = firstR A B ∨ ∃ r0 g, Gone A B k r0 ∧ g ∈ sgs k r0.op ∧ r = nextR A B k r0 g
def upR (A B : List Cv) (k : Kd) : List Row := ((pairsB A B).map fun p => mkE A B p.1 p.2) ++ (pairsB A B).map fun p => nextR A B k (mkE A B p.1 p.2) .r
theorem upR_len (A B : List Cv) (k : Kd) : (upR A B k).length = 2 * (2 ^ A.length * 2 ^ B.length) := by
  rw [upR, List.length_append, List.length_map, List.length_map, pairsB_len]
  omega
section
variable {A B : List Cv} {k : Kd}
theorem Ev.mk {r : Row} (h : Ev A B r) : r = mkE A B r.s1 r.s2 := even_mk h.2.2.1 h.2.2.2.2 h.2.2.2.1
theorem next_lens {r : Row} {g : Sg} (h1 : r.s1.length = A.length) (h2 : r.s2.length = B.length) : (nextR A B k r g).s1.length = A.length ∧ (nextR A B k r g).s2.length = B.length := ⟨step_len A _ _ h1, step_len B _ _ h2⟩
theorem Gone.lens {r : Row} (h : Gone A B k r) : r.s1.length = A.length ∧ r.s2.length = B.length := by
  rcases h with h | ⟨r0, h, rfl⟩
  · exact ⟨h.1, h.2.1⟩
  · exact next_lens h.1 h.2.1
theorem okR.lens {r : Row} (h : okR A B k r) : r.s1.length = A.length ∧ r.s2.length = B.length := by
  rcases h with rfl | ⟨r0, g, h, _, rfl⟩
  · exact ⟨List.length_replicate, List.length_replicate⟩
  · exact next_lens h.lens.1 h.lens.2
theorem okR.gone {r : Row} (h : okR A B k r) (hf : (r.op || evenR A B r) = true) : Gone A B k r := by
  have ln := h.lens
  rcases h with rfl | ⟨r0, g, h, hg, rfl⟩
  · exact .inl ⟨ln.1, ln.2, rfl, by simpa [firstR] using hf, .inl rfl⟩
  · cases ho : opn k g with
    | false =>
      have e : evenR A B (nextR A B k r0 g) = true := by
        have : (nextR A B k r0 g).op = false := ho
        rw [this, Bool.false_or] at hf
        exact hf
      refine .inl ⟨ln.1, ln.2, ho, e, ?_⟩
      have e2 := of_decide_eq_true (p := (nextR A B k r0 g).u ++ endW A (nextR A B k r0 g).s1 [] = (nextR A B k r0 g).v ++ endW B (nextR A B k r0 g).s2 []) e
      by_cases c1 : (nextR A B k r0 g).u = []
      · exact .inl c1
      · by_cases c2 : (nextR A B k r0 g).v = []
        · exact .inr c2
        · exact absurd e2 (lcp_ne _ _ c1 c2 _ _)
    | true =>
      have hk : k = .paired ∧ g = .r := by
        unfold opn at ho
        rw [Bool.and_eq_true, decide_eq_true_eq, decide_eq_true_eq] at ho
        exact ho
      obtain ⟨rfl, rfl⟩ := hk
      refine .inr ⟨r0, ?_, rfl⟩
      have hop : r0.op = false := by
        have := (List.mem_filter.mp hg).2
        cases q : r0.op with
        | false => rfl
        | true => rw [q] at this; cases this
      rcases h with h | ⟨r00, h, rfl⟩
      · exact h
      · cases hop
theorem Gone.mem {r : Row} (h : Gone A B k r) : r ∈ upR A B k := by
  rcases h with h | ⟨r0, h, rfl⟩
  · exact List.mem_append_left _ (List.mem_map.mpr ⟨(r.s1, r.s2), pairsB_mem h.1 h.2.1, h.mk.symm⟩)
  · refine List.mem_append_right _ (List.mem_map.mpr ⟨(r0.s1, r0.s2), pairsB_mem h.1 h.2.1, ?_⟩)
    dsimp only
    rw [← h.mk]
theorem lcp_len : ∀ x y : List Sg, (lcp x y).1.length ≤ x.length ∧ (lcp x y).2.length ≤ y.length
  | [], y => by cases y <;> simp [lcp]
  | g :: x, [] => by simp [lcp]
  | g :: x, h :: y => by
    have := lcp_len x y
    by_cases e : g = h
    · rw [lcp, if_pos e]
      simp only [List.length_cons]
      omega
    · rw [lcp, if_neg e]
      exact ⟨Nat.le_refl _, Nat.le_refl _⟩
variable (hA : A.length ≤ 12) (hB : B.length ≤ 12)
include hA hB
theorem next_size (r : Row) (g : Sg) : (nextR A B k r g).u.length ≤ r.u.length + 4096 ∧ (nextR A B k r g).v.length ≤ r.v.length + 4096 := by
  have l1 := stepW_len1 r.s1 g hA
  have l2 := stepW_len1 r.s2 g hB
  have l3 := lcp_len (r.u ++ (stepW A r.s1 [g]).2) (r.v ++ (stepW B r.s2 [g]).2)
  rw [List.length_append, List.length_append] at l3
  show (lcp _ _).1.length ≤ _ ∧ (lcp _ _).2.length ≤ _
  omega
theorem Ev.size {r : Row} (h : Ev A B r) : r.u.length ≤ 4096 ∧ r.v.length ≤ 4096 := by
  have l1 := endW_len0 r.s1 hA
  have l2 := endW_len0 r.s2 hB
  rw [h.mk]
  unfold mkE
  simp only [List.length_take]
  omega
theorem Gone.size {r : Row} (h : Gone A B k r) : r.u.length ≤ 8192 ∧ r.v.length ≤ 8192 := by
  rcases h with h | ⟨r0, h, rfl⟩
  · have := h.size hA hB
    omega
  · have h1 := h.size hA hB
    have h2 := next_size (k := k) hA hB r0 .r
    omega
theorem okR.size {r : Row} (h : okR A B k r) : r.u.length ≤ 20000 ∧ r.v.length ≤ 20000 := by
  rcases h with rfl | ⟨r0, g, h, hg, rfl⟩
  · exact ⟨Nat.zero_le _, Nat.zero_le _⟩
  · have h1 := h.size hA hB
    have h2 := next_size (k := k) hA hB r0 g
    omega
theorem rwalk : Wlk eFst eFin eSgs eBeh (wk A B k) rowL (okR A B k) (firstR A B) (fun r => sgs k r.op) (nextR A B k) (fun r => r.op || evenR A B r) where
  f1 ρ h e := by
    unfold eFst
    skip
    exact ev_meth (var_of e) rfl (c_rfirst hA hB) rfl (pures_cons (pure_wk A B k) rfl)
  ff ρ h r e e4 o := by
    unfold eFin
    skip
    exact ev_meth (var_of e) (ev_cons (var_of e4) rfl) (c_rfine hA hB r o.lens.1 o.lens.2 (o.size hA hB).1 (o.size hA hB).2) rfl (pures_cons (pure_wk A B k) (pures_cons (pure_rowL r) rfl))
  fs ρ h r e e4 o := by
    unfold eSgs
    skip
    exact ev_meth (var_of e) (ev_cons (var_of e4) rfl) (c_rsigns hA hB r) rfl (pures_cons (pure_wk A B k) (pures_cons (pure_rowL r) rfl))
  fb ρ h r g e e4 e6 o := by
    unfold eBeh
    skip
    exact ev_meth (var_of e) (ev_cons (var_of e4) (ev_cons (var_of e6) rfl)) (c_rbehind hA hB r g o.lens.1 o.lens.2 (o.size hA hB).1 (o.size hA hB).2) rfl (pures_cons (pure_wk A B k) (pures_cons (pure_rowL r) rfl))
  tup r := ⟨_, rfl⟩
  fit := fit_rowL
  inj := key_rowL
  pure := pure_rowL
omit hA hB in
theorem rfin : Fin3 (firstR A B) (fun r => sgs k r.op) (nextR A B k) (fun r => r.op || evenR A B r) (okR A B k) (upR A B k) where
  first := .inl rfl
  step r g o hf hg := .inr ⟨r, g, o.gone hf, hg, rfl⟩
  three r := List.length_filter_le _ _
  few r o hf := (o.gone hf).mem
end
end Sx
namespace Sx
open PySem PySem.Spec Rm K04
/-! ### places -/
structure Pl where
  st : List Bool
  op : Bool
  out : Option Bool
  deriving DecidableEq
def stepL (A : List Cv) (k k2 : Kd) (p : Pl) (g : Sg) : Pl := ⟨(stepW A p.st [g]).1, opn k g, p.out.bind fun b => runK k2 b (stepW A p.st [g]).2⟩
def firstL (A : List Cv) : Pl := ⟨List.replicate A.length false, false, some false⟩
def endL (A : List Cv) (k2 : Kd) (p : Pl) : Bool := decide ((p.out.bind fun b => runK k2 b (endW A p.st [])) = some false)
def plL (p : Pl) : LV := .tup [bL p.st, .bl p.op, oL p.out]
theorem pure_plL (p : Pl) : (plL p).pure = true := pures_cons (pure_bL _) (pures_cons rfl (pures_cons (pure_oL _) rfl))
theorem key_plL (a b : Pl) : keqL (plL a) (plL b) = decide (a = b) := by
  obtain ⟨s, op, o⟩ := a
  obtain ⟨s', op', o'⟩ := b
  have ho : keqL (oL o) (oL o') = decide (o = o') := by
    cases o with
    | none => cases o' with
      | none => rfl
      | some _ => rfl
    | some x => cases o' with
      | none => rfl
      | some y => cases x <;> cases y <;> rfl
  simp only [plL, keqL, keqsL, keqs_bl, ho]
  rw [Bool.eq_iff_iff]
  simp only [Bool.and_eq_true, decide_eq_true_eq, beq_iff_eq, Pl.mk.injEq, and_true]
theorem fit_plL (p : Pl) : kfit (plL p) 8 = true := by
  obtain ⟨s, op, o⟩ := p
  cases o <;> simp only [plL, oL, kfit, kfits, kfits_bl, Bool.and_self]
section
variable {A : List Cv} {k k2 : Kd} (hA : A.length ≤ 12)
include hA
theorem isF_oL (o : Option Bool) (h : List LO) : fIsN false (oL o) (.bl false) h = .ok (.bl (decide (o = some false))) h := by
  cases o with
  | none => rfl
  | some b => cases b <;> rfl
end
def upL (A : List Cv) : List Pl := (allB A.length).flatMap fun s => [⟨s, false, none⟩, ⟨s, false, some false⟩, ⟨s, false, some true⟩, ⟨s, true, none⟩, ⟨s, true, some false⟩, ⟨s, true, some true⟩]
theorem upL_len (A : List Cv) : (upL A).length = 6 * 2 ^ A.length := by
  unfold upL
  rw [← allB_len A.length]
  generalize allB A.length = l
  induction l with
  | nil => rfl
  | cons a l ih =>
    rw [List.flatMap_cons, List.length_append, ih]
    simp only [List.length_cons, List.length_nil]
    omega
theorem pfin {A : List Cv} {k k2 : Kd} : Fin3 (firstL A) (fun p => sgs k p.op) (stepL A k k2) (fun p => p.op || endL A k2 p) (fun p => p.st.length = A.length) (upL A) where
  first := List.length_replicate
  step p g o hf hg := step_len A _ _ o
  three r := List.length_filter_le _ _
  few p o hf := by
    obtain ⟨s, op, out⟩ := p
    refine List.mem_flatMap.mpr ⟨s, allB_mem _ _ o, ?_⟩
    cases op <;> (cases out with
      | none => simp
      | some b => cases b <;> simp)
/-! ### what it means: rows -/
theorem mem_sgs {k : Kd} {b : Bool} {g : Sg} : g ∈ sgs k b ↔ can k b g = true := by
  unfold sgs
  rw [List.mem_filter]
  constructor
  · exact fun h => h.2
  · exact fun h => ⟨by cases g <;> decide, h⟩
theorem runK_snoc {k : Kd} {l : List Sg} {b : Bool} {g : Sg} (h : runK k false l = some b) (hc : can k b g = true) : runK k false (l ++ [g]) = some (opn k g) := by
  rw [runK_app, h]
  show (if can k b g then runK k (opn k g) [] else none) = _
  rw [if_pos hc]
  rfl
def Same (A B : List Cv) (r : Row) (l : List Sg) : Prop := r.u ++ endW A r.s1 l = r.v ++ endW B r.s2 l
theorem end_cons (ws : List Cv) (st : List Bool) (g : Sg) (l : List Sg) (h : st.length = ws.length) : endW ws st (g :: l) = (stepW ws st [g]).2 ++ endW ws (stepW ws st [g]).1 l := end_app ws st [g] l h
section
variable {A B : List Cv} {k k2 : Kd}
theorem same_next {r : Row} {g : Sg} (h1 : r.s1.length = A.length) (h2 : r.s2.length = B.length) (l : List Sg) : Same A B r (g :: l) ↔ Same A B (nextR A B k r g) l := by
  obtain ⟨c, e1, e2⟩ := lcp_spec (r.u ++ (stepW A r.s1 [g]).2) (r.v ++ (stepW B r.s2 [g]).2)
  unfold Same nextR
  rw [end_cons A _ g l h1, end_cons B _ g l h2, ← List.append_assoc, ← List.append_assoc]
  dsimp only
  generalize lcp (r.u ++ (stepW A r.s1 [g]).2) (r.v ++ (stepW B r.s2 [g]).2) = p at e1 e2 ⊢
  rw [e1, e2, List.append_assoc, List.append_assoc]
  exact ⟨fun h => List.append_cancel_left h, fun h => by rw [h]⟩
theorem first_same (l : List Sg) : Same A B (firstR A B) l ↔ turnL A l = turnL B l := by
  show ([] : List Sg) ++ endW A (List.replicate A.length false) l = [] ++ endW B (List.replicate B.length false) l ↔ _
  rw [end_turn, end_turn]
  rfl
theorem pth_row {t : List Sg} {r : Row} (h : Pth (firstR A B) (fun r => sgs k r.op) (nextR A B k) t r) : runK k false t = some r.op ∧ r.s1.length = A.length ∧ r.s2.length = B.length ∧ ∀ m, Same A B (firstR A B) (t ++ m) ↔ Same A B r m := by
  induction h with
  | nil => exact ⟨rfl, List.length_replicate, List.length_replicate, fun m => Iff.rfl⟩
  | @snoc t a g h1 h2 ih =>
    obtain ⟨i1, i2, i3, i4⟩ := ih
    refine ⟨runK_snoc i1 (mem_sgs.mp h2), (next_lens i2 i3).1, (next_lens i2 i3).2, fun m => ?_⟩
    rw [List.append_assoc]
    exact (i4 ([g] ++ m)).trans (same_next i2 i3 m)
theorem pth_text {α : Type} {first : α} {nxt : α → Sg → α} {op : α → Bool} (h0 : op first = false) (hn : ∀ a g, op (nxt a g) = opn k g) : ∀ (n : Nat) (t : List Sg) (b : Bool), t.length = n → runK k false t = some b → ∃ a, Pth first (fun a => sgs k (op a)) nxt t a ∧ op a = b
  | 0, t, b, hl, e => by
    have := List.eq_nil_of_length_eq_zero hl
    subst this
    injection e with e
    exact ⟨first, .nil, by rw [h0, e]⟩
  | n + 1, t, b, hl, e => by
    have hne : t ≠ [] := by
      rintro rfl
      cases hl
    have ht := List.dropLast_concat_getLast hne
    generalize t.dropLast = s at ht
    generalize t.getLast hne = g at ht
    subst ht
    rw [runK_app] at e
    cases q : runK k false s with
    | none => rw [q] at e; cases e
    | some c =>
      rw [q] at e
      have e : (if can k c g then runK k (opn k g) [] else none) = some b := e
      by_cases hc : can k c g = true
      · rw [if_pos hc] at e
        injection e with e
        obtain ⟨a, p, o⟩ := pth_text h0 hn n s c (by rw [List.length_append] at hl; simpa using hl) q
        refine ⟨nxt a g, .snoc p (mem_sgs.mpr (by rw [o]; exact hc)), by rw [hn, e]⟩
      · rw [if_neg hc] at e
        cases e
theorem row_even {t : List Sg} {r : Row} (h : Pth (firstR A B) (fun r => sgs k r.op) (nextR A B k) t r) : turnL A t = turnL B t ↔ evenR A B r = true := by
  have := (pth_row h).2.2.2 []
  rw [List.append_nil, first_same] at this
  rw [this]
  unfold evenR
  rw [decide_eq_true_eq]
  rfl
def AlikeP (A B : List Cv) (k : Kd) : Prop := ∀ t, kindL k t = true → turnL A t = turnL B t
structure PartP (A B : List Cv) (k : Kd) (t : List Sg) : Prop where
  kd : kindL k t = true
  ne : turnL A t ≠ turnL B t
  le : ∀ s, kindL k s = true → turnL A s ≠ turnL B s → t.length ≤ s.length
theorem shut_path {α : Type} {first : α} {sg : α → List Sg} {nxt : α → Sg → α} {fine : α → Bool} {ok : α → Prop} {F : List α} (S : Shut first sg nxt fine ok F) {t : List Sg} {a : α} (h : Pth first sg nxt t a) : a ∈ F := by
  induction h with
  | nil => exact S.one
  | snoc h1 h2 ih => exact S.cl _ ih _ h2
theorem shut_alike {ok : Row → Prop} {F : List Row} (S : Shut (firstR A B) (fun r => sgs k r.op) (nextR A B k) (fun r => r.op || evenR A B r) ok F) : AlikeP A B k := fun t ht => by
  rw [kind_run] at ht
  obtain ⟨a, p, o⟩ := pth_text (k := k) (op := Row.op) (first := firstR A B) (nxt := nextR A B k) rfl (fun _ _ => rfl) t.length t false rfl (of_decide_eq_true ht)
  have := (S.fin a (shut_path S p)).2
  rw [o, Bool.false_or] at this
  exact (row_even p).mpr this
theorem least_part {t : List Sg} (L : Least (firstR A B) (fun r => sgs k r.op) (nextR A B k) (fun r => r.op || evenR A B r) t) : PartP A B k t := by
  obtain ⟨⟨a, p, hf⟩, le⟩ := L
  rw [Bool.or_eq_false_iff] at hf
  refine ⟨?_, fun e => ?_, fun s hs ne => ?_⟩
  · rw [kind_run, (pth_row p).1, hf.1]
    rfl
  · rw [(row_even p).mp e] at hf
    cases hf.2
  · rw [kind_run] at hs
    obtain ⟨b, q, o⟩ := pth_text (k := k) (op := Row.op) (first := firstR A B) (nxt := nextR A B k) rfl (fun _ _ => rfl) s.length s false rfl (of_decide_eq_true hs)
    refine le s b q ?_
    show (b.op || evenR A B b) = false
    rw [o, Bool.false_or]
    cases he : evenR A B b with
    | false => rfl
    | true => exact absurd ((row_even q).mpr he) ne
/-! ### what it means: places -/
theorem bind_runK {k : Kd} (o : Option Bool) (x y : List Sg) : (o.bind fun b => runK k b (x ++ y)) = (o.bind fun b => runK k b x).bind fun c => runK k c y := by
  cases o with
  | none => rfl
  | some b => exact runK_app k x y b
theorem pth_pl {t : List Sg} {p : Pl} (h : Pth (firstL A) (fun p => sgs k p.op) (stepL A k k2) t p) : runK k false t = some p.op ∧ p.st.length = A.length ∧ ∀ m, (some false : Option Bool).bind (fun b => runK k2 b (endW A (List.replicate A.length false) (t ++ m))) = p.out.bind fun b => runK k2 b (endW A p.st m) := by
  induction h with
  | nil => exact ⟨rfl, List.length_replicate, fun m => rfl⟩
  | @snoc t a g h1 h2 ih =>
    obtain ⟨i1, i2, i4⟩ := ih
    refine ⟨runK_snoc i1 (mem_sgs.mp h2), step_len A _ _ i2, fun m => ?_⟩
    rw [List.append_assoc]
    refine (i4 ([g] ++ m)).trans ?_
    rw [List.singleton_append, end_cons A _ g m i2, bind_runK]
    rfl
theorem pl_good {t : List Sg} {p : Pl} (h : Pth (firstL A) (fun p => sgs k p.op) (stepL A k k2) t p) : kindL k2 (turnL A t) = endL A k2 p := by
  have := (pth_pl h).2.2 []
  rw [List.append_nil, end_turn] at this
  rw [kind_run]
  unfold endL
  rw [← this]
  rfl
def LeadP (A : List Cv) (k k2 : Kd) : Prop := ∀ t, kindL k t = true → kindL k2 (turnL A t) = true
structure StrayP (A : List Cv) (k k2 : Kd) (t : List Sg) : Prop where
  kd : kindL k t = true
  ne : kindL k2 (turnL A t) = false
  le : ∀ s, kindL k s = true → kindL k2 (turnL A s) = false → t.length ≤ s.length
theorem shut_lead {ok : Pl → Prop} {F : List Pl} (S : Shut (firstL A) (fun p => sgs k p.op) (stepL A k k2) (fun p => p.op || endL A k2 p) ok F) : LeadP A k k2 := fun t ht => by
  rw [kind_run] at ht
  obtain ⟨a, p, o⟩ := pth_text (k := k) (op := Pl.op) (first := firstL A) (nxt := stepL A k k2) rfl (fun _ _ => rfl) t.length t false rfl (of_decide_eq_true ht)
  have := (S.fin a (shut_path S p)).2
  rw [o, Bool.false_or] at this
  rw [pl_good p, this]
theorem least_stray {t : List Sg} (L : Least (firstL A) (fun p => sgs k p.op) (stepL A k k2) (fun p => p.op || endL A k2 p) t) : StrayP A k k2 t := by
  obtain ⟨⟨a, p, hf⟩, le⟩ := L
  rw [Bool.or_eq_false_iff] at hf
  refine ⟨?_, ?_, fun s hs ne => ?_⟩
  · rw [kind_run, (pth_pl p).1, hf.1]
    rfl
  · rw [pl_good p, hf.2]
  · rw [kind_run] at hs
    obtain ⟨b, q, o⟩ := pth_text (k := k) (op := Pl.op) (first := firstL A) (nxt := stepL A k k2) rfl (fun _ _ => rfl) s.length s false rfl (of_decide_eq_true hs)
    refine le s b q ?_
    show (b.op || endL A k2 b) = false
    rw [o, Bool.false_or, ← pl_good q, ne]
end
end Sx
namespace Sx
open PySem PySem.Spec Rm K04
/-! ### values that stay -/
mutual
def wd : LV → Nat
  | .tup xs => wds xs + 1
  | .vl xs => wds xs + 1
  | .fz xs => wds xs + 1
  | .vd ks vs => max (wds ks) (wds vs) + 1
  | .sd _ xs => wds xs + 1
  | .obj _ xs => wds xs + 1
  | _ => 1
def wds : List LV → Nat
  | [] => 1
  | x :: xs => max (wd x) (wds xs) + 1
end
mutual
theorem deep_pure (h : List LO) : ∀ (v : LV) (n : Nat), v.pure = true → wd v ≤ n → v.deep h n = some v
  | .tup xs, n, p, l => by
    cases n with
    | zero => simp [wd] at l
    | succ n =>
      simp only [LV.deep]
      rw [deeps_pure h xs n (by simpa [LV.pure] using p) (by simp only [wd] at l; omega)]
      rfl
  | .vl xs, n, p, l => by
    cases n with
    | zero => simp [wd] at l
    | succ n =>
      simp only [LV.deep]
      rw [deeps_pure h xs n (by simpa [LV.pure] using p) (by simp only [wd] at l; omega)]
      rfl
  | .fz xs, n, p, l => by
    cases n with
    | zero => simp [wd] at l
    | succ n =>
      simp only [LV.deep]
      rw [deeps_pure h xs n (by simpa [LV.pure] using p) (by simp only [wd] at l; omega)]
      rfl
  | .sd _ xs, n, p, l => by
    cases n with
    | zero => simp [wd] at l
    | succ n =>
      simp only [LV.deep]
      rw [deeps_pure h xs n (by simpa [LV.pure] using p) (by simp only [wd] at l; omega)]
      rfl
  | .obj C xs, n, p, l => by
    cases n with
    | zero => simp [wd] at l
    | succ n =>
      simp only [LV.deep]
      rw [deeps_pure h xs n (by simpa [LV.pure] using p) (by simp only [wd] at l; omega)]
      rfl
  | .vd ks vs, n, p, l => by
    have p' : LV.pures ks = true ∧ LV.pures vs = true := by simpa [LV.pure] using p
    cases n with
    | zero => simp [wd] at l
    | succ n =>
      simp only [LV.deep]
      rw [deeps_pure h ks n p'.1 (by simp only [wd] at l; omega), deeps_pure h vs n p'.2 (by simp only [wd] at l; omega)]
  | .ref _, n, p, l => by simp [LV.pure] at p
  | .non, n, p, l => by
    cases n with
    | zero => simp [wd] at l
    | succ n => rfl
  | .bl _, n, p, l => by
    cases n with
    | zero => simp [wd] at l
    | succ n => rfl
  | .int _, n, p, l => by
    cases n with
    | zero => simp [wd] at l
    | succ n => rfl
  | .str _, n, p, l => by
    cases n with
    | zero => simp [wd] at l
    | succ n => rfl
theorem deeps_pure (h : List LO) : ∀ (v : List LV) (n : Nat), LV.pures v = true → wds v ≤ n → LV.deeps h n v = some v
  | [], n, p, l => by
    cases n with
    | zero => simp [wds] at l
    | succ n => rfl
  | x :: xs, n, p, l => by
    have p' : x.pure = true ∧ LV.pures xs = true := by simpa [LV.pures] using p
    cases n with
    | zero => simp [wds] at l
    | succ n =>
      simp only [LV.deeps]
      rw [deep_pure h x n p'.1 (by simp only [wds] at l; omega), deeps_pure h xs n p'.2 (by simp only [wds] at l; omega)]
end
theorem wds_le {c : Nat} : ∀ xs : List LV, (∀ x ∈ xs, wd x ≤ c) → wds xs ≤ xs.length + c + 1
  | [], _ => by simp [wds]
  | x :: xs, h => by
    have h1 := h x List.mem_cons_self
    have h2 := wds_le xs fun y hy => h y (List.mem_cons_of_mem _ hy)
    simp only [wds, List.length_cons]
    omega
theorem wd_wL (A : List Cv) : wd (wL A) ≤ A.length + 3 := by
  have := wds_le (c := 1) (A.map cL) fun x hx => by
    obtain ⟨c, _, rfl⟩ := List.mem_map.mp hx
    exact Nat.le_refl _
  rw [List.length_map] at this
  simp only [wd]
  omega
theorem wd_bL (A : List Bool) : wd (bL A) ≤ A.length + 3 := by
  have := wds_le (c := 1) (A.map .bl) fun x hx => by
    obtain ⟨c, _, rfl⟩ := List.mem_map.mp hx
    exact Nat.le_refl _
  rw [List.length_map] at this
  simp only [wd]
  omega
theorem wd_rowL (r : Row) : wd (rowL r) ≤ r.s1.length + r.s2.length + 20 := by
  have h1 := wd_bL r.s1
  have h2 := wd_bL r.s2
  simp only [rowL, wd, wds] at h1 h2 ⊢
  omega
theorem wd_plL (p : Pl) : wd (plL p) ≤ p.st.length + 20 := by
  have h1 := wd_bL p.st
  have h2 : wd (oL p.out) = 1 := by cases p.out <;> rfl
  simp only [plL, wd, wds] at h1 ⊢
  omega
section
variable {ρ ρ1 : Rho} {h h1 h2 : List LO} {v w : LV} {vs : List LV} {ma mb mc : ME} {mA : MA}
theorem ev_make {C k n : Nat} {f : MF} {xs : List LV} (e : mA ρ h = .ok vs h1) (ef : f (.ref 0 :: vs) [.ins C k []] = .ok .non [.ins C k xs]) (hn : vs.length + 1 = n) (hp : LV.pures vs = true) (hk : xs.length = k) (px : LV.pures xs = true) (hd : wds xs ≤ 99999) : mMake C k n f mA ρ h = .ok (.obj C xs) h1 := by
  unfold mMake
  rw [e]
  show (if vs.length + 1 = n ∧ LV.pures vs = true then _ else _) = _
  rw [if_pos ⟨hn, hp⟩, ef]
  have : LV.deep [LO.ins C k xs] 100000 (.ref 0) = some (.obj C xs) := by
    show (if xs.length = k then (LV.deeps [LO.ins C k xs] 99999 xs).map (LV.obj C) else none) = _
    rw [if_pos hk, deeps_pure _ xs 99999 px hd]
    rfl
  show (match LV.deep [LO.ins C k xs] 100000 (.ref 0) with | some w => R.ok w h1 | none => .bad) = _
  rw [this]
theorem ev_chain {a b c : Int} (e1 : ma ρ h = .ok (.int a) h) (e2 : mb ρ h = .ok (.int b) h) (e3 : mc ρ h = .ok (.int c) h) : mChain (fEq false) (fEq false) ma mb mc ρ h = .ok (.bl (decide (a = b) && decide (b = c))) h := by
  unfold mChain
  rw [e1]
  show (mb ρ h).bind _ = _
  rw [e2]
  show (if decide (a = b) = true then (mc ρ h).bind _ else R.ok (LV.bl false) h) = _
  by_cases q : a = b
  · rw [decide_eq_true q, if_pos rfl, e3]
    rfl
  · rw [decide_eq_false q]
    rfl
end
/-! ### checks -/
theorem c_conv (c : Cv) : cal m_is_conversion [cL c] = some (.bl true) := by cases c <;> rfl
theorem all_true {α : Type} (f : α → LV) (hf : ∀ x, f x = .bl true) (xs : List α) (h : List LO) : fAll [.vl (xs.map f)] h = .ok (.bl true) h := by
  have e : xs.map f = (xs.map fun _ => true).map LV.bl := by
    rw [List.map_map]
    exact List.map_congr_left fun x _ => hf x
  simp only [fAll, LV.lsf, LV.lst]
  rw [e, asBls_map]
  simp
theorem c_isway (A : List Cv) (hA : A.length ≤ 100) : cal m_is_way [wL A] = some (.bl (decide (A.length ≤ 6))) := by
  refine cal_of (h1 := []) (v := .bl (decide (A.length ≤ 6))) (fn_rt (ev_ret ?_)) rfl
  have e : mAndV (mOp (fCmp fun i j => decide (i ≤ j)) (mCB fLen (mCons (mVar 0) mNil)) (mC (.int 6))) (mCB fAll (mCons (mLc (mAnyI (mVar 0)) (mName 1) mYes (mCall 1 m_is_conversion (mCons (mVar 1) mNil)) [1]) mNil)) [some (wL A), none] [] = .ok (.bl (decide (A.length ≤ 6) && true)) [] :=
    ev_andV (c := decide (A.length ≤ 6)) (d := true) (ev_op (h1 := []) (h2 := []) (v := .int A.length) (w := .int 6) (ev_cb (ev_cons rfl rfl) (by
      show R.ok (LV.int (A.map cL).length) [] = _
      rw [List.length_map])) rfl (by
      show R.ok (LV.bl (decide ((A.length : Int) ≤ (6 : Int)))) [] = _
      congr 3
      simp only [eq_iff_iff]
      omega)) fun _ => ev_cb (ev_cons (ev_lc (ev_anyT (xs := A.map cL) rfl) (by rw [List.length_map]; omega) (lcL_map cL (fun _ => .bl true) A [] fun c _ => ⟨_, rfl, ev_call (ev_cons rfl rfl) (c_conv c) rfl rfl⟩)) rfl) (all_true _ (fun _ => rfl) A [])
  rw [Bool.and_true] at e
  exact ev_andV (c := true) rfl fun _ => e
theorem c_ckway (A : List Cv) (hA : A.length ≤ 6) : cal m_check_way [wL A] = some .non := by
  refine cal_of (h1 := []) (v := .non) (fn_nx (ρ1 := [some (wL A)]) (ev_ifF (ev_not (c := true) (ev_truB (ev_call (ev_cons rfl rfl) ((c_isway A (by omega)).trans (by rw [decide_eq_true hA])) rfl (pures_cons (pure_wL A) rfl)))) rfl)) rfl
theorem c_ckkind (k : Kd) : cal m_check_kind [.str k.cs] = some .non := by cases k <;> rfl
theorem c_istext (t : List Sg) (hl : t.length < 60000) : cal m_is_text [sL t] = some (.bl true) := by
  refine cal_of (h1 := []) (v := .bl true) (fn_rt (ev_ret (ev_andV (c := true) (d := true) rfl fun _ => ev_cb (ev_cons (ev_lc (ev_any (t := t) rfl) (by rw [List.length_map]; omega) (lcL_map gL (fun _ => .bl true) t [] fun g _ => ⟨_, rfl, ?_⟩)) rfl) (all_true _ (fun _ => rfl) t [])))) rfl
  cases g <;> rfl
theorem mem_c (g : Sg) (t : List Sg) : g.c ∈ t.map Sg.c ↔ g ∈ t := by
  constructor
  · intro h
    obtain ⟨x, hx, e⟩ := List.mem_map.mp h
    rw [← c_inj.mp e]
    exact hx
  · exact List.mem_map_of_mem
theorem notin_sL (g : Sg) (t : List Sg) (h : List LO) : fInY true (gL g) (sL t) h = .ok (.bl (decide (g ∉ t))) h := by
  show R.ok (LV.bl (!decide (g.c ∈ t.map Sg.c))) h = _
  rw [decide_eq_decide.mpr (mem_c g t), decide_not]
theorem c_fits (t : List Sg) (k : Kd) : cal m_fits [sL t, .str k.cs] = some (.bl (kindL k t)) := by
  cases k with
  | any => rfl
  | bare => exact cal_of (h1 := []) (fn_rt (ev_rt (ev_ifT (ev_b (ev_op rfl rfl rfl)) (ev_ret (ev_op (v := gL .r) rfl rfl (notin_sL .r t [])))))) rfl
  | lone => exact cal_of (h1 := []) (fn_rt (ev_seq (ev_ifF (ev_b (ev_op rfl rfl rfl)) rfl) (ev_rt (ev_ifT (ev_b (ev_op rfl rfl rfl)) (ev_ret (ev_op (v := gL .n) rfl rfl (notin_sL .n t []))))))) rfl
  | paired =>
    have e1 : mM1 fCount (mVar 0) (mC (.str [114])) [some (sL t), some (.str Kd.paired.cs)] [] = .ok (.int (t.count .r)) [] := by
      rw [← count_r t]
      rfl
    have e2 : mM1 fCount (mVar 0) (mC (.str [110])) [some (sL t), some (.str Kd.paired.cs)] [] = .ok (.int (t.count .n)) [] := by
      rw [← count_n t]
      rfl
    have e3 : mM1 fCount (mVar 0) (mC (.str [114, 110])) [some (sL t), some (.str Kd.paired.cs)] [] = .ok (.int (prN t)) [] := by
      rw [← count_rn t]
      rfl
    refine cal_of (h1 := []) (fn_rt (ev_seq (ev_ifF (ev_b (ev_op rfl rfl rfl)) rfl) (ev_seq (ev_ifF (ev_b (ev_op rfl rfl rfl)) rfl) (ev_rt (ev_ifT (ev_b (ev_op rfl rfl rfl)) (ev_ret (ev_chain e1 e2 e3))))))) ?_
    rw [paired_count]
    rw [decide_eq_decide.mpr (show ((t.count .r : Nat) : Int) = (t.count .n : Nat) ↔ t.count .r = t.count .n by omega), decide_eq_decide.mpr (show ((t.count .n : Nat) : Int) = (prN t : Nat) ↔ t.count .n = prN t by omega)]
    rfl
theorem c_check (A B : List Cv) (k : Kd) (hA : A.length ≤ 6) (hB : B.length ≤ 6) : cal m__check_comparing [wL A, wL B, .str k.cs] = some .non :=
  cal_of (h1 := []) (v := .non) (fn_nx (ρ1 := [some (wL A), some (wL B), some (.str k.cs)]) (ev_seq (ev_drop (ev_call (ev_cons rfl rfl) (c_ckway A hA) rfl (pures_cons (pure_wL A) rfl))) (ev_seq (ev_drop (ev_call (ev_cons rfl rfl) (c_ckway B hB) rfl (pures_cons (pure_wL B) rfl))) (ev_drop (ev_call (ev_cons rfl rfl) (c_ckkind k) rfl rfl))))) rfl
end Sx
namespace Sx
open PySem PySem.Spec Rm K04
/-! ### two ways: what is told of them -/
theorem pow_sum {a b n : Nat} (h : a + b ≤ n) : 2 ^ a * 2 ^ b ≤ 2 ^ n := by
  rw [← Nat.pow_add]
  exact Nat.pow_le_pow_right (by decide) h
abbrev partedO (t : List Sg) : LV := .obj 2 [sL t]
abbrev alikeO (xs : List LV) : LV := .obj 1 [.vl xs]
theorem ev_isnon {ρ : Rho} {h h1 : List LO} {v : LV} {ma : ME} (e : ma ρ h = .ok v h1) (hv : v ≠ .non) : mB (mOp (fIsN false) ma (mC .non)) ρ h = .ok false h1 := by
  refine ev_b (ev_op e rfl ?_)
  cases v <;> first | rfl | exact absurd rfl hv
theorem ev_isi {ρ : Rho} {h h1 : List LO} {v : LV} {ma : ME} {tb : List LO → LV → Option Bool} {b : Bool} (e : ma ρ h = .ok v h1) (t : tb h1 v = some b) : mIsi tb ma ρ h = .ok (.bl b) h1 := by
  unfold mIsi
  rw [e]
  show (match tb h1 v with | some b => R.ok (LV.bl b) h1 | none => .bad) = _
  rw [t]
noncomputable def alk (A B : List Cv) (k : Kd) : Bool := @decide (AlikeP A B k) (Classical.propDecidable _)
theorem alk_t {A B : List Cv} {k : Kd} (h : AlikeP A B k) : alk A B k = true := @decide_eq_true _ (Classical.propDecidable _) h
theorem alk_f {A B : List Cv} {k : Kd} (h : ¬ AlikeP A B k) : alk A B k = false := @decide_eq_false _ (Classical.propDecidable _) h
theorem alk_of {A B : List Cv} {k : Kd} (h : alk A B k = true) : AlikeP A B k := @of_decide_eq_true _ (Classical.propDecidable _) h
theorem PartP.not {A B : List Cv} {k : Kd} {t : List Sg} (h : PartP A B k t) : ¬ AlikeP A B k := fun z => h.ne (z t h.kd)
def IsFp (A B : List Cv) (k : Kd) : Option Nat → Prop
  | none => AlikeP A B k
  | some n => ∃ t, PartP A B k t ∧ t.length = n
def oN : Option Nat → LV
  | none => .non
  | some n => .int (n : Int)
theorem fp_uniq {A B : List Cv} {k : Kd} : ∀ {o o' : Option Nat}, IsFp A B k o → IsFp A B k o' → o = o'
  | none, none, _, _ => rfl
  | none, some n, h, ⟨t, P, _⟩ => absurd h P.not
  | some n, none, ⟨t, P, _⟩, h => absurd h P.not
  | some n, some m, ⟨t, P, e⟩, ⟨s, Q, e'⟩ => by
    have h1 := P.le s Q.kd Q.ne
    have h2 := Q.le t P.kd P.ne
    rw [← e, ← e', Nat.le_antisymm h1 h2]
theorem fp_symm {A B : List Cv} {k : Kd} : ∀ {o : Option Nat}, IsFp A B k o → IsFp B A k o
  | none, h => fun t ht => (h t ht).symm
  | some n, ⟨t, P, e⟩ => ⟨t, ⟨P.kd, fun z => P.ne z.symm, fun s hs hn => P.le s hs fun z => hn z.symm⟩, e⟩
theorem c_parting {A B : List Cv} {k : Kd} (t : List Sg) (hA : A.length ≤ 100) (hB : B.length ≤ 100) (h1 : 2 ^ A.length * t.length ≤ 2500) (h2 : 2 ^ B.length * t.length ≤ 2500) : cal m_is_parting [wL A, wL B, .str k.cs, sL t] = some (.bl (kindL k t && decide (turnL A t ≠ turnL B t))) := by
  have hp : 1 ≤ 2 ^ A.length := Nat.one_le_two_pow
  have ht : t.length ≤ 2500 := Nat.le_trans (Nat.le_mul_of_pos_left _ (by omega)) h1
  exact cal_of (h1 := []) (fn_rt (ev_ret (ev_andV (c := true) (ev_call (ev_cons rfl rfl) (c_istext t (by omega)) rfl rfl) fun _ => ev_andV (ev_call (ev_cons rfl (ev_cons rfl rfl)) (c_fits t k) rfl rfl) fun _ => ev_op (ev_call (ev_cons rfl (ev_cons rfl rfl)) (c_turn A t h1 hA) rfl (pures_cons (pure_wL A) rfl)) (ev_call (ev_cons rfl (ev_cons rfl rfl)) (c_turn B t h2 hB) rfl (pures_cons (pure_wL B) rfl)) (ne_sL _ _ _)))) rfl
theorem c_pshows {A B : List Cv} {k : Kd} (t : List Sg) (hA : A.length ≤ 6) (hB : B.length ≤ 6) (h1 : 2 ^ A.length * t.length ≤ 2500) (h2 : 2 ^ B.length * t.length ≤ 2500) : cal m_Parted_shows [partedO t, wL A, wL B, .str k.cs] = some (.bl (kindL k t && decide (turnL A t ≠ turnL B t))) :=
  cal_of (h1 := []) (fn_rt (ev_seq (ev_drop (ev_call (ev_cons rfl (ev_cons rfl (ev_cons rfl rfl))) (c_check A B k hA hB) rfl (pures_cons (pure_wL A) (pures_cons (pure_wL B) rfl)))) (ev_ret (ev_call (ev_cons rfl (ev_cons rfl (ev_cons rfl (ev_cons rfl rfl)))) (c_parting t (by omega) (by omega) h1 h2) rfl (pures_cons (pure_wL A) (pures_cons (pure_wL B) rfl)))))) rfl
/-! ### a way and two kinds -/
noncomputable def ledk (A : List Cv) (k k2 : Kd) : Bool := @decide (LeadP A k k2) (Classical.propDecidable _)
theorem ledk_t {A : List Cv} {k k2 : Kd} (h : LeadP A k k2) : ledk A k k2 = true := @decide_eq_true _ (Classical.propDecidable _) h
theorem ledk_f {A : List Cv} {k k2 : Kd} (h : ¬ LeadP A k k2) : ledk A k k2 = false := @decide_eq_false _ (Classical.propDecidable _) h
theorem ledk_of {A : List Cv} {k k2 : Kd} (h : ledk A k k2 = true) : LeadP A k k2 := @of_decide_eq_true _ (Classical.propDecidable _) h
theorem StrayP.not {A : List Cv} {k k2 : Kd} {t : List Sg} (h : StrayP A k k2 t) : ¬ LeadP A k k2 := fun z => by
  have := z t h.kd
  rw [h.ne] at this
  cases this
end Sx
namespace Sx
open PySem PySem.Spec Rm K04
/-! ### rounds -/
def rnd (A : List Cv) (n : Nat) : List Cv := (List.replicate n A).flatten
theorem rnd_len (A : List Cv) (n : Nat) : (rnd A n).length = n * A.length := by simp [rnd]
theorem rnd_succ (A : List Cv) (n : Nat) : rnd A (n + 1) = rnd A n ++ A := by
  unfold rnd
  rw [List.replicate_succ', List.flatten_append]
  simp
theorem turn_app : ∀ (A B : List Cv) (l : List Sg), turnL (A ++ B) l = turnL B (turnL A l)
  | [], B, l => rfl
  | c :: A, B, l => turn_app A B (by1 c l)
theorem turn_rnd (A : List Cv) (n : Nat) (l : List Sg) : turnL (rnd A (n + 1)) l = turnL A (turnL (rnd A n) l) := by rw [rnd_succ, turn_app]
theorem mul_wL {A : List Cv} (n : Nat) (h : List LO) (hA : A.length ≤ 1000) (hn : n ≤ 1000) : fMul (wL A) (.int (n : Int)) h = .ok (wL (rnd A n)) h := by
  show (if 0 ≤ (n : Int) ∧ (n : Int) ≤ 1000 ∧ (A.map cL).length ≤ 1000 then R.ok (LV.tup (List.replicate ((n : Int)).toNat (A.map cL)).flatten) h else R.bad) = _
  rw [if_pos ⟨by omega, by omega, by rw [List.length_map]; exact hA⟩, Int.toNat_natCast]
  unfold rnd wL
  rw [List.map_flatten, List.map_replicate]
theorem ev_rng {g : MG} {mb : MS} {n i fuel : Nat} {ρ ρ1 ρ2 : Rho} {h h1 h2 : List LO} {r : R (Fl × Rho)} (hi : i < n) (e1 : g (.int ((0 : Int) + (i : Int))) ρ h = .ok ρ1 h1) (e2 : mb ρ1 h1 = .ok (.nx, ρ2) h2) (e3 : Rm.forM (.rng 0 n) g mb fuel (i + 1) ρ2 h2 = r) : Rm.forM (.rng 0 n) g mb (fuel + 1) i ρ h = r := by
  have e : Itr.at (.rng 0 n) i h = some (some (.int ((0 : Int) + (i : Int)))) := by simp only [Itr.at, hi, if_true]
  simp only [Rm.forM, e, e1, R.bind, e2]
  exact e3
theorem ev_rngR {g : MG} {mb : MS} {n i fuel : Nat} {ρ ρ1 ρ2 : Rho} {h h1 h2 : List LO} {v : LV} (hi : i < n) (e1 : g (.int ((0 : Int) + (i : Int))) ρ h = .ok ρ1 h1) (e2 : mb ρ1 h1 = .ok (.rt v, ρ2) h2) : Rm.forM (.rng 0 n) g mb (fuel + 1) i ρ h = .ok (.rt v, ρ2) h2 := by
  have e : Itr.at (.rng 0 n) i h = some (some (.int ((0 : Int) + (i : Int)))) := by simp only [Itr.at, hi, if_true]
  simp only [Rm.forM, e, e1, R.bind, e2]
theorem ev_rngE {g : MG} {mb : MS} {n i fuel : Nat} {ρ : Rho} {h : List LO} (hi : ¬ i < n) : Rm.forM (.rng 0 n) g mb (fuel + 1) i ρ h = .ok (.nx, ρ) h := by
  have e : Itr.at (.rng 0 n) i h = some none := by simp only [Itr.at, hi, if_false]
  simp only [Rm.forM, e]
theorem ev_forR {mA : MA} {g : MG} {mb : MS} {n : Nat} {ρ : Rho} {h h1 : List LO} {r : R (Fl × Rho)} (e : mA ρ h = .ok [.int (n : Int)] h1) (hn : n ≤ 1000000) (e2 : Rm.forM (.rng 0 n) g mb 60000 0 ρ h1 = r) : mFor (mRng1 mA) g mb ρ h = r := by
  unfold mFor mRng1
  rw [e]
  show ((if -1000000 ≤ (n : Int) ∧ (n : Int) ≤ 1000000 then R.ok (Itr.rng 0 ((n : Int)).toNat) h1 else R.bad).bind _) = _
  rw [if_pos (by omega), Int.toNat_natCast]
  exact e2
def Parts (A : List Cv) (k : Kd) (ts : List (List Sg)) : Prop := ∀ (j : Nat) t, ts[j]? = some t → PartP (rnd A j) (rnd A (j + 1)) k t ∧ t.length ≤ 20000
theorem ev_makeS {C k n : Nat} {f : MF} {mA : MA} {ρ : Rho} {h h1 h2 : List LO} {vs : List LV} (e : mA ρ h = .ok vs h1) (ef : f (.ref h1.length :: vs) (h1 ++ [.ins C k []]) = .ok .non h2) (hn : vs.length + 1 = n) : mMakeS C k n f mA ρ h = .ok (.ref h1.length) h2 := by
  unfold mMakeS
  rw [e]
  show (if vs.length + 1 = n then _ else _) = _
  rw [if_pos hn, ef]
theorem wds_sL (ts : List (List Sg)) : wds (ts.map sL) ≤ ts.length + 2 := by
  have := wds_le (c := 1) (ts.map sL) fun x hx => by
    obtain ⟨t, _, rfl⟩ := List.mem_map.mp hx
    exact Nat.le_refl _
  rw [List.length_map] at this
  exact this
def rdB : MS := (mSeq (mAsg (mCall 2 m_turn (mCons (mVar 0) (mCons (mVar 1) mNil))) (mName 1)) (mDrop (mApp (mVar 3) (mVar 1))))
def rdL (A : List Cv) (t : List Sg) (n : Nat) : List (List Sg) := (List.range n).map fun i => turnL (rnd A (i + 1)) t
theorem rd_loop {A : List Cv} {t : List Sg} {n : Nat} (hA : A.length ≤ 6) (hn : n ≤ 9) (hs : 2 ^ (n * A.length) * t.length ≤ 2500) : ∀ (m i fuel : Nat) (x4 : Option LV), i + m = n → m < fuel →
    ∃ ρ', Rm.forM (.rng 0 n) (mName 4) rdB fuel i [some (wL A), some (sL (turnL (rnd A i) t)), some (.int n), some (.ref 0), x4] [.lst ((rdL A t i).map sL)] = .ok (.nx, ρ') [.lst ((rdL A t n).map sL)] ∧ ρ'[3]? = some (some (.ref 0))
  | 0, i, fuel, x4, hm, hf => by
    obtain ⟨fuel, rfl⟩ : ∃ f, fuel = f + 1 := ⟨fuel - 1, by omega⟩
    obtain rfl : i = n := by omega
    exact ⟨_, ev_rngE (by omega), rfl⟩
  | m + 1, i, fuel, x4, hm, hf => by
    obtain ⟨fuel, rfl⟩ : ∃ f, fuel = f + 1 := ⟨fuel - 1, by omega⟩
    obtain ⟨ρ', ih, i2⟩ := rd_loop hA hn hs m (i + 1) fuel (some (.int ((0 : Int) + (i : Int)))) (by omega) (by omega)
    refine ⟨ρ', ?_, i2⟩
    have hlen := turn_len (rnd A i) t
    have hb : 2 ^ A.length * (turnL (rnd A i) t).length ≤ 2500 := by
      refine Nat.le_trans (Nat.mul_le_mul_left _ hlen) (Nat.le_trans ?_ hs)
      rw [rnd_len, ← Nat.mul_assoc, ← Nat.pow_add]
      refine Nat.mul_le_mul_right _ (Nat.pow_le_pow_right (by decide) ?_)
      have : (i + 1) * A.length ≤ n * A.length := Nat.mul_le_mul_right _ (by omega)
      rw [Nat.succ_mul] at this
      omega
    have hr : rdL A t (i + 1) = rdL A t i ++ [turnL (rnd A (i + 1)) t] := by
      unfold rdL
      rw [List.range_succ, List.map_append]
      rfl
    rw [hr, turn_rnd, List.map_append] at ih
    refine ev_rng (by omega) rfl (ev_seq (ev_asg (ev_call (ev_cons rfl (ev_cons rfl rfl)) (c_turn A _ hb (by omega)) rfl (pures_cons (pure_wL A) rfl)) rfl) (ev_drop (ev_app rfl rfl rfl rfl ?_))) ih
    simp only [rdL, List.length_map, List.length_range]
    omega
end Sx
namespace Sx
open PySem PySem.Spec Rm K04
/-! ### standings -/
def okS (A : List Cv) (s : List Bool) : Bool := (A.zip s).all fun p => !(p.2 && plain p.1)
theorem zip_enc : ∀ (A : List Cv) (s : List Bool), zipL (A.map cL) (s.map .bl) = (A.zip s).map fun p => LV.tup [cL p.1, .bl p.2]
  | [], s => by cases s <;> rfl
  | c :: A, [] => rfl
  | c :: A, b :: s => by
    simp only [List.map_cons, zipL, List.zip_cons_cons, zip_enc A s]
theorem plain_in (c : Cv) (ρ : Rho) (h : List LO) (e : ρ[2]? = some (some (cL c))) : mInK kt__PLAIN (mVar 2) ρ h = .ok (.bl (plain c)) h := by
  unfold mInK mVar
  rw [e]
  cases c <;> rfl
theorem all_bls {α : Type} (p : α → Bool) (xs : List α) (h : List LO) : fAll [.vl (xs.map fun x => LV.bl (p x))] h = .ok (.bl (xs.all p)) h := by
  have e : xs.map (fun x => LV.bl (p x)) = (xs.map p).map LV.bl := by rw [List.map_map]; rfl
  simp only [fAll, LV.lsf, LV.lst]
  rw [e, asBls_map]
  simp
theorem c_isst {A : List Cv} {s : List Bool} (hl : s.length = A.length) (hA : A.length ≤ 100) : cal m_is_standing [wL A, bL s] = some (.bl (okS A s)) := by
  have e1 : mB (mOp (fEq true) (mCB fLen (mCons (mVar 1) mNil)) (mCB fLen (mCons (mVar 0) mNil))) [some (wL A), some (bL s), none, none] [] = .ok false [] := by
    have l1 : fLen [bL s] [] = .ok (.int s.length) [] := by
      show R.ok (LV.int (s.map LV.bl).length) [] = _
      rw [List.length_map]
    have l2 : fLen [wL A] [] = .ok (.int A.length) [] := by
      show R.ok (LV.int (A.map cL).length) [] = _
      rw [List.length_map]
    refine ev_b (ev_op (ev_cb (ev_cons rfl rfl) l1) (ev_cb (ev_cons rfl rfl) l2) ?_)
    show R.ok (LV.bl (!decide ((s.length : Int) = (A.length : Int)))) [] = _
    rw [decide_eq_true (by omega)]
    rfl
  refine cal_of (h1 := []) (fn_rt (ev_seq (ev_ifF (ev_or (c := false) (d := false) (ev_not (c := true) (ev_truB rfl)) fun _ => e1) rfl) (ev_ret (ev_cb (ev_cons (ev_lc (ev_zip (xs := A.map cL) (ys := s.map .bl) rfl) ?_ ?_) rfl) (all_bls (fun p : Cv × Bool => !(p.2 && plain p.1)) (A.zip s) []))))) rfl
  · have := zipL_len (A.map cL) (s.map .bl)
    rw [List.length_map] at this
    omega
  · rw [zip_enc]
    refine lcL_map (fun p : Cv × Bool => LV.tup [cL p.1, .bl p.2]) (fun p => LV.bl (!(p.2 && plain p.1))) (A.zip s) [] fun p _ => ⟨_, rfl, ?_⟩
    exact ev_andV (c := true) (d := !(p.2 && plain p.1)) rfl fun _ => ev_notV (ev_andV (c := p.2) (d := plain p.1) rfl fun _ => plain_in p.1 _ _ rfl)
theorem many_plain {c : Cv} (hc : plain c = true) : ∀ t : List Sg, (many c false t).1 = false
  | [] => rfl
  | s :: t => by
    have h2 : (one c false s).1 = false := by cases c <;> first | rfl | cases hc
    simp only [many]
    rw [h2]
    exact many_plain hc t
theorem okS_step : ∀ (A : List Cv) (s : List Bool) (t : List Sg), okS A s = true → okS A (stepW A s t).1 = true
  | [], s, t, h => by simp [okS]
  | c :: A, [], t, h => by simp [okS, stepW]
  | c :: A, b :: s, t, h => by
    simp only [okS, List.zip_cons_cons, List.all_cons, Bool.and_eq_true, stepW] at h ⊢
    refine ⟨?_, okS_step A s _ h.2⟩
    cases hc : plain c with
    | false => simp
    | true =>
      have hb : b = false := by
        have := h.1
        rw [hc] at this
        simpa using this
      subst hb
      rw [many_plain hc]
      rfl
theorem okS_first (A : List Cv) : okS A (List.replicate A.length false) = true := by
  unfold okS
  rw [List.all_eq_true]
  intro p hp
  have := (List.of_mem_zip hp).2
  rw [(List.mem_replicate.mp this).2]
  rfl
/-! ### all standings -/
theorem key_bL (a b : List Bool) : keqL (bL a) (bL b) = decide (a = b) := keqs_bl a b
theorem fit_bL (a : List Bool) : kfit (bL a) 8 = true := kfits_bl 7 a
theorem wlkB : Wlk (fun _ h => .ok (bL []) h) (fun _ h => .ok (.bl true) h) (fun _ h => .ok (.tup []) h) (fun _ h => .ok (bL []) h) (.non) bL (fun _ => True) [] (fun _ => []) (fun _ _ => []) (fun _ => true) where
  f1 _ _ _ := rfl
  ff _ _ _ _ _ _ := rfl
  fs _ _ _ _ _ _ := rfl
  fb _ _ _ _ _ _ _ _ := rfl
  tup a := ⟨_, rfl⟩
  fit := fit_bL
  inj := key_bL
  pure := pure_bL
def nxtS (A : List Cv) (s : List Bool) (g : Sg) : List Bool := (stepW A s [g]).1
def goA (A : List Cv) (s : List Bool) : List Sg → List (List Bool) → List (List Bool) → List (List Bool) × List (List Bool)
  | [], F, W => (F, W)
  | g :: gs, F, W => if nxtS A s g ∈ F then goA A s gs F W else goA A s gs (F ++ [nxtS A s g]) (W ++ [nxtS A s g])
theorem goA_spec (A : List Cv) (s : List Bool) : ∀ (gs : List Sg) (F W : List (List Bool)), ∃ N : List (List Bool), goA A s gs F W = (F ++ N, W ++ N) ∧ N.Nodup ∧ (∀ p ∈ N, p ∉ F ∧ ∃ g ∈ gs, p = nxtS A s g) ∧ ∀ g ∈ gs, nxtS A s g ∈ F ++ N
  | [], F, W => ⟨[], by simp [goA], List.nodup_nil, fun _ h => (nomatch h), fun _ h => (nomatch h)⟩
  | g :: gs, F, W => by
    by_cases c : nxtS A s g ∈ F
    · obtain ⟨N, e, h2, h3, h4⟩ := goA_spec A s gs F W
      refine ⟨N, by rw [goA, if_pos c, e], h2, fun p hp => ?_, fun q hq => ?_⟩
      · obtain ⟨x, q, y, z⟩ := h3 p hp
        exact ⟨x, q, List.mem_cons_of_mem _ y, z⟩
      · rcases List.mem_cons.mp hq with e2 | e2
        · rw [e2]; exact List.mem_append_left _ c
        · exact h4 q e2
    · obtain ⟨N, e, h2, h3, h4⟩ := goA_spec A s gs (F ++ [nxtS A s g]) (W ++ [nxtS A s g])
      refine ⟨nxtS A s g :: N, by rw [goA, if_neg c, e]; simp, ?_, fun p hp => ?_, fun q hq => ?_⟩
      · rw [List.nodup_cons]
        exact ⟨fun hm => (h3 _ hm).1 (List.mem_append_right _ List.mem_cons_self), h2⟩
      · rcases List.mem_cons.mp hp with e2 | e2
        · subst e2; exact ⟨c, g, List.mem_cons_self, rfl⟩
        · obtain ⟨x, q, y, z⟩ := h3 p e2
          exact ⟨fun hm => x (List.mem_append_left _ hm), q, List.mem_cons_of_mem _ y, z⟩
      · rcases List.mem_cons.mp hq with e2 | e2
        · rw [e2]; exact List.mem_append_right _ List.mem_cons_self
        · have := h4 q e2
          rw [List.append_assoc] at this
          exact this
def asI : MS := (mSeq (mAsg (mCall 3 m_step (mCons (mVar 0) (mCons (mVar 4) (mCons (mVar 5) mNil)))) (mGTup 2 (mGCons (mName 6) (mGCons (mName 7) mGNil)))) (mIfS (mB (mOp (fInY true) (mVar 6) (mVar 2))) (mSeq (mAsg (mC (.bl true)) (mGSub fSetX (mVar 2) (mVar 6))) (mDrop (mApp (mVar 3) (mVar 6)))) mNext))
theorem as_in {A : List Cv} {s : List Bool} {x1 : Option LV} (hA : A.length ≤ 6) (hs : s.length = A.length) : ∀ (gs : List Sg) (F W : List (List Bool)) (x5 x6 x7 : Option LV), F.length + gs.length < 1000 → W.length + gs.length < 1000 →
    ∃ y5 y6 y7, runL (mName 5) asI (gs.map gL) [some (wL A), x1, some (.ref 0), some (.ref 1), some (bL s), x5, x6, x7] [dicO bL F, .lst (W.map bL)] = .ok (.nx, [some (wL A), x1, some (.ref 0), some (.ref 1), some (bL s), y5, y6, y7]) [dicO bL (goA A s gs F W).1, .lst ((goA A s gs F W).2.map bL)]
  | [], F, W, x5, x6, x7, l1, l2 => ⟨x5, x6, x7, rfl⟩
  | g :: gs, F, W, x5, x6, x7, l1, l2 => by
    simp only [List.length_cons] at l1 l2
    have p1 := pow12 (show A.length ≤ 12 by omega)
    have est : mAsg (mCall 3 m_step (mCons (mVar 0) (mCons (mVar 4) (mCons (mVar 5) mNil)))) (mGTup 2 (mGCons (mName 6) (mGCons (mName 7) mGNil))) [some (wL A), x1, some (.ref 0), some (.ref 1), some (bL s), some (gL g), x6, x7] [dicO bL F, .lst (W.map bL)] = .ok (.nx, [some (wL A), x1, some (.ref 0), some (.ref 1), some (bL s), some (gL g), some (bL (nxtS A s g)), some (sL (stepW A s [g]).2)]) [dicO bL F, .lst (W.map bL)] :=
      ev_asg (ev_call (ev_cons rfl (ev_cons rfl (ev_cons rfl rfl))) (c_step A s [g] hs (by simp only [List.length_singleton]; omega) (by omega)) rfl (pures_cons (pure_wL A) (pures_cons (pure_bL s) rfl))) rfl
    have eni : ∀ b, fInY true (bL (nxtS A s g)) (.ref 0) [dicO bL F, .lst (W.map bL)] = .ok (.bl b) [dicO bL F, .lst (W.map bL)] → mB (mOp (fInY true) (mVar 6) (mVar 2)) [some (wL A), x1, some (.ref 0), some (.ref 1), some (bL s), some (gL g), some (bL (nxtS A s g)), some (sL (stepW A s [g]).2)] [dicO bL F, .lst (W.map bL)] = .ok b [dicO bL F, .lst (W.map bL)] := fun b hb =>
      ev_b (ev_op (v := bL (nxtS A s g)) (w := .ref 0) rfl rfl hb)
    rw [List.map_cons]
    by_cases c : nxtS A s g ∈ F
    · have eni := eni false (not_inT wlkB rfl c)
      obtain ⟨y5, y6, y7, ih⟩ := as_in (x1 := x1) hA hs gs F W (some (gL g)) (some (bL (nxtS A s g))) (some (sL (stepW A s [g]).2)) (by omega) (by omega)
      refine ⟨y5, y6, y7, ?_⟩
      rw [goA, if_pos c]
      exact ev_lcons rfl (ev_seq est (ev_ifF eni rfl)) ih
    · have eni := eni true (not_inF wlkB rfl c)
      obtain ⟨y5, y6, y7, ih⟩ := as_in (x1 := x1) hA hs gs (F ++ [nxtS A s g]) (W ++ [nxtS A s g]) (some (gL g)) (some (bL (nxtS A s g))) (some (sL (stepW A s [g]).2)) (by rw [List.length_append, List.length_singleton]; omega) (by rw [List.length_append, List.length_singleton]; omega)
      refine ⟨y5, y6, y7, ?_⟩
      rw [goA, if_neg c]
      have eput : mAsg (mC (.bl true)) (mGSub fSetX (mVar 2) (mVar 6)) [some (wL A), x1, some (.ref 0), some (.ref 1), some (bL s), some (gL g), some (bL (nxtS A s g)), some (sL (stepW A s [g]).2)] [dicO bL F, .lst (W.map bL)] = .ok (.nx, [some (wL A), x1, some (.ref 0), some (.ref 1), some (bL s), some (gL g), some (bL (nxtS A s g)), some (sL (stepW A s [g]).2)]) [dicO bL (F ++ [nxtS A s g]), .lst (W.map bL)] := by
        refine ev_asg (v := .bl true) (h1 := [dicO bL F, .lst (W.map bL)]) rfl ?_
        show (fSetX (.ref 0) (bL (nxtS A s g)) (.bl true) [dicO bL F, .lst (W.map bL)]).bind _ = _
        rw [put_in wlkB rfl c (by omega)]
        rfl
      rw [List.map_append] at ih
      exact ev_lcons rfl (ev_seq est (ev_ifT eni (ev_seq eput (ev_drop (ev_app (n := 1) rfl rfl rfl rfl (by rw [List.length_map]; omega)))))) ih
def asB : MS := (mSeq (mAsg (mPop (mVar 3)) (mName 4)) (mFor (mAnyI (mC (.tup [(.str [97]), (.str [110]), (.str [114])]))) (mName 5) asI))
inductive Rch (A : List Cv) : List Bool → Prop
  | z : Rch A (List.replicate A.length false)
  | s {s : List Bool} {g : Sg} : Rch A s → Rch A (nxtS A s g)
structure InvA (A : List Cv) (F W : List (List Bool)) : Prop where
  nd : F.Nodup
  ndW : W.Nodup
  sub : ∀ s ∈ W, s ∈ F
  cl : ∀ s ∈ F, s ∉ W → ∀ g, nxtS A s g ∈ F
  one : List.replicate A.length false ∈ F
  ok : ∀ s ∈ F, s.length = A.length ∧ okS A s = true
  rc : ∀ s ∈ F, Rch A s
theorem nodup_sub {α : Type} [DecidableEq α] : ∀ (l1 l2 : List α), l1.Nodup → (∀ k ∈ l1, k ∈ l2) → l1.length ≤ l2.length
  | [], _, _, _ => Nat.zero_le _
  | a :: l1, l2, hn, hs => by
    have ha : a ∈ l2 := hs a List.mem_cons_self
    obtain ⟨hna, hn1⟩ := List.nodup_cons.mp hn
    have h := nodup_sub l1 (l2.erase a) hn1 fun k hk => (List.mem_erase_of_ne (fun e : k = a => hna (e ▸ hk))).mpr (hs k (List.mem_cons_of_mem _ hk))
    rw [List.length_erase_of_mem ha] at h
    have := List.length_pos_of_mem ha
    rw [List.length_cons]
    omega
theorem InvA.few {A : List Cv} {F W : List (List Bool)} (I : InvA A F W) (hA : A.length ≤ 6) : F.length ≤ 64 ∧ W.length ≤ F.length := by
  have h := nodup_sub F (allB A.length) I.nd fun s hs => allB_mem _ _ (I.ok s hs).1
  rw [allB_len] at h
  have := Nat.pow_le_pow_right (show 0 < 2 by decide) hA
  exact ⟨by omega, nodup_sub W F I.ndW I.sub⟩
theorem as_loop {A : List Cv} {x1 : Option LV} (hA : A.length ≤ 6) : ∀ (fuel : Nat) (F W : List (List Bool)) (x4 x5 x6 x7 : Option LV), 64 < fuel + (F.length - W.length) → InvA A F W →
    ∃ F' ρ', whileM (mTru (mVar 3)) asB fuel [some (wL A), x1, some (.ref 0), some (.ref 1), x4, x5, x6, x7] [dicO bL F, .lst (W.map bL)] = .ok (.nx, ρ') [dicO bL F', .lst []] ∧ InvA A F' [] ∧ ρ'[2]? = some (some (.ref 0))
  | 0, F, W, x4, x5, x6, x7, hf, I => by
    have := I.few hA
    omega
  | fuel + 1, F, W, x4, x5, x6, x7, hf, I => by
    have few := I.few hA
    have ht : mTru (mVar 3) [some (wL A), x1, some (.ref 0), some (.ref 1), x4, x5, x6, x7] [dicO bL F, .lst (W.map bL)] = .ok (!(W.map bL).isEmpty) [dicO bL F, .lst (W.map bL)] := ev_tru (v := .ref 1) rfl rfl
    by_cases hW : W = []
    · subst hW
      refine ⟨F, [some (wL A), x1, some (.ref 0), some (.ref 1), x4, x5, x6, x7], ?_, I, rfl⟩
      simp only [whileM, ht]
      rfl
    · have hw := List.dropLast_concat_getLast hW
      generalize W.dropLast = W0 at hw
      generalize W.getLast hW = s at hw
      subst hw
      obtain ⟨N, eg, n1, n2, n3⟩ := goA_spec A s [.a, .n, .r] F W0
      have hsF := I.sub s (List.mem_append_right _ List.mem_cons_self)
      obtain ⟨ls, oks⟩ := I.ok s hsF
      have lW : (W0 ++ [s]).length = W0.length + 1 := by simp
      have hnd := I.ndW
      rw [List.nodup_append] at hnd
      have hs0 : s ∉ W0 := fun hm => hnd.2.2 s hm s List.mem_cons_self rfl
      have I' : InvA A (F ++ N) (W0 ++ N) := by
        refine ⟨?_, ?_, fun q hq => ?_, fun q hq hn g => ?_, List.mem_append_left _ I.one, fun q hq => ?_, fun q hq => ?_⟩
        · rw [List.nodup_append]
          exact ⟨I.nd, n1, fun x hx y hy e => by subst e; exact (n2 x hy).1 hx⟩
        · rw [List.nodup_append]
          exact ⟨hnd.1, n1, fun x hx y hy e => by subst e; exact (n2 x hy).1 (I.sub x (List.mem_append_left _ hx))⟩
        · rcases List.mem_append.mp hq with z | z
          · exact List.mem_append_left _ (I.sub q (List.mem_append_left _ z))
          · exact List.mem_append_right _ z
        · rcases List.mem_append.mp hq with z | z
          · by_cases e : q = s
            · subst e
              exact n3 g (by cases g <;> simp)
            · refine List.mem_append_left _ (I.cl q z (fun hm => ?_) g)
              rcases List.mem_append.mp hm with y | y
              · exact hn (List.mem_append_left _ y)
              · exact e (List.mem_singleton.mp y)
          · exact absurd (List.mem_append_right _ z) hn
        · rcases List.mem_append.mp hq with z | z
          · exact I.ok q z
          · obtain ⟨_, g, _, rfl⟩ := n2 q z
            exact ⟨step_len A _ _ ls, okS_step A s [g] oks⟩
        · rcases List.mem_append.mp hq with z | z
          · exact I.rc q z
          · obtain ⟨_, g, _, rfl⟩ := n2 q z
            exact .s (I.rc s hsF)
      obtain ⟨y5, y6, y7, r⟩ := as_in (x1 := x1) hA ls [.a, .n, .r] F W0 x5 x6 x7 (by simp only [List.length_cons, List.length_nil]; omega) (by simp only [List.length_cons, List.length_nil]; omega)
      rw [eg] at r
      have epop : mPop (mVar 3) [some (wL A), x1, some (.ref 0), some (.ref 1), x4, x5, x6, x7] [dicO bL F, .lst ((W0 ++ [s]).map bL)] = .ok (bL s) [dicO bL F, .lst (W0.map bL)] := by
        show fPop (.ref 1) [dicO bL F, .lst ((W0 ++ [s]).map bL)] = _
        have e1 : ((W0 ++ [s]).map bL)[((W0 ++ [s]).map bL).length - 1]? = some (bL s) := by simp
        have e2 : ((W0 ++ [s]).map bL).dropLast = W0.map bL := by simp
        show (match ((W0 ++ [s]).map bL)[((W0 ++ [s]).map bL).length - 1]? with | some y => R.ok y ([dicO bL F, .lst ((W0 ++ [s]).map bL)].set 1 (.lst ((W0 ++ [s]).map bL).dropLast)) | none => .bad) = _
        rw [e1, e2]
        rfl
      have eb1 : asB [some (wL A), x1, some (.ref 0), some (.ref 1), x4, x5, x6, x7] [dicO bL F, .lst ((W0 ++ [s]).map bL)] = .ok (.nx, [some (wL A), x1, some (.ref 0), some (.ref 1), some (bL s), y5, y6, y7]) [dicO bL (F ++ N), .lst ((W0 ++ N).map bL)] :=
        ev_seq (ev_asg epop rfl) (ev_for (xs := [Sg.a, .n, .r].map gL) (ev_anyT rfl) (by decide) r)
      have lN : (F ++ N).length - (W0 ++ N).length = F.length - W0.length := by rw [List.length_append, List.length_append]; omega
      have hW0 : W0.length + 1 ≤ F.length := by rw [← lW]; exact few.2
      obtain ⟨F', ρ', i1, i2, i3⟩ := as_loop hA (x1 := x1) fuel (F ++ N) (W0 ++ N) (some (bL s)) y5 y6 y7 (by rw [lN]; rw [lW] at hf; omega) I'
      refine ⟨F', ρ', ?_, i2, i3⟩
      have hne : ((W0 ++ [s]).map bL).isEmpty = false := by
        rw [List.isEmpty_eq_false_iff]
        simp
      rw [hne] at ht
      simp only [whileM, ht]
      show (asB [some (wL A), x1, some (.ref 0), some (.ref 1), x4, x5, x6, x7] [dicO bL F, .lst ((W0 ++ [s]).map bL)]).bind _ = _
      rw [eb1]
      exact i1
end Sx
namespace Sx
open PySem PySem.Spec Rm K04
/-! ### what is drawn -/
def Dr (ns : List Int) (i : Nat) : List LO := [.lst [.fz (ns.map .int), .int (i : Int)]]
theorem dats_int : ∀ (ns : List Int) (n : Nat) (h : List LO), ns.length + 1 < n → LV.dats h n (ns.map .int) = some (ns.map .int)
  | [], n, h, hn => by
    obtain ⟨n, rfl⟩ : ∃ m, n = m + 1 := ⟨n - 1, by omega⟩
    rfl
  | i :: ns, n, h, hn => by
    obtain ⟨n, rfl⟩ : ∃ m, n = m + 2 := ⟨n - 2, by simp only [List.length_cons] at hn; omega⟩
    simp only [List.map_cons, LV.dats, LV.dat]
    rw [dats_int ns (n + 1) h (by simp only [List.length_cons] at hn; omega)]
theorem lay_int : ∀ ns : List Int, PyData.canLayAll0 (ns.map .int) = true ∧ PyData.depthAll (ns.map .int) = 0
  | [] => ⟨rfl, rfl⟩
  | i :: ns => by
    obtain ⟨h1, h2⟩ := lay_int ns
    simp only [List.map_cons, PyData.canLayAll0, PyData.canLay0, PyData.depthAll, PyData.depth, h1, h2]
    decide
theorem ne_nil (ns : List Int) (h : List LO) (hn : ns.length ≤ 90) : fEq true (.fz (ns.map .int)) (.vl []) h = .ok (.bl (!ns.isEmpty)) h := by
  have e1 : LV.dat h 20000 (.fz (ns.map .int)) = some (.list (ns.map .int)) := by
    show (LV.dats h 19999 (ns.map .int)).map PyData.list = _
    rw [dats_int ns 19999 h (by omega)]
    rfl
  have e2 : LV.dat h 20000 (.vl []) = some (.list []) := rfl
  obtain ⟨l1, l2⟩ := lay_int ns
  have s1 : SeqAt.shaped (.list (ns.map .int)) = true := by
    simp only [SeqAt.shaped, PyData.canLay0, PyData.depth, l1, l2]
    decide
  have s2 : SeqAt.shaped (.list []) = true := by decide
  unfold fEq
  show (match LV.dat h 20000 (.fz (ns.map .int)), LV.dat h 20000 (.vl []) with | some d, some e => _ | _, _ => _) = _
  rw [e1, e2]
  simp only [s1, s2, Bool.and_self, if_true]
  cases ns with
  | nil => rfl
  | cons i ns => rfl
theorem mulB {a b : Int} (h : List LO) (c : -(2 ^ 64) < a ∧ a < 2 ^ 64 ∨ -(2 ^ 64) < b ∧ b < 2 ^ 64) : fMul (.int a) (.int b) h = .ok (.int (a * b)) h := if_pos c
theorem modB {a b : Int} (h : List LO) (c : 0 < b) : fMod (.int a) (.int b) h = .ok (.int (a % b)) h := if_pos c
theorem divB {a b : Int} (h : List LO) (c : 0 < b ∧ b < 1073741824) : fDiv (.int a) (.int b) h = .ok (.int (a / b)) h := if_pos c
theorem ix_ints {L : List Int} {j : Int} (h : List LO) (h0 : 0 ≤ j) (h1 : j < L.length) : ∃ c, fIxX (.vl (L.map .int)) (.int j) h = .ok (.int c) h := by
  obtain ⟨k, rfl⟩ : ∃ k : Nat, j = (k : Int) := ⟨j.toNat, by omega⟩
  have hk : k < L.length := by omega
  refine ⟨L[k], ?_⟩
  show (match L2.atI (L.map LV.int) (k : Int) with | some y => R.ok y h | none => R.bad) = _
  have e : L2.atI (L.map LV.int) (k : Int) = some (.int L[k]) := by
    unfold L2.atI L2.ixN
    rw [List.length_map, if_pos (by omega), if_pos (by omega)]
    show (L.map LV.int)[((k : Int)).toNat]? = _
    rw [Int.toNat_natCast, List.getElem?_map, List.getElem?_eq_getElem hk]
    rfl
  rw [e]
theorem asInts_map (zs : List Int) : LV.asInts (zs.map .int) = some zs := by
  induction zs with
  | nil => rfl
  | cons z zs ih => simp [LV.asInts, ih]
theorem cut_ints (ns : List Int) (lo hi : Option Int) : cutL (ns.map LV.int) lo hi = (cutL ns lo hi).map LV.int := by
  simp [cutL, List.map_take, List.map_drop]
theorem c_number (ns : List Int) (i : Nat) (hn : ns.length ≤ 63) : ∃ r : Int, cal m__law_number [.fz (ns.map .int), .int i] = some (.int r) ∧ 0 ≤ r := by
  -- the cells
  obtain ⟨L, hL, eL⟩ : ∃ L : List Int, (1 ≤ L.length ∧ L.length ≤ 63) ∧ mIf (mB (mOp (fEq true) (mVar 0) (mLst mNil))) (mSl (mVar 0) mNoP (mPart (mC (.int 63)))) (mLst (mCons (mC (.int 5)) mNil)) [some (.fz (ns.map .int)), some (.int i), none, none, none, none, none, none] [] = .ok (.vl (L.map .int)) [] := by
    have et := ev_b (ev_op (ρ := [some (.fz (ns.map .int)), some (.int (i : Int)), none, none, none, none, none, none]) (h := []) (ma := mVar 0) (mb := mLst mNil) rfl (ev_lst (vs := []) rfl (Nat.zero_le _)) (ne_nil ns [] (by omega)))
    cases ns with
    | nil => exact ⟨[5], ⟨Nat.le_refl _, by decide⟩, ev_if et rfl⟩
    | cons n ns =>
      refine ⟨cutL (n :: ns) none (some 63), ?_, ev_if et ?_⟩
      · simp only [cutL, HT.sIx_none, List.drop_zero, List.length_take, List.length_cons] at hn ⊢
        have e63 : HT.sIx (ns.length + 1) (ns.length + 1) (some (63 : Int)) = min 63 (ns.length + 1) := HT.sIx_nat _ _ 63
        rw [e63]
        omega
      · show R.ok (LV.vl (cutL ((n :: ns).map LV.int) none (some 63))) [] = _
        rw [cut_ints]
  have hl : (0 : Int) < (L.length : Int) := by omega
  have len : ∀ ρ h, ρ[2]? = some (some (.vl (L.map .int))) → mCB fLen (mCons (mVar 2) mNil) ρ h = .ok (.int L.length) h := fun ρ h e => ev_cb (ev_cons (var_of e) rfl) (by show R.ok (LV.int (L.map LV.int).length) h = _; rw [List.length_map])
  obtain ⟨c0, ec0⟩ := ix_ints (L := L) (j := (i : Int) % (L.length : Int)) [] (Int.emod_nonneg _ (by omega)) (Int.emod_lt_of_pos _ hl)
  obtain ⟨c, hc⟩ : ∃ c : Int, c = c0 + 13 * ((i : Int) / (L.length : Int)) := ⟨_, rfl⟩
  obtain ⟨low, hlow⟩ : ∃ x : Int, x = c % 1000003 := ⟨_, rfl⟩
  obtain ⟨high, hhigh⟩ : ∃ x : Int, x = c / 1000003 % 999983 := ⟨_, rfl⟩
  obtain ⟨total, htotal⟩ : ∃ x : Int, x = L.sum % 65521 := ⟨_, rfl⟩
  obtain ⟨blend, hblend⟩ : ∃ x : Int, x = ((low + 977 * (i : Int)) * 48271 + 31 * high + total) % 2147483647 := ⟨_, rfl⟩
  have b0 : 0 ≤ blend := by rw [hblend]; exact Int.emod_nonneg _ (by decide)
  have b1 : blend < 2147483647 := by rw [hblend]; exact Int.emod_lt_of_pos _ (by decide)
  have g0 : 0 ≤ high := by rw [hhigh]; exact Int.emod_nonneg _ (by decide)
  refine ⟨blend * (blend + 31 * (i : Int) + 7) % 2147483629 * 65537 + high, ?_, ?_⟩
  · have sm : ∀ ρ h, ρ[2]? = some (some (.vl (L.map .int))) → mCB fSum (mCons (mVar 2) mNil) ρ h = .ok (.int L.sum) h := fun ρ h e => ev_cb (ev_cons (var_of e) rfl) (by simp only [fSum, LV.lsf, LV.lst, asInts_map])
    have s2 : mAsg (mOp fAdd (mOp fIxX (mVar 2) (mOp fMod (mCB fInt (mCons (mVar 1) mNil)) (mCB fLen (mCons (mVar 2) mNil)))) (mOp fMul (mC (.int 13)) (mOp fDiv (mVar 1) (mCB fLen (mCons (mVar 2) mNil))))) (mName 3) [some (.fz (ns.map .int)), some (.int i), some (.vl (L.map .int)), none, none, none, none, none] [] = .ok (.nx, [some (.fz (ns.map .int)), some (.int i), some (.vl (L.map .int)), some (.int c), none, none, none, none]) [] := by
      refine ev_asg (v := .int c) (h1 := []) (ev_op (v := .int c0) (w := .int (13 * ((i : Int) / (L.length : Int)))) (h1 := []) (h2 := []) (ev_op (v := .vl (L.map .int)) (w := .int ((i : Int) % (L.length : Int))) (h1 := []) (h2 := []) rfl (ev_op (v := .int i) (w := .int L.length) (h1 := []) (h2 := []) (ev_cb (ev_cons rfl rfl) rfl) (len _ _ rfl) (modB [] hl)) ec0) (ev_op (v := .int 13) (w := .int ((i : Int) / (L.length : Int))) (h1 := []) (h2 := []) rfl (ev_op (v := .int i) (w := .int L.length) (h1 := []) (h2 := []) rfl (len _ _ rfl) (divB [] ⟨hl, by omega⟩)) (mulB [] (.inl (by decide)))) ?_) rfl
      rw [hc]
      rfl
    have s3 : mPar 4 5 (mCons (mOp fMod (mCB fInt (mCons (mVar 3) mNil)) (mC (.int 1000003))) (mCons (mOp fMod (mCB fInt (mCons (mOp fDiv (mVar 3) (mC (.int 1000003))) mNil)) (mC (.int 999983))) mNil)) [some (.fz (ns.map .int)), some (.int i), some (.vl (L.map .int)), some (.int c), none, none, none, none] [] = .ok (.nx, [some (.fz (ns.map .int)), some (.int i), some (.vl (L.map .int)), some (.int c), some (.int low), some (.int high), none, none]) [] := by
      rw [hlow, hhigh]
      rfl
    have s4 : mAsg (mOp fMod (mCB fInt (mCons (mCB fSum (mCons (mVar 2) mNil)) mNil)) (mC (.int 65521))) (mName 6) [some (.fz (ns.map .int)), some (.int i), some (.vl (L.map .int)), some (.int c), some (.int low), some (.int high), none, none] [] = .ok (.nx, [some (.fz (ns.map .int)), some (.int i), some (.vl (L.map .int)), some (.int c), some (.int low), some (.int high), some (.int total), none]) [] := by
      rw [htotal]
      exact ev_asg (h1 := []) (ev_op (v := .int L.sum) (w := .int 65521) (h1 := []) (h2 := []) (ev_cb (h1 := []) (ev_cons (sm _ _ rfl) rfl) rfl) rfl (modB [] (by decide))) rfl
    have s5 : mAsg (mOp fMod (mCB fInt (mCons (mOp fAdd (mOp fAdd (mOp fMul (mOp fAdd (mVar 4) (mOp fMul (mC (.int 977)) (mVar 1))) (mC (.int 48271))) (mOp fMul (mC (.int 31)) (mVar 5))) (mVar 6)) mNil)) (mC (.int 2147483647))) (mName 7) [some (.fz (ns.map .int)), some (.int i), some (.vl (L.map .int)), some (.int c), some (.int low), some (.int high), some (.int total), none] [] = .ok (.nx, [some (.fz (ns.map .int)), some (.int i), some (.vl (L.map .int)), some (.int c), some (.int low), some (.int high), some (.int total), some (.int blend)]) [] := by
      rw [hblend]
      exact ev_asg (h1 := []) (ev_op (v := .int ((low + 977 * (i : Int)) * 48271 + 31 * high + total)) (w := .int 2147483647) (h1 := []) (h2 := []) (ev_cb (vs := [.int ((low + 977 * (i : Int)) * 48271 + 31 * high + total)]) (h1 := []) (ev_cons (ev_op (v := .int ((low + 977 * (i : Int)) * 48271 + 31 * high)) (w := .int total) (h1 := []) (h2 := []) (ev_op (v := .int ((low + 977 * (i : Int)) * 48271)) (w := .int (31 * high)) (h1 := []) (h2 := []) (ev_op (v := .int (low + 977 * (i : Int))) (w := .int 48271) (h1 := []) (h2 := []) (ev_op (v := .int low) (w := .int (977 * (i : Int))) (h1 := []) (h2 := []) rfl (ev_op (v := .int 977) (w := .int i) (h1 := []) (h2 := []) rfl rfl (mulB [] (.inl (by decide)))) rfl) rfl (mulB [] (.inr (by decide)))) (ev_op (v := .int 31) (w := .int high) (h1 := []) (h2 := []) rfl rfl (mulB [] (.inl (by decide)))) rfl) rfl rfl) rfl) rfl) rfl (modB [] (by decide))) rfl
    refine cal_of (h1 := []) (fn_rt (ev_seq (ev_asg eL rfl) (ev_seq s2 (ev_seq s3 (ev_seq s4 (ev_seq s5 (ev_ret (ev_op (v := .int (blend * (blend + 31 * (i : Int) + 7) % 2147483629 * 65537)) (w := .int high) (h1 := []) (h2 := []) (ev_op (v := .int (blend * (blend + 31 * (i : Int) + 7) % 2147483629)) (w := .int 65537) (h1 := []) (h2 := []) (ev_op (v := .int (blend * (blend + 31 * (i : Int) + 7))) (w := .int 2147483629) (h1 := []) (h2 := []) (ev_cb (vs := [.int (blend * (blend + 31 * (i : Int) + 7))]) (h1 := []) (ev_cons (ev_op (v := .int blend) (w := .int (blend + 31 * (i : Int) + 7)) (h1 := []) (h2 := []) rfl (ev_op (v := .int (blend + 31 * (i : Int))) (w := .int 7) (h1 := []) (h2 := []) (ev_op (v := .int blend) (w := .int (31 * (i : Int))) (h1 := []) (h2 := []) rfl (ev_op (v := .int 31) (w := .int i) (h1 := []) (h2 := []) rfl rfl (mulB [] (.inl (by decide)))) rfl) rfl rfl) (mulB [] (.inl ⟨?_, ?_⟩))) rfl) rfl) rfl (modB [] (by decide))) rfl (mulB [] (.inr (by decide)))) rfl rfl)))))))) rfl
    · have : -(2 ^ 64 : Int) < 0 := by decide
      omega
    · have : (2147483647 : Int) < 2 ^ 64 := by decide
      omega
  · have : 0 ≤ blend * (blend + 31 * (i : Int) + 7) % 2147483629 := Int.emod_nonneg _ (by decide)
    omega
theorem d_take (ns : List Int) (i : Nat) (many : Nat) (hn : ns.length ≤ 63) (hm : 0 < many) : ∃ r : Nat, r < many ∧ m__law_take [.ref 0, .int many] (Dr ns i) = .ok (.int r) (Dr ns (i + 1)) := by
  obtain ⟨r, e, h0⟩ := c_number ns (i + 1) hn
  obtain ⟨k, hk⟩ : ∃ k : Nat, r % (many : Int) = (k : Int) := ⟨(r % (many : Int)).toNat, by have := Int.emod_nonneg r (show (many : Int) ≠ 0 by omega); omega⟩
  have hlt := Int.emod_lt_of_pos r (show (0 : Int) < many by omega)
  refine ⟨k, by omega, ?_⟩
  have pn : LV.pures [LV.fz (ns.map .int), .int ((i + 1 : Nat) : Int)] = true := pures_cons (show LV.pures (ns.map LV.int) = true from pures_map (enc := LV.int) (fun _ => rfl) ns) rfl
  refine fn_rt (ev_seq (ρ1 := [some (.ref 0), some (.int many)]) (h1 := Dr ns (i + 1)) (ev_asg (v := .int ((i + 1 : Nat) : Int)) (h1 := Dr ns i) (ev_op (v := .int i) (w := .int 1) (h1 := Dr ns i) (h2 := Dr ns i) (ev_op (v := .ref 0) (w := .int 1) (h1 := Dr ns i) (h2 := Dr ns i) rfl rfl rfl) rfl rfl) rfl) (ev_ret (ev_op (v := .int r) (w := .int many) (h1 := Dr ns (i + 1)) (h2 := Dr ns (i + 1)) (ev_cb (vs := [.int r]) (h1 := Dr ns (i + 1)) (ev_cons (ev_call (vs := [.fz (ns.map .int), .int ((i + 1 : Nat) : Int)]) (h1 := Dr ns (i + 1)) (ev_cons (ev_op (v := .ref 0) (w := .int 0) (h1 := Dr ns (i + 1)) (h2 := Dr ns (i + 1)) rfl rfl rfl) (ev_cons (ev_cb (vs := [.int ((i + 1 : Nat) : Int)]) (h1 := Dr ns (i + 1)) (ev_cons (ev_op (v := .ref 0) (w := .int 1) (h1 := Dr ns (i + 1)) (h2 := Dr ns (i + 1)) rfl rfl rfl) rfl) rfl) rfl)) e rfl pn) rfl) rfl) rfl ?_)))
  rw [modB _ (show (0 : Int) < many by omega), hk]
theorem d_pick (ns : List Int) (i : Nat) (xs : List LV) (hn : ns.length ≤ 63) (hx : xs ≠ []) : ∃ x ∈ xs, m__law_pick [.ref 0, .vl xs] (Dr ns i) = .ok x (Dr ns (i + 1)) := by
  obtain ⟨r, hr, e⟩ := d_take ns i xs.length hn (List.length_pos_iff.mpr hx)
  refine ⟨xs[r], List.getElem_mem hr, ?_⟩
  refine fn_rt (ρ1 := [some (.ref 0), some (.vl xs)]) (ev_ret (ev_op (v := .vl xs) (w := .int r) (h1 := Dr ns i) (h2 := Dr ns (i + 1)) rfl (ev_callS (vs := [.ref 0, .int xs.length]) (h1 := Dr ns i) (ev_cons rfl (ev_cons (ev_cb (ev_cons rfl rfl) rfl) rfl)) e rfl) ?_))
  show (match L2.atI xs (r : Int) with | some y => R.ok y (Dr ns (i + 1)) | none => R.bad) = _
  have e2 : L2.atI xs (r : Int) = some xs[r] := by
    unfold L2.atI L2.ixN
    rw [if_pos (by omega), if_pos (by omega)]
    show xs[((r : Int)).toNat]? = _
    rw [Int.toNat_natCast, List.getElem?_eq_getElem hr]
  rw [e2]
theorem lc_draw {α : Type} (enc : α → LV) {g : MG} {me : ME} {ρ : Rho} {ns : List Int} {n : Nat} (st : ∀ (j i : Nat), ∃ ρ1, g (.int ((0 : Int) + (j : Int))) ρ (Dr ns i) = .ok ρ1 (Dr ns i) ∧ ∃ x : α, me ρ1 (Dr ns i) = .ok (enc x) (Dr ns (i + 1))) :
    ∀ (m j fuel i : Nat) (acc : List LV), j + m = n → m < fuel → ∃ (xs : List α) (i' : Nat), xs.length = m ∧ lcM (.rng 0 n) g mYes me ρ fuel j (Dr ns i) acc = .ok (.vl (acc.reverse ++ xs.map enc)) (Dr ns i')
  | 0, j, fuel, i, acc, hj, hf => by
    obtain ⟨fuel, rfl⟩ : ∃ f, fuel = f + 1 := ⟨fuel - 1, by omega⟩
    refine ⟨[], i, rfl, ?_⟩
    have e : Itr.at (.rng 0 n) j (Dr ns i) = some none := by simp only [Itr.at, show ¬ j < n by omega, if_false]
    simp [lcM, e]
  | m + 1, j, fuel, i, acc, hj, hf => by
    obtain ⟨fuel, rfl⟩ : ∃ f, fuel = f + 1 := ⟨fuel - 1, by omega⟩
    obtain ⟨ρ1, e1, x, e2⟩ := st j i
    obtain ⟨xs, i', hx, ih⟩ := lc_draw (n := n) enc st m (j + 1) fuel (i + 1) (enc x :: acc) (by omega) (by omega)
    refine ⟨x :: xs, i', by rw [List.length_cons, hx], ?_⟩
    have e : Itr.at (.rng 0 n) j (Dr ns i) = some (some (.int ((0 : Int) + (j : Int)))) := by simp only [Itr.at, show j < n by omega, if_true]
    simp only [lcM, e, e1, R.safe, R.bind, mYes, if_true, e2]
    rw [ih]
    simp
theorem ev_lcR {mA : MA} {g : MG} {me : ME} {vs : List Nat} {n : Nat} {ρ : Rho} {h h1 : List LO} {r : R LV} (e1 : mA ρ h = .ok [.int (n : Int)] h1) (hl : n ≤ 1000000) (e2 : lcM (.rng 0 n) g mYes me (wipeR ρ vs) 60000 0 h1 [] = r) : mLc (mRng1 mA) g mYes me vs ρ h = r := by
  unfold mLc mRng1
  rw [e1]
  show ((if -1000000 ≤ (n : Int) ∧ (n : Int) ≤ 1000000 then R.ok (Itr.rng 0 ((n : Int)).toNat) h1 else R.bad).bind _) = _
  rw [if_pos (by omega), Int.toNat_natCast]
  exact e2
theorem d_way (ns : List Int) (i most : Nat) (hn : ns.length ≤ 63) (hm : most ≤ 100) : ∃ (ws : List Cv) (i' : Nat), ws.length ≤ most ∧ m__law_way [.ref 0, .int most] (Dr ns i) = .ok (wL ws) (Dr ns i') := by
  obtain ⟨n, hn1, e1⟩ := d_take ns i (most + 1) hn (by omega)
  have st : ∀ (j i : Nat), ∃ ρ1, mName 3 (.int ((0 : Int) + (j : Int))) [some (.ref 0), some (.int most), some (.vl [cL .all, cL .both, cL .care, cL .lone, cL .lones, cL .pairs]), none] (Dr ns i) = .ok ρ1 (Dr ns i) ∧ ∃ x : Cv, (mCallS 2 m__law_pick (mCons (mVar 0) (mCons (mOp fAdd (mVar 2) (mLst (mCons (mC (.str [112, 97, 105, 114, 115])) (mCons (mC (.str [99, 97, 114, 101])) mNil)))) mNil))) ρ1 (Dr ns i) = .ok (cL x) (Dr ns (i + 1)) := by
    intro j i
    refine ⟨_, rfl, ?_⟩
    obtain ⟨x, hx, e⟩ := d_pick ns i [cL .all, cL .both, cL .care, cL .lone, cL .lones, cL .pairs, cL .pairs, cL .care] hn (by simp)
    have hc : ∃ c : Cv, x = cL c := by
      simp only [List.mem_cons, List.not_mem_nil, or_false] at hx
      rcases hx with h | h | h | h | h | h | h | h <;> exact ⟨_, h⟩
    obtain ⟨c, rfl⟩ := hc
    exact ⟨c, ev_callS (vs := [.ref 0, .vl [cL .all, cL .both, cL .care, cL .lone, cL .lones, cL .pairs, cL .pairs, cL .care]]) (h1 := Dr ns i) (ev_cons rfl (ev_cons rfl rfl)) e rfl⟩
  obtain ⟨ws, i', hw, e2⟩ := lc_draw (n := n) cL st n 0 60000 (i + 1) [] (by omega) (by omega)
  refine ⟨ws, i', by omega, fn_rt (ρ1 := [some (.ref 0), some (.int most), some (.vl [cL .all, cL .both, cL .care, cL .lone, cL .lones, cL .pairs]), none]) (ev_seq (ev_asg (h1 := Dr ns i) rfl rfl) (ev_ret (ev_cb (vs := [.vl (ws.map cL)]) (h1 := Dr ns i') (ev_cons (ev_lcR (n := n) (h1 := Dr ns (i + 1)) (ev_cons (ev_callS (vs := [.ref 0, .int ((most + 1 : Nat) : Int)]) (h1 := Dr ns i) (ev_cons rfl (ev_cons rfl rfl)) e1 rfl) rfl) (by omega) e2) rfl) rfl)))⟩
theorem d_text (ns : List Int) (i most : Nat) (hn : ns.length ≤ 63) (hm : most ≤ 100) : ∃ (t : List Sg) (i' : Nat), t.length ≤ most ∧ m__law_text [.ref 0, .int most] (Dr ns i) = .ok (sL t) (Dr ns i') := by
  obtain ⟨n, hn1, e1⟩ := d_take ns i (most + 1) hn (by omega)
  have st : ∀ (j i : Nat), ∃ ρ1, mName 2 (.int ((0 : Int) + (j : Int))) [some (.ref 0), some (.int most), none] (Dr ns i) = .ok ρ1 (Dr ns i) ∧ ∃ x : Sg, (mCallS 2 m__law_pick (mCons (mVar 0) (mCons (mLst (mCons (mC (.str [97])) (mCons (mC (.str [110])) (mCons (mC (.str [114])) (mCons (mC (.str [114])) (mCons (mC (.str [110])) mNil)))))) mNil))) ρ1 (Dr ns i) = .ok (gL x) (Dr ns (i + 1)) := by
    intro j i
    refine ⟨_, rfl, ?_⟩
    obtain ⟨x, hx, e⟩ := d_pick ns i [gL .a, gL .n, gL .r, gL .r, gL .n] hn (by simp)
    have hc : ∃ c : Sg, x = gL c := by
      simp only [List.mem_cons, List.not_mem_nil, or_false] at hx
      rcases hx with h | h | h | h | h <;> exact ⟨_, h⟩
    obtain ⟨c, rfl⟩ := hc
    exact ⟨c, ev_callS (vs := [.ref 0, .vl [gL .a, gL .n, gL .r, gL .r, gL .n]]) (h1 := Dr ns i) (ev_cons rfl (ev_cons rfl rfl)) e rfl⟩
  obtain ⟨t, i', hw, e2⟩ := lc_draw (n := n) gL st n 0 60000 (i + 1) [] (by omega) (by omega)
  have ef : ((t.map fun g => [g.c]) : List (List Nat)).flatten = t.map Sg.c := by
    clear hw e2
    induction t with
    | nil => rfl
    | cons g t ih => rw [List.map_cons, List.flatten_cons, ih]; rfl
  have em : t.map gL = (t.map fun g => [g.c]).map LV.str := by rw [List.map_map]; rfl
  refine ⟨t, i', by omega, ?_⟩
  have hj : ∀ ma : ME, ma [some (.ref 0), some (.int most), none] (Dr ns i) = .ok (.vl (t.map gL)) (Dr ns i') → mJoin0 ma [some (.ref 0), some (.int most), none] (Dr ns i) = .ok (sL t) (Dr ns i') := fun ma e =>
    (ev_join (xs := t.map gL) (zs := t.map fun g => [g.c]) e rfl (by rw [em, asStrs_map]) (by rw [ef, List.length_map]; omega)).trans (by rw [ef])
  exact fn_rt (ρ1 := [some (.ref 0), some (.int most), none]) (ev_ret (hj _ (ev_lcR (n := n) (h1 := Dr ns (i + 1)) (vs := [2]) (ev_cons (ev_callS (vs := [.ref 0, .int ((most + 1 : Nat) : Int)]) (h1 := Dr ns i) (ev_cons rfl (ev_cons rfl rfl)) e1 rfl) rfl) (by omega) e2)))
end Sx
namespace Sx
open PySem PySem.Spec Rm K04
/-! ### slices, sums of ways -/
theorem cut_to {α : Type} (xs : List α) (n : Nat) : cutL xs none (some (n : Int)) = xs.take n := by
  unfold cutL
  rw [HT.sIx_none, HT.sIx_nat, List.drop_zero, Nat.sub_zero]
  rcases Nat.le_total n xs.length with h | h
  · rw [Nat.min_eq_left h]
  · rw [Nat.min_eq_right h, List.take_of_length_le (Nat.le_refl _), List.take_of_length_le h]
theorem cut_from {α : Type} (xs : List α) (n : Nat) : cutL xs (some (n : Int)) none = xs.drop n := by
  unfold cutL
  rw [HT.sIx_none, HT.sIx_nat]
  rcases Nat.le_total n xs.length with h | h
  · rw [Nat.min_eq_left h, List.take_of_length_le]
    rw [List.length_drop]
    exact Nat.le_refl _
  · rw [Nat.min_eq_right h, List.drop_eq_nil_of_le h, List.drop_eq_nil_of_le (Nat.le_refl _), List.take_nil]
theorem sl_to (A : List Cv) (n : Nat) (h : List LO) : fSl (wL A) none (some (n : Int)) h = .ok (wL (A.take n)) h := by
  show R.ok (LV.tup (cutL (A.map cL) none (some (n : Int)))) h = _
  rw [cut_to, ← List.map_take]
theorem sl_from (A : List Cv) (n : Nat) (h : List LO) : fSl (wL A) (some (n : Int)) none h = .ok (wL (A.drop n)) h := by
  show R.ok (LV.tup (cutL (A.map cL) (some (n : Int)) none)) h = _
  rw [cut_from, ← List.map_drop]
theorem add_wL {A B : List Cv} (h : List LO) (hA : A.length ≤ 100) (hB : B.length ≤ 100) : fAdd (wL A) (wL B) h = .ok (wL (A ++ B)) h := by
  show (if (A.map cL).length + (B.map cL).length ≤ 60000 then R.ok (LV.tup (A.map cL ++ B.map cL)) h else R.bad) = _
  rw [if_pos (by rw [List.length_map, List.length_map]; omega), ← List.map_append]
theorem ev_sl {ρ : Rho} {h h1 h2 h3 : List LO} {v : LV} {ma : ME} {ml mh : MO} {lo hi : Option Int} {r : R LV} (e1 : ma ρ h = .ok v h1) (e2 : ml ρ h1 = .ok lo h2) (e3 : mh ρ h2 = .ok hi h3) (e4 : fSl v lo hi h3 = r) : mSl ma ml mh ρ h = r := by
  unfold mSl
  rw [e1]
  show (ml ρ h1).bind _ = _
  rw [e2]
  show (mh ρ h2).bind _ = _
  rw [e3]
  exact e4
theorem ev_clsF {i C : Nat} {ρ : Rho} {h : List LO} {ma mb : ME} {r : R LV} (e : isCls i C ρ = false) (e2 : mb ρ h = r) : (if isCls i C ρ = true then ma ρ h else mb ρ h) = r := by
  rw [e]
  exact e2
theorem ev_clsT {i C : Nat} {ρ : Rho} {h : List LO} {ma mb : ME} {r : R LV} (e : isCls i C ρ = true) (e2 : ma ρ h = r) : (if isCls i C ρ = true then ma ρ h else mb ρ h) = r := by
  rw [e]
  exact e2
theorem ne_oN (o : Option Nat) (h : List LO) : fEq true (oN o) (oN o) h = .ok (.bl false) h := by
  cases o with
  | none => rfl
  | some n =>
    show R.ok (LV.bl (!decide ((n : Int) = (n : Int)))) h = _
    rw [decide_eq_true rfl]
    rfl
theorem is_oN (o : Option Nat) (h : List LO) : fIsN false (oN o) .non h = .ok (.bl o.isNone) h := by cases o <;> rfl
theorem isn_oN (o : Option Nat) (h : List LO) : fIsN true (oN o) .non h = .ok (.bl o.isSome) h := by cases o <;> rfl
theorem ne_bl (a b : Bool) (h : List LO) : fEq true (.bl a) (.bl b) h = .ok (.bl (!decide (a = b))) h := rfl
theorem eq_bl (a b : Bool) (h : List LO) : fEq false (.bl a) (.bl b) h = .ok (.bl (decide (a = b))) h := rfl
theorem fp_alk {A B : List Cv} {k : Kd} {o : Option Nat} (h : IsFp A B k o) : alk A B k = o.isNone := by
  cases o with
  | none => exact alk_t h
  | some n =>
    obtain ⟨t, P, _⟩ := h
    exact alk_f P.not
section
variable {A B C : List Cv} {k k2 : Kd}
theorem alike_behind (h : AlikeP A B k) : AlikeP (A ++ C) (B ++ C) k := fun t ht => by rw [turn_app, turn_app, h t ht]
theorem alike_ahead (h : AlikeP A B .any) : AlikeP (C ++ A) (C ++ B) k := fun t ht => by rw [turn_app, turn_app, h _ rfl]
theorem alike_any (h : AlikeP A B .any) : AlikeP A B k := fun t ht => h t rfl
end
end Sx
set_option maxHeartbeats 400000
namespace Sx
open PySem PySem.Spec Rm K04
/-! ### the law's own machine -/
theorem c_lsign (c : Cv) (b : Bool) (s : Sg) : cal m__law_sign [cL c, .bl b, gL s] = some (.tup [.bl (one c b s).1, sL (one c b s).2]) := by
  cases c <;> cases b <;> cases s <;> rfl
def lrI : MS := (mSeq (mAsg (mCall 3 m__law_sign (mCons (mVar 4) (mCons (mVar 5) (mCons (mVar 7) mNil)))) (mGTup 2 (mGCons (mName 5) (mGCons (mName 8) mGNil)))) (mAsg (mOp fAdd (mVar 6) (mVar 8)) (mName 6)))
theorem lr_in (wv bv tv lv : Option LV) (c : Cv) (h : List LO) : ∀ (t : List Sg) (b : Bool) (F : List Sg) (x7 x8 : Option LV), F.length + 2 * t.length ≤ 60000 →
    ∃ y7 y8, runL (mName 7) lrI (t.map gL) [wv, bv, tv, lv, some (cL c), some (.bl b), some (sL F), x7, x8] h = .ok (.nx, [wv, bv, tv, lv, some (cL c), some (.bl (many c b t).1), some (sL (F ++ (many c b t).2)), y7, y8]) h
  | [], b, F, x7, x8, hl => ⟨x7, x8, by simp [many, runL]⟩
  | s :: t, b, F, x7, x8, hl => by
    simp only [List.length_cons] at hl
    have h1 := one_len c b s
    obtain ⟨y7, y8, ih⟩ := lr_in wv bv tv lv c h t (one c b s).1 (F ++ (one c b s).2) (some (gL s)) (some (sL (one c b s).2)) (by rw [List.length_append]; omega)
    refine ⟨y7, y8, ?_⟩
    rw [List.map_cons]
    refine ev_lcons (ρ2 := [wv, bv, tv, lv, some (cL c), some (.bl (one c b s).1), some (sL (F ++ (one c b s).2)), some (gL s), some (sL (one c b s).2)]) rfl (ev_seq (ev_asg (ev_call (ev_cons rfl (ev_cons rfl (ev_cons rfl rfl))) (c_lsign c b s) rfl rfl) rfl) (ev_asg (ev_op rfl rfl (add_sL _ (by omega))) rfl)) ?_
    simp only [many]
    rw [List.append_assoc] at ih
    exact ih
def lrO : MS := (mSeq (mAsg (mC (.str [])) (mName 6)) (mSeq (mFor (mAnyI (mVar 2)) (mName 7) lrI) (mSeq (mDrop (mApp (mVar 3) (mVar 5))) (mAsg (mVar 6) (mName 2)))))
theorem lr_out (wv bv : Option LV) : ∀ (ws : List Cv) (bs : List Bool) (t : List Sg) (acc : List LV) (x4 x5 x6 x7 x8 : Option LV), bs.length = ws.length → 2 ^ ws.length * t.length ≤ 20000 → acc.length + ws.length ≤ 1000 →
    ∃ y4 y5 y6 y7 y8, runL (mGTup 2 (mGCons (mName 4) (mGCons (mName 5) mGNil))) lrO (zipL (ws.map cL) (bs.map .bl)) [wv, bv, some (sL t), some (.ref 0), x4, x5, x6, x7, x8] [.lst acc] = .ok (.nx, [wv, bv, some (sL (stepW ws bs t).2), some (.ref 0), y4, y5, y6, y7, y8]) [.lst (acc ++ (stepW ws bs t).1.map .bl)]
  | [], bs, t, acc, x4, x5, x6, x7, x8, h1, h2, h3 => ⟨x4, x5, x6, x7, x8, by simp [stepW, zipL, runL]⟩
  | c :: ws, [], t, acc, x4, x5, x6, x7, x8, h1, h2, h3 => by simp at h1
  | c :: ws, b :: bs, t, acc, x4, x5, x6, x7, x8, h1, h2, h3 => by
    simp only [List.length_cons] at h1 h2 h3
    have hm := many_len c t b
    have ht : t.length ≤ 20000 := by
      refine Nat.le_trans ?_ h2
      exact Nat.le_mul_of_pos_left _ (by have : 1 ≤ 2 ^ ws.length := Nat.one_le_two_pow; rw [Nat.pow_succ]; omega)
    have h2' : 2 ^ ws.length * (many c b t).2.length ≤ 20000 := by
      refine Nat.le_trans (Nat.mul_le_mul_left _ hm) ?_
      rw [← Nat.mul_assoc, ← Nat.pow_succ]
      exact h2
    obtain ⟨z7, z8, e1⟩ := lr_in wv bv (some (sL t)) (some (.ref 0)) c [.lst acc] t b [] x7 x8 (by simp only [List.length_nil]; omega)
    obtain ⟨y4, y5, y6, y7, y8, ih⟩ := lr_out wv bv ws bs (many c b t).2 (acc ++ [.bl (many c b t).1]) (some (cL c)) (some (.bl (many c b t).1)) (some (sL (many c b t).2)) z7 z8 (by omega) h2' (by simp only [List.length_append, List.length_singleton]; omega)
    refine ⟨y4, y5, y6, y7, y8, ?_⟩
    rw [List.map_cons, List.map_cons]
    show runL _ _ (LV.tup [cL c, .bl b] :: zipL (ws.map cL) (bs.map .bl)) _ _ = _
    refine ev_lcons (ρ1 := [wv, bv, some (sL t), some (.ref 0), some (cL c), some (.bl b), x6, x7, x8]) (ρ2 := [wv, bv, some (sL (many c b t).2), some (.ref 0), some (cL c), some (.bl (many c b t).1), some (sL (many c b t).2), z7, z8]) rfl (ev_seq (ev_asg rfl rfl) (ev_seq (ev_for (ev_any (t := t) rfl) (by rw [List.length_map]; omega) e1) (ev_seq (ev_drop (ev_app rfl rfl rfl rfl (by omega))) (ev_asg rfl rfl)))) ?_
    simp only [stepW, List.map_cons]
    rw [List.append_assoc, List.singleton_append] at ih
    exact ih
theorem c_lread (ws : List Cv) (bs : List Bool) (t : List Sg) (h1 : bs.length = ws.length) (h2 : 2 ^ ws.length * t.length ≤ 20000) (h3 : ws.length ≤ 100) : cal m__law_read [wL ws, bL bs, sL t] = some (.tup [bL (stepW ws bs t).1, sL (stepW ws bs t).2]) := by
  obtain ⟨y4, y5, y6, y7, y8, e⟩ := lr_out (some (wL ws)) (some (bL bs)) ws bs t [] none none none none none h1 h2 (by simp only [List.length_nil]; omega)
  refine cal_of (v := .tup [bL (stepW ws bs t).1, sL (stepW ws bs t).2]) (fn_rt (ev_seq (ev_asg (ev_lstM rfl (Nat.zero_le _)) rfl) (ev_seq (ev_for (ev_zip (xs := ws.map cL) (ys := bs.map .bl) rfl) (by have := zipL_len (ws.map cL) (bs.map .bl); rw [List.length_map] at this; omega) e) (ev_ret (ev_tup (ev_cons (ev_cb rfl rfl) (ev_cons rfl rfl)) ?_))))) ?_
  · show 2 ≤ 60000; decide
  · refine outV_pure ?_
    exact pures_cons (pure_bL _) rfl
theorem c_lfirst (ws : List Cv) (h3 : ws.length ≤ 100) : cal m__law_first [wL ws] = some (bL (List.replicate ws.length false)) := c_start ws h3
end Sx
namespace Sx
open PySem PySem.Spec Rm K04
/-! ### the end -/
def leI : MS := (mSeq (mAsg (mCall 3 m__law_sign (mCons (mVar 3) (mCons (mVar 4) (mCons (mVar 6) mNil)))) (mGTup 2 (mGCons (mName 4) (mGCons (mName 7) mGNil)))) (mAsg (mOp fAdd (mVar 5) (mVar 7)) (mName 5)))
theorem le_in (wv bv tv : Option LV) (c : Cv) (h : List LO) : ∀ (t : List Sg) (b : Bool) (F : List Sg) (x6 x7 : Option LV), F.length + 2 * t.length ≤ 60000 →
    ∃ y6 y7, runL (mName 6) leI (t.map gL) [wv, bv, tv, some (cL c), some (.bl b), some (sL F), x6, x7] h = .ok (.nx, [wv, bv, tv, some (cL c), some (.bl (many c b t).1), some (sL (F ++ (many c b t).2)), y6, y7]) h
  | [], b, F, x6, x7, hl => ⟨x6, x7, by simp [many, runL]⟩
  | s :: t, b, F, x6, x7, hl => by
    simp only [List.length_cons] at hl
    have h1 := one_len c b s
    obtain ⟨y6, y7, ih⟩ := le_in wv bv tv c h t (one c b s).1 (F ++ (one c b s).2) (some (gL s)) (some (sL (one c b s).2)) (by rw [List.length_append]; omega)
    refine ⟨y6, y7, ?_⟩
    rw [List.map_cons]
    refine ev_lcons (ρ2 := [wv, bv, tv, some (cL c), some (.bl (one c b s).1), some (sL (F ++ (one c b s).2)), some (gL s), some (sL (one c b s).2)]) rfl (ev_seq (ev_asg (ev_call (ev_cons rfl (ev_cons rfl (ev_cons rfl rfl))) (c_lsign c b s) rfl rfl) rfl) (ev_asg (ev_op rfl rfl (add_sL _ (by omega))) rfl)) ?_
    simp only [many]
    rw [List.append_assoc] at ih
    exact ih
def leO : MS := (mSeq (mAsg (mC (.str [])) (mName 5)) (mSeq (mFor (mAnyI (mVar 2)) (mName 6) leI) (mSeq (mAsg (mVar 5) (mName 2)) (mIfS (mAnd (mTru (mVar 4)) (mB (mOp (fEq true) (mVar 3) (mC (.str [99, 97, 114, 101]))))) (mAsg (mOp fAdd (mVar 5) (mIf (mB (mOp (fEq false) (mVar 3) (mC (.str [112, 97, 105, 114, 115])))) (mC (.str [114])) (mC (.str [110])))) (mName 2)) mNext))))
theorem ne_care (c : Cv) (ρ : Rho) (h : List LO) (e : ρ[3]? = some (some (cL c))) : mOp (fEq true) (mVar 3) (mC (.str [99, 97, 114, 101])) ρ h = .ok (.bl (decide (c ≠ .care))) h := by
  unfold mOp mVar
  rw [e]
  cases c <;> rfl
theorem tail_at (c : Cv) (hc : holds c = true) (ρ : Rho) (h : List LO) (e : ρ[3]? = some (some (cL c))) : mIf (mB (mOp (fEq false) (mVar 3) (mC (.str [112, 97, 105, 114, 115])))) (mC (.str [114])) (mC (.str [110])) ρ h = .ok (sL (heldE c)) h := by
  unfold mIf mB mOp mVar
  rw [e]
  cases c <;> first | rfl | cases hc
theorem le_out (wv bv : Option LV) : ∀ (ws : List Cv) (bs : List Bool) (t : List Sg) (x3 x4 x5 x6 x7 : Option LV), bs.length = ws.length → okS ws bs = true → 2 ^ ws.length * (t.length + 1) ≤ 20000 →
    ∃ y3 y4 y5 y6 y7, runL (mGTup 2 (mGCons (mName 3) (mGCons (mName 4) mGNil))) leO (zipL (ws.map cL) (bs.map .bl)) [wv, bv, some (sL t), x3, x4, x5, x6, x7] [] = .ok (.nx, [wv, bv, some (sL (endW ws bs t)), y3, y4, y5, y6, y7]) []
  | [], bs, t, x3, x4, x5, x6, x7, h1, h0, h2 => ⟨x3, x4, x5, x6, x7, by simp [endW, zipL, runL]⟩
  | c :: ws, [], t, x3, x4, x5, x6, x7, h1, h0, h2 => by simp at h1
  | c :: ws, b :: bs, t, x3, x4, x5, x6, x7, h1, h0, h2 => by
    simp only [List.length_cons] at h1 h2
    simp only [okS, List.zip_cons_cons, List.all_cons, Bool.and_eq_true] at h0
    have hr := runF_len c b t
    have hm := many_len c t b
    have hp : 1 ≤ 2 ^ ws.length := Nat.one_le_two_pow
    have ht : t.length ≤ 20000 := by
      have : t.length + 1 ≤ 2 ^ (ws.length + 1) * (t.length + 1) := Nat.le_mul_of_pos_left _ (by rw [Nat.pow_succ]; omega)
      omega
    have h2' : 2 ^ ws.length * ((runF c b t).length + 1) ≤ 20000 := by
      refine Nat.le_trans (Nat.mul_le_mul_left _ (show (runF c b t).length + 1 ≤ 2 * (t.length + 1) by omega)) ?_
      rw [← Nat.mul_assoc, ← Nat.pow_succ]
      exact h2
    obtain ⟨z6, z7, e1⟩ := le_in wv bv (some (sL t)) c [] t b [] x6 x7 (by simp only [List.length_nil]; omega)
    obtain ⟨y3, y4, y5, y6, y7, ih⟩ := le_out wv bv ws bs (runF c b t) (some (cL c)) (some (.bl (many c b t).1)) (some (sL (many c b t).2)) z6 z7 (by omega) h0.2 h2'
    refine ⟨y3, y4, y5, y6, y7, ?_⟩
    rw [List.map_cons, List.map_cons]
    show runL _ _ (LV.tup [cL c, .bl b] :: zipL (ws.map cL) (bs.map .bl)) _ _ = _
    refine ev_lcons (ρ1 := [wv, bv, some (sL t), some (cL c), some (.bl b), x5, x6, x7]) (ρ2 := [wv, bv, some (sL (runF c b t)), some (cL c), some (.bl (many c b t).1), some (sL (many c b t).2), z6, z7]) rfl (ev_seq (ev_asg rfl rfl) (ev_seq (ev_for (ev_any (t := t) rfl) (by rw [List.length_map]; omega) e1) (ev_seq (ev_asg rfl rfl) ?_))) ih
    refine ev_ifS (ev_and (ev_truB rfl) fun _ => ev_b (ne_care c _ _ rfl)) ?_
    have hh : ((many c b t).1 && decide (c ≠ .care)) = ((many c b t).1 && holds c) := by
      by_cases hpl : plain c = true
      · have hb : b = false := by
          have := h0.1
          rw [hpl] at this
          simpa using this
        rw [hb, many_plain hpl]
        rfl
      · congr 1
        cases c <;> first | rfl | exact absurd rfl hpl
    rw [hh]
    cases q : ((many c b t).1 && holds c) with
    | false =>
      have e : runF c b t = (many c b t).2 := by simp [runF, tailE, q]
      rw [e]
      rfl
    | true =>
      rw [if_pos rfl]
      have hc : holds c = true := by
        rw [Bool.and_eq_true] at q
        exact q.2
      have e : runF c b t = (many c b t).2 ++ heldE c := by simp [runF, tailE, q]
      rw [e]
      refine ev_asg (ev_op rfl (tail_at c hc _ _ rfl) (add_sL _ ?_)) rfl
      rw [← List.length_append, List.nil_append, ← e]
      omega
theorem c_lend (ws : List Cv) (bs : List Bool) (h1 : bs.length = ws.length) (h0 : okS ws bs = true) (h3 : ws.length ≤ 12) : cal m__law_end [wL ws, bL bs] = some (sL (endW ws bs [])) := by
  have h2 : 2 ^ ws.length * (([] : List Sg).length + 1) ≤ 20000 := by
    have := Nat.pow_le_pow_right (show 0 < 2 by decide) h3
    simp only [List.length_nil]
    omega
  obtain ⟨y3, y4, y5, y6, y7, e⟩ := le_out (some (wL ws)) (some (bL bs)) ws bs [] none none none none none h1 h0 h2
  exact cal_of (fn_rt (ev_seq (ev_asg rfl rfl) (ev_seq (ev_for (ev_zip (xs := ws.map cL) (ys := bs.map .bl) rfl) (by have := zipL_len (ws.map cL) (bs.map .bl); rw [List.length_map] at this; omega) e) (ev_ret rfl)))) (outV_pure rfl)
theorem c_lcan (k : Kd) (b : Bool) (s : Sg) : cal m__law_can [kL k, .bl b, gL s] = some (.bl (match k with
  | .any => true
  | .bare => decide (s ≠ .r)
  | .lone => decide (s ≠ .n)
  | .paired => decide (s = .n) == b)) := by
  cases k <;> cases b <;> cases s <;> rfl
end Sx
set_option maxHeartbeats 1000000
namespace Sx
open PySem PySem.Spec Rm K04
/-! ### what the law makes of a text -/
def lbI : MS := (mSeq (mAsg (mOp (fEq false) (mSl (mVar 1) (mPart (mOp fAdd (mVar 3) (mC (.int 1)))) (mPart (mOp fAdd (mVar 3) (mC (.int 2))))) (mC (.str [110]))) (mName 5)) (mSeq (mAsg (mAndV (mOp (fCmp fun i j => decide (j < i)) (mVar 3) (mC (.int 0))) (mOp (fEq false) (mOp fIxX (mVar 1) (mOp fSub (mVar 3) (mC (.int 1)))) (mC (.str [114])))) (mName 6)) (mIfS (mAnd (mB (mOp (fEq false) (mVar 4) (mC (.str [110])))) (mOr (mB (mOp (fEq false) (mVar 0) (mC (.str [97, 108, 108])))) (mAnd (mB (mOp (fEq false) (mVar 0) (mC (.str [99, 97, 114, 101])))) (mNot (mTru (mVar 6)))))) (mAsg (mOp fAdd (mVar 2) (mC (.str [114, 110]))) (mName 2)) (mIfS (mAnd (mB (mOp (fEq false) (mVar 4) (mC (.str [110])))) (mB (mOp (fEq false) (mVar 0) (mC (.str [108, 111, 110, 101]))))) (mAsg (mOp fAdd (mVar 2) (mC (.str [114]))) (mName 2)) (mIfS (mAnd (mB (mOp (fEq false) (mVar 4) (mC (.str [114])))) (mB (mOp (fInY false) (mVar 0) (mTup (mCons (mC (.str [98, 111, 116, 104])) (mCons (mC (.str [108, 111, 110, 101, 115])) (mCons (mC (.str [112, 97, 105, 114, 115])) mNil))))))) (mSeq (mAsg (mDIx [[98, 111, 116, 104], [108, 111, 110, 101, 115], [112, 97, 105, 114, 115]] (mCons (mLst (mCons (mC (.str [110])) (mCons (mC (.str [])) mNil))) (mCons (mLst (mCons (mC (.str [110])) (mCons (mC (.str [114])) mNil))) (mCons (mLst (mCons (mC (.str [114])) (mCons (mC (.str [])) mNil))) mNil))) (mVar 0)) (mName 7)) (mAsg (mOp fAdd (mVar 2) (mOp fIxX (mVar 7) (mIf (mTru (mVar 5)) (mC (.int 1)) (mC (.int 0))))) (mName 2))) (mAsg (mOp fAdd (mVar 2) (mVar 4)) (mName 2)))))))
theorem lb_is : mb__law_by = (mSeq (mAsg (mC (.str [])) (mName 2)) (mSeq (mFor (mEnumX (mCons (mVar 1) mNil)) (mGTup 2 (mGCons (mName 3) (mGCons (mName 4) mGNil))) lbI) (mRet (mVar 2)))) := rfl
theorem lb_in (c : Cv) (s : Sg) (b nb : Bool) (T : LV) (F : List Sg) (i : LV) (x5 x6 x7 : Option LV) (h : List LO) (hF : F.length + 2 ≤ 60000)
    (e1 : mOp (fEq false) (mSl (mVar 1) (mPart (mOp fAdd (mVar 3) (mC (.int 1)))) (mPart (mOp fAdd (mVar 3) (mC (.int 2))))) (mC (.str [110])) [some (cL c), some T, some (sL F), some i, some (gL s), x5, x6, x7] h = .ok (.bl nb) h)
    (e2 : mAndV (mOp (fCmp fun i j => decide (j < i)) (mVar 3) (mC (.int 0))) (mOp (fEq false) (mOp fIxX (mVar 1) (mOp fSub (mVar 3) (mC (.int 1)))) (mC (.str [114]))) [some (cL c), some T, some (sL F), some i, some (gL s), some (.bl nb), x6, x7] h = .ok (.bl b) h) :
    ∃ y7, lbI [some (cL c), some T, some (sL F), some i, some (gL s), x5, x6, x7] h = .ok (.nx, [some (cL c), some T, some (sL (F ++ outS c b nb s)), some i, some (gL s), some (.bl nb), some (.bl b), y7]) h := by
  have ha : ∀ y : List Sg, y.length ≤ 2 → fAdd (sL F) (sL y) h = .ok (sL (F ++ y)) h := fun y hy => add_sL h (by omega)
  have a0 := ha [] (by decide)
  have a1 := fun g => ha [g] (by simp)
  have a2 := ha [.r, .n] (by decide)
  have key : ∀ (t : MS) (y7 : Option LV) (y : List Sg), t [some (cL c), some T, some (sL F), some i, some (gL s), some (.bl nb), some (.bl b), x7] h = .ok (.nx, [some (cL c), some T, some (sL (F ++ y)), some i, some (gL s), some (.bl nb), some (.bl b), y7]) h → y = outS c b nb s → mSeq (mAsg (mOp (fEq false) (mSl (mVar 1) (mPart (mOp fAdd (mVar 3) (mC (.int 1)))) (mPart (mOp fAdd (mVar 3) (mC (.int 2))))) (mC (.str [110]))) (mName 5)) (mSeq (mAsg (mAndV (mOp (fCmp fun i j => decide (j < i)) (mVar 3) (mC (.int 0))) (mOp (fEq false) (mOp fIxX (mVar 1) (mOp fSub (mVar 3) (mC (.int 1)))) (mC (.str [114])))) (mName 6)) t) [some (cL c), some T, some (sL F), some i, some (gL s), x5, x6, x7] h = .ok (.nx, [some (cL c), some T, some (sL (F ++ outS c b nb s)), some i, some (gL s), some (.bl nb), some (.bl b), y7]) h := by
    intro t y7 y e ey
    subst ey
    exact ev_seq (ev_asg e1 rfl) (ev_seq (ev_asg e2 rfl) e)
  unfold lbI
  cases s with
  | a => exact ⟨x7, key _ x7 [.a] (ev_ifF rfl (ev_ifF rfl (ev_ifF rfl (ev_asg (ev_op rfl rfl (a1 .a)) rfl)))) rfl⟩
  | n =>
    cases c with
    | all => exact ⟨x7, key _ x7 [.r, .n] (ev_ifT rfl (ev_asg (ev_op rfl rfl a2) rfl)) rfl⟩
    | both => exact ⟨x7, key _ x7 [.n] (ev_ifF rfl (ev_ifF rfl (ev_ifF rfl (ev_asg (ev_op rfl rfl (a1 .n)) rfl)))) rfl⟩
    | care =>
      cases b with
      | true => exact ⟨x7, key _ x7 [.n] (ev_ifF rfl (ev_ifF rfl (ev_ifF rfl (ev_asg (ev_op rfl rfl (a1 .n)) rfl)))) rfl⟩
      | false => exact ⟨x7, key _ x7 [.r, .n] (ev_ifT rfl (ev_asg (ev_op rfl rfl a2) rfl)) rfl⟩
    | lone => exact ⟨x7, key _ x7 [.r] (ev_ifF rfl (ev_ifT rfl (ev_asg (ev_op rfl rfl (a1 .r)) rfl))) rfl⟩
    | lones => exact ⟨x7, key _ x7 [.n] (ev_ifF rfl (ev_ifF rfl (ev_ifF rfl (ev_asg (ev_op rfl rfl (a1 .n)) rfl)))) rfl⟩
    | pairs => exact ⟨x7, key _ x7 [.n] (ev_ifF rfl (ev_ifF rfl (ev_ifF rfl (ev_asg (ev_op rfl rfl (a1 .n)) rfl)))) rfl⟩
  | r =>
    cases c with
    | all => exact ⟨x7, key _ x7 [.r] (ev_ifF rfl (ev_ifF rfl (ev_ifF rfl (ev_asg (ev_op rfl rfl (a1 .r)) rfl)))) rfl⟩
    | care => exact ⟨x7, key _ x7 [.r] (ev_ifF rfl (ev_ifF rfl (ev_ifF rfl (ev_asg (ev_op rfl rfl (a1 .r)) rfl)))) rfl⟩
    | lone => exact ⟨x7, key _ x7 [.r] (ev_ifF rfl (ev_ifF rfl (ev_ifF rfl (ev_asg (ev_op rfl rfl (a1 .r)) rfl)))) rfl⟩
    | both =>
      cases nb with
      | true => exact ⟨_, key _ _ [] (ev_ifF rfl (ev_ifF rfl (ev_ifT rfl (ev_seq rfl (ev_asg (ev_op rfl rfl a0) rfl))))) rfl⟩
      | false => exact ⟨_, key _ _ [.n] (ev_ifF rfl (ev_ifF rfl (ev_ifT rfl (ev_seq rfl (ev_asg (ev_op rfl rfl (a1 .n)) rfl))))) rfl⟩
    | lones =>
      cases nb with
      | true => exact ⟨_, key _ _ [.r] (ev_ifF rfl (ev_ifF rfl (ev_ifT rfl (ev_seq rfl (ev_asg (ev_op rfl rfl (a1 .r)) rfl))))) rfl⟩
      | false => exact ⟨_, key _ _ [.n] (ev_ifF rfl (ev_ifF rfl (ev_ifT rfl (ev_seq rfl (ev_asg (ev_op rfl rfl (a1 .n)) rfl))))) rfl⟩
    | pairs =>
      cases nb with
      | true => exact ⟨_, key _ _ [] (ev_ifF rfl (ev_ifF rfl (ev_ifT rfl (ev_seq rfl (ev_asg (ev_op rfl rfl a0) rfl))))) rfl⟩
      | false => exact ⟨_, key _ _ [.r] (ev_ifF rfl (ev_ifF rfl (ev_ifT rfl (ev_seq rfl (ev_asg (ev_op rfl rfl (a1 .r)) rfl))))) rfl⟩
theorem cutN {α : Type} (xs : List α) (a b : Nat) (h : a ≤ b) : cutL xs (some (a : Int)) (some (b : Int)) = (xs.drop a).take (b - a) := by
  have e : ∀ (d a : Nat), HT.sIx xs.length d (some (a : Int)) = min a xs.length := fun d a => by
    simp only [HT.sIx]
    split <;> omega
  unfold cutL
  rw [e, e]
  rw [List.drop_eq_drop_iff.mpr (show min (min a xs.length) xs.length = min a xs.length by omega)]
  by_cases c : a ≤ xs.length
  · by_cases c2 : b ≤ xs.length
    · congr 1
      omega
    · rw [List.take_of_length_le (by rw [List.length_drop]; omega), List.take_of_length_le (by rw [List.length_drop]; omega)]
  · rw [List.drop_eq_nil_of_le (by omega), List.take_nil, List.take_nil]
def lastR : List Sg → Bool
  | [] => false
  | [s] => decide (s = .r)
  | _ :: l => lastR l
theorem lastR_snoc : ∀ (x : List Sg) (s : Sg), lastR (x ++ [s]) = decide (s = .r)
  | [], s => rfl
  | [a], s => rfl
  | a :: b :: l, s => lastR_snoc (b :: l) s
theorem lastR_get : ∀ (x : List Sg) (h : 0 < x.length), lastR x = decide (x[x.length - 1] = .r)
  | [a], h => rfl
  | a :: b :: l, h => by
    show lastR (b :: l) = _
    rw [lastR_get (b :: l) (by simp)]
    simp
theorem lb_loop (c : Cv) (T : List Sg) (hT : T.length ≤ 20000) : ∀ (l x : List Sg) (F : List Sg) (x3 x4 x5 x6 x7 : Option LV), T = x ++ l → F.length + 2 * l.length ≤ 50000 →
    ∃ y3 y4 y5 y6 y7, runL (mGTup 2 (mGCons (mName 3) (mGCons (mName 4) mGNil))) lbI (enumL x.length (l.map gL)) [some (cL c), some (sL T), some (sL F), x3, x4, x5, x6, x7] [] = .ok (.nx, [some (cL c), some (sL T), some (sL (F ++ go c (lastR x) l)), y3, y4, y5, y6, y7]) []
  | [], x, F, x3, x4, x5, x6, x7, e, hF => ⟨x3, x4, x5, x6, x7, by simp [enumL, runL, go]⟩
  | s :: l, x, F, x3, x4, x5, x6, x7, e, hF => by
    simp only [List.length_cons] at hF
    have ho := outS_len c (lastR x) (isN l) s
    obtain ⟨y7, eb⟩ := lb_in c s (lastR x) (isN l) (sL T) F (.int (x.length : Int)) x5 x6 x7 [] (by omega) (by
      refine ev_op (v := sL ((T.drop (x.length + 1)).take 1)) (h1 := []) (h2 := []) ?_ rfl ?_
      · show fSl (sL T) (some ((x.length : Int) + 1)) (some ((x.length : Int) + 2)) [] = _
        show (if (T.map Sg.c).length ≤ 60000 then R.ok (LV.str (cutL (T.map Sg.c) (some (((x.length + 1 : Nat)) : Int)) (some ((x.length + 2 : Nat) : Int)))) [] else .bad) = _
        rw [List.length_map, if_pos (by omega), cutN _ _ _ (by omega), ← List.map_drop, ← List.map_take]
        congr 6
        omega
      · refine (eq_sL _ [.n] []).trans ?_
        have : T.drop (x.length + 1) = l := by
          rw [e, show x.length + 1 = (x ++ [s]).length by simp, show x ++ s :: l = (x ++ [s]) ++ l by simp, List.drop_left]
        rw [this]
        cases l with
        | nil => rfl
        | cons t l => cases t <;> simp [isN]) (by
      rcases List.eq_nil_or_concat x with hx | ⟨x', t, hx⟩
      · subst hx
        rfl
      · rw [List.concat_eq_append] at hx
        subst hx
        rw [lastR_snoc]
        refine ev_andV (c := true) (ev_op rfl rfl ?_) fun _ => ?_
        · show R.ok (LV.bl (decide ((0 : Int) < ((x' ++ [t]).length : Int)))) [] = _
          rw [decide_eq_true (by simp)]
        · refine ev_op (v := gL t) (h1 := []) (h2 := []) (ev_op (v := sL T) (w := .int (x'.length : Int)) (h1 := []) (h2 := []) rfl ?_ ?_) rfl ?_
          · refine ev_op (v := .int ((x' ++ [t]).length : Int)) (w := .int 1) (h1 := []) (h2 := []) rfl rfl ?_
            show R.ok (LV.int (((x' ++ [t]).length : Int) - 1)) [] = _
            congr 2
            simp
          · have hlt : x'.length < T.length := by rw [e]; simp
            have := ix_sL (x := T) (i := x'.length) [] hlt (by omega)
            rw [this]
            congr 3
            simp [e]
          · cases t <;> rfl)
    obtain ⟨z3, z4, z5, z6, z7, ih⟩ := lb_loop c T hT l (x ++ [s]) (F ++ outS c (lastR x) (isN l) s) (some (.int (x.length : Int))) (some (gL s)) (some (.bl (isN l))) (some (.bl (lastR x))) y7 (by rw [e]; simp) (by rw [List.length_append]; omega)
    refine ⟨z3, z4, z5, z6, z7, ?_⟩
    rw [lastR_snoc, List.append_assoc] at ih
    rw [List.map_cons]
    refine ev_lcons (ρ1 := [some (cL c), some (sL T), some (sL F), some (.int (x.length : Int)), some (gL s), x5, x6, x7]) rfl eb ?_
    rw [show (x ++ [s]).length = x.length + 1 by simp] at ih
    exact ih
theorem c_lby (c : Cv) (t : List Sg) (hl : t.length ≤ 20000) : cal m__law_by [cL c, sL t] = some (sL (by1 c t)) := by
  obtain ⟨y3, y4, y5, y6, y7, e⟩ := lb_loop c t hl t [] [] none none none none none rfl (by simp; omega)
  refine cal_of (v := sL (by1 c t)) (fn_rt (ev_seq (ev_asg rfl rfl) (ev_seq (ev_for (xs := enumL 0 (t.map gL)) (h1 := []) ?_ ?_ e) (ev_ret rfl)))) (outV_pure rfl)
  · show R.ok (Itr.vals (enumL 0 ((t.map Sg.c).map fun c => .str [c]))) [] = _
    rw [List.map_map]
    rfl
  · have : ∀ (xs : List LV) (n : Nat), (enumL n xs).length = xs.length := fun xs => by
      induction xs with
      | nil => intro n; rfl
      | cons x xs ih => intro n; simp [enumL, ih]
    rw [this, List.length_map]
    omega
def lmB : MS := (mAsg (mCall 2 m__law_by (mCons (mVar 2) (mCons (mVar 1) mNil))) (mName 1))
theorem lm_loop (w : Option LV) : ∀ (A : List Cv) (t : List Sg) (x2 : Option LV), 2 ^ A.length * t.length ≤ 20000 → ∃ y2, runL (mName 2) lmB (A.map cL) [w, some (sL t), x2] [] = .ok (.nx, [w, some (sL (turnL A t)), y2]) []
  | [], t, x2, h => ⟨x2, rfl⟩
  | c :: A, t, x2, h => by
    have hb := by1_len c t
    have hp : 1 ≤ 2 ^ (c :: A).length := Nat.one_le_two_pow
    have ht : t.length ≤ 20000 := Nat.le_trans (Nat.le_mul_of_pos_left _ (by omega)) h
    obtain ⟨y2, ih⟩ := lm_loop w A (by1 c t) (some (cL c)) (by
      refine Nat.le_trans (Nat.mul_le_mul_left _ hb) ?_
      rw [← Nat.mul_assoc, ← Nat.pow_succ]
      exact h)
    refine ⟨y2, ?_⟩
    rw [List.map_cons]
    exact ev_lcons rfl (ev_asg (ev_call (ev_cons rfl (ev_cons rfl rfl)) (c_lby c t ht) rfl rfl) rfl) ih
theorem c_lmade (A : List Cv) (t : List Sg) (hA : A.length ≤ 100) (h : 2 ^ A.length * t.length ≤ 20000) : cal m__law_made [wL A, sL t] = some (sL (turnL A t)) := by
  obtain ⟨y2, e⟩ := lm_loop (some (wL A)) A t none h
  exact cal_of (v := sL (turnL A t)) (fn_rt (ev_seq (ev_for (ev_anyT (xs := A.map cL) rfl) (by rw [List.length_map]; omega) e) (ev_ret rfl))) (outV_pure rfl)
end Sx
set_option maxHeartbeats 1000000
namespace Sx
open PySem PySem.Spec Rm K04
/-! ### the law's kinds -/
theorem gl_in (g : Sg) : ∀ t : List Sg, ((t.map gL).any fun y => eqF y (gL g)) = decide (g ∈ t)
  | [] => rfl
  | s :: t => by
    rw [List.map_cons, List.any_cons, gl_in g t]
    have : eqF (gL s) (gL g) = decide (g = s) := by cases g <;> cases s <;> rfl
    rw [this]
    simp
theorem gl_flat : ∀ t : List Sg, (t.map gL).all flatL = true
  | [] => rfl
  | s :: t => by rw [List.map_cons, List.all_cons, gl_flat t]; rfl
theorem in_gl (neg : Bool) (g : Sg) (t : List Sg) (h : List LO) : fInY neg (gL g) (.vl (t.map gL)) h = .ok (.bl (if neg then !decide (g ∈ t) else decide (g ∈ t))) h := by
  have e : fIn neg (gL g) (.vl (t.map gL)) h = .ok (.bl (if neg then !decide (g ∈ t) else decide (g ∈ t))) h := by
    show (if (flatL (gL g) && (t.map gL).all flatL) = true then R.ok (LV.bl (if neg then !((t.map gL).any fun y => eqF y (gL g)) else (t.map gL).any fun y => eqF y (gL g))) h else R.bad) = _
    rw [gl_in, gl_flat]
    rfl
  exact e
theorem pre_rn (c : Nat) (m : List Nat) : TL.pre [114, 110] (114 :: c :: m) = decide (c = 110) := by
  by_cases h : c = 110
  · subst h; rfl
  · rw [decide_eq_false h]
    simp [TL.pre, h, Ne.symm h]
theorem pre_ne {c : Nat} (h : c ≠ 114) (m : List Nat) : TL.pre [114, 110] (c :: m) = false := by
  simp [TL.pre, h, Ne.symm h]
theorem spl_strip : ∀ (t : List Sg) (acc : List Nat), (TL.spl [114, 110] 0 acc (t.map Sg.c)).flatten = acc ++ (strip t).map Sg.c
  | [], acc => by simp [TL.spl_nil, strip]
  | .a :: l, acc => by
    rw [List.map_cons, TL.spl_miss (pre_ne (by decide) _), spl_strip l]
    simp [strip]
  | .n :: l, acc => by
    rw [List.map_cons, TL.spl_miss (pre_ne (by decide) _), spl_strip l]
    simp [strip]
  | [.r], acc => by
    rw [List.map_cons, TL.spl_miss (by rfl), List.map_nil, TL.spl_nil]
    simp [strip]
  | .r :: .n :: l, acc => by
    show (TL.spl [114, 110] 0 acc (114 :: 110 :: l.map Sg.c)).flatten = _
    rw [TL.spl_hit (show TL.pre [114, 110] (114 :: 110 :: _) = true from pre_rn 110 _)]
    show (acc :: TL.spl [114, 110] 1 [] (110 :: l.map Sg.c)).flatten = _
    rw [TL.spl_pass]
    show (acc :: TL.spl [114, 110] 0 [] (l.map Sg.c)).flatten = _
    rw [List.flatten_cons, spl_strip l]
    simp [strip]
  | .r :: .a :: l, acc => by
    have ih := spl_strip (.a :: l) (acc ++ [114])
    show (TL.spl [114, 110] 0 acc (114 :: 97 :: l.map Sg.c)).flatten = _
    rw [TL.spl_miss (show TL.pre [114, 110] (114 :: 97 :: _) = false from pre_rn 97 _)]
    refine ih.trans ?_
    simp [strip, Sg.c]
  | .r :: .r :: l, acc => by
    have ih := spl_strip (.r :: l) (acc ++ [114])
    show (TL.spl [114, 110] 0 acc (114 :: 114 :: l.map Sg.c)).flatten = _
    rw [TL.spl_miss (show TL.pre [114, 110] (114 :: 114 :: _) = false from pre_rn 114 _)]
    refine ih.trans ?_
    simp [strip, Sg.c]
def piec (t : List Sg) : List (List Nat) := (Txt.split ⟨(t.map Sg.c).toArray⟩ ⟨[114, 110].toArray⟩).map fun u => u.cps.toList
theorem piec_flat (t : List Sg) : (piec t).flatten = (strip t).map Sg.c := by
  have e := TL.split_spl ⟨(t.map Sg.c).toArray⟩ ⟨[114, 110].toArray⟩ (by show ([114, 110] : List Nat) ≠ []; simp) (TL.kind_ok (by rw [← Array.all_toList]; rfl))
  have e2 : piec t = TL.spl [114, 110] 0 [] (t.map Sg.c) := e
  rw [e2, spl_strip]
  rfl
theorem strip_le (t : List Sg) : (strip t).length ≤ t.length := by
  have := strip_len t
  omega
theorem lin_nr (s : Sg) (ρ : Rho) (h : List LO) (e : ρ[3]? = some (some (gL s))) : mOp (fInY false) (mVar 3) (mTup (mCons (mC (.str [110])) (mCons (mC (.str [114])) mNil))) ρ h = .ok (.bl (decide (s ≠ .a))) h := by
  unfold mOp mVar
  rw [e]
  cases s <;> rfl
theorem any_bls {α : Type} (p : α → Bool) (xs : List α) (h : List LO) : fAny [.vl (xs.map fun x => LV.bl (p x))] h = .ok (.bl (xs.any p)) h := by
  have e : LV.asBls (xs.map fun x => LV.bl (p x)) = some (xs.map p) := by
    have := asBls_map (xs.map p)
    rw [List.map_map] at this
    exact this
  show (match LV.asBls (xs.map fun x => LV.bl (p x)) with | some bs => R.ok (LV.bl (bs.any id)) h | none => .bad) = _
  rw [e]
  show R.ok (LV.bl ((xs.map p).any id)) h = _
  rw [List.any_map]
  rfl
theorem c_lisof (t : List Sg) (k : Kd) (hl : t.length < 20000) : cal m__law_is_of [sL t, kL k] = some (.bl (kindL k t)) := by
  have ls : mCB fListY (mCons (mVar 0) mNil) [some (sL t), some (kL k), none, none] [] = .ok (.vl (t.map gL)) [] := by
    refine ev_cb (ev_cons rfl rfl) ?_
    show (if (t.map Sg.c).length ≤ 60000 then R.ok (LV.vl ((t.map Sg.c).map fun c => .str [c])) [] else .bad) = _
    rw [List.length_map, if_pos (by omega), List.map_map]
    rfl
  cases k with
  | any => exact cal_of (h1 := []) (v := .bl true) (fn_rt (ev_seq (ev_ifF rfl rfl) (ev_rt (ev_ifT rfl (ev_ret rfl))))) rfl
  | bare =>
    refine cal_of (h1 := []) (v := .bl (kindL .bare t)) (fn_rt (ev_rt (ev_ifT rfl (ev_ret (ev_op (v := gL .r) rfl ls ?_))))) rfl
    rw [in_gl]
    show R.ok (LV.bl (!decide (Sg.r ∈ t))) [] = R.ok (LV.bl (decide (Sg.r ∉ t))) []
    rw [decide_not]
  | lone =>
    refine cal_of (h1 := []) (v := .bl (kindL .lone t)) (fn_rt (ev_rt (ev_ifT rfl (ev_ret (ev_op (v := gL .n) rfl ls ?_))))) rfl
    rw [in_gl]
    show R.ok (LV.bl (!decide (Sg.n ∈ t))) [] = R.ok (LV.bl (decide (Sg.n ∉ t))) []
    rw [decide_not]
  | paired =>
    have sp : mM1 fSplit (mVar 0) (mC (.str [114, 110])) [some (sL t), some (kL .paired), none, none] [] = .ok (.vl ((piec t).map .str)) [] := by
      have e2 : fSplit (sL t) (.str [114, 110]) [] = .ok (.vl ((piec t).map .str)) [] := by
        show (if (([114, 110] : List Nat).length == 0) = false ∧ (t.map Sg.c).length ≤ 60000 then _ else _) = _
        rw [if_pos ⟨rfl, by rw [List.length_map]; omega⟩]
        unfold piec
        rw [List.map_map]
        rfl
      exact e2
    have hs := strip_le t
    refine cal_of (h1 := []) (v := .bl (kindL .paired t)) (fn_rt (ev_seq (ev_ifF rfl rfl) (ev_seq (ev_ifF rfl rfl) (ev_seq (ev_asg sp rfl) (ev_ret ?_))))) rfl
    have jn : mJoin0 (mVar 2) [some (sL t), some (kL .paired), some (.vl ((piec t).map .str)), none] [] = .ok (sL (strip t)) [] := by
      refine (ev_join (xs := (piec t).map .str) (zs := piec t) rfl rfl (asStrs_map _) ?_).trans ?_
      · rw [piec_flat, List.length_map]; omega
      · rw [piec_flat]
    have l2 : mCB fListY (mCons (mJoin0 (mVar 2)) mNil) [some (sL t), some (kL .paired), some (.vl ((piec t).map .str)), none] [] = .ok (.vl ((strip t).map gL)) [] := by
      refine ev_cb (ev_cons jn rfl) ?_
      show (if ((strip t).map Sg.c).length ≤ 60000 then R.ok (LV.vl (((strip t).map Sg.c).map fun c => .str [c])) [] else .bad) = _
      rw [List.length_map, if_pos (by omega), List.map_map]
      rfl
    have an : mCB fAny (mCons (mLc (mAnyI (mCB fListY (mCons (mJoin0 (mVar 2)) mNil))) (mName 3) mYes (mOp (fInY false) (mVar 3) (mTup (mCons (mC (.str [110])) (mCons (mC (.str [114])) mNil)))) [3]) mNil) [some (sL t), some (kL .paired), some (.vl ((piec t).map .str)), none] [] = .ok (.bl ((strip t).any fun s => decide (s ≠ .a))) [] := by
      refine ev_cb (ev_cons (ev_lc (ev_anyL l2) (by rw [List.length_map]; omega) (lcL_map gL (fun s => .bl (decide (s ≠ .a))) (strip t) [] fun s _ => ⟨_, rfl, lin_nr s _ _ rfl⟩)) rfl) ?_
      exact any_bls (fun s => decide (s ≠ .a)) (strip t) []
    have e := ev_notV an
    rw [show (!((strip t).any fun s => decide (s ≠ .a))) = kindL .paired t by
      show _ = (strip t).all fun s => decide (s = .a)
      rw [List.not_any_eq_all_not]
      congr 1
      funext s
      cases s <;> rfl] at e
    exact e
def lv3 : Nat → List (List Sg)
  | 0 => [[]]
  | n + 1 => (lv3 n).flatMap fun t => [t ++ [.a], t ++ [.n], t ++ [.r]]
def txts (k : Kd) (n : Nat) : List (List Sg) := (List.range (n + 1)).flatMap fun i => (lv3 i).filter (kindL k)
theorem lv3_len : ∀ (n : Nat) (t : List Sg), t ∈ lv3 n ↔ t.length = n
  | 0, t => by simp [lv3]
  | n + 1, t => by
    simp only [lv3, List.mem_flatMap, List.mem_cons, List.not_mem_nil, or_false]
    constructor
    · rintro ⟨s, hs, h | h | h⟩ <;> rw [h, List.length_append, (lv3_len n s).mp hs] <;> rfl
    · intro h
      rcases List.eq_nil_or_concat t with e | ⟨s, g, e⟩
      · subst e; cases h
      · rw [List.concat_eq_append] at e
        subst e
        rw [List.length_append] at h
        exact ⟨s, (lv3_len n s).mpr (by simpa using h), by cases g <;> simp⟩
theorem txts_mem {k : Kd} {n : Nat} {t : List Sg} : t ∈ txts k n ↔ t.length ≤ n ∧ kindL k t = true := by
  simp only [txts, List.mem_flatMap, List.mem_range, List.mem_filter, lv3_len]
  constructor
  · rintro ⟨i, h1, h2, h3⟩
    exact ⟨by omega, h3⟩
  · rintro ⟨h1, h2⟩
    exact ⟨_, by omega, rfl, h2⟩
theorem pw_of {α : Type} {R : α → α → Prop} : ∀ l : List α, (∀ a ∈ l, ∀ b ∈ l, R a b) → l.Pairwise R
  | [], _ => .nil
  | a :: l, h => .cons (fun b hb => h a List.mem_cons_self b (List.mem_cons_of_mem _ hb)) (pw_of l fun x hx y hy => h x (List.mem_cons_of_mem _ hx) y (List.mem_cons_of_mem _ hy))
theorem txts_sorted (k : Kd) (n : Nat) : (txts k n).Pairwise fun s t => s.length ≤ t.length := by
  unfold txts
  rw [List.pairwise_flatMap]
  refine ⟨fun i _ => ?_, ?_⟩
  · refine pw_of _ ?_
    intro s hs t ht
    have h1 := (lv3_len i s).mp (List.mem_filter.mp hs).1
    have h2 := (lv3_len i t).mp (List.mem_filter.mp ht).1
    omega
  · refine List.Pairwise.imp ?_ (List.pairwise_lt_range (n := n + 1))
    intro i j hij s hs t ht
    have h1 := (lv3_len i s).mp (List.mem_filter.mp hs).1
    have h2 := (lv3_len j t).mp (List.mem_filter.mp ht).1
    omega
end Sx
set_option maxHeartbeats 1000000
namespace Sx
open PySem PySem.Spec Rm K04
/-! ### what was seen once: a list without what it has twice -/
section
variable {α : Type} [DecidableEq α]
def ddp (K : List α) : List α → List α
  | [] => K
  | a :: F => if a ∈ K then ddp K F else ddp (K ++ [a]) F
theorem ddp_mem : ∀ (F K : List α) (b : α), b ∈ ddp K F ↔ b ∈ K ∨ b ∈ F
  | [], K, b => by simp [ddp]
  | a :: F, K, b => by
    unfold ddp
    split
    · rename_i h
      rw [ddp_mem F K b, List.mem_cons]
      constructor
      · rintro (z | z)
        · exact .inl z
        · exact .inr (.inr z)
      · rintro (z | z | z)
        · exact .inl z
        · subst z; exact .inl h
        · exact .inr z
    · rw [ddp_mem F _ b, List.mem_append, List.mem_singleton, List.mem_cons, or_assoc]
theorem ddp_len : ∀ (F K : List α), (ddp K F).length ≤ K.length + F.length
  | [], K => by simp [ddp]
  | a :: F, K => by
    unfold ddp
    split
    · have := ddp_len F K
      simp only [List.length_cons]
      omega
    · have := ddp_len F (K ++ [a])
      simp only [List.length_append, List.length_cons, List.length_nil] at this ⊢
      omega
theorem ddp_all (p : α → Bool) (F : List α) : (ddp [] F).all p = F.all p := by
  rw [Bool.eq_iff_iff, List.all_eq_true, List.all_eq_true]
  constructor
  · intro h x hx
    exact h x ((ddp_mem F [] x).mpr (.inr hx))
  · intro h x hx
    rcases (ddp_mem F [] x).mp hx with z | z
    · cases z
    · exact h x z
structure Key (enc : α → LV) : Prop where
  tup : ∀ a, ∃ ts, enc a = .tup ts
  fit : ∀ a, kfit (enc a) 8 = true
  inj : ∀ a b, keqL (enc a) (enc b) = decide (a = b)
  pure : ∀ a, (enc a).pure = true
variable {enc : α → LV} (W : Key enc)
include W
theorem rep_set {n i : Nat} : (List.replicate n (LV.bl true)).set i (.bl true) = List.replicate n (.bl true) := by
  refine List.ext_getElem (by simp) fun j h1 h2 => ?_
  rw [List.getElem_set]
  split <;> simp
theorem kix_in {K : List α} {a : α} (h : a ∈ K) : kix (enc a) (K.map enc) < (K.map enc).length := of_decide_eq_true ((kix_mem W.inj a K).trans (decide_eq_true h))
theorem kix_no {K : List α} {a : α} (h : a ∉ K) : ¬ kix (enc a) (K.map enc) < (K.map enc).length := of_decide_eq_false ((kix_mem W.inj a K).trans (decide_eq_false h))
theorem foldL_rows : ∀ (F K : List α), foldL (K.map enc) (List.replicate K.length (.bl true)) (F.map fun a => .tup [enc a, .bl true]) = some ((ddp K F).map enc, List.replicate (ddp K F).length (.bl true))
  | [], K => rfl
  | a :: F, K => by
    obtain ⟨ts, et⟩ := W.tup a
    have fit := W.fit a
    have h1 := fun h => kix_in W (K := K) (a := a) h
    have h2 := fun h => kix_no W (K := K) (a := a) h
    rw [List.map_cons]
    rw [et] at fit h1 h2 ⊢
    simp only [foldL, fit, if_true, ddp]
    by_cases c : a ∈ K
    · rw [if_pos (h1 c), if_pos c]
      rw [show (List.replicate K.length (LV.bl true)).set (kix (.tup ts) (K.map enc)) (.bl true) = List.replicate K.length (.bl true) from rep_set W]
      exact foldL_rows F K
    · rw [if_neg (h2 c), if_neg c]
      have ih := foldL_rows F (K ++ [a])
      rw [List.length_append, List.length_singleton, List.replicate_succ', List.map_append, List.map_cons, List.map_nil, et] at ih
      exact ih
theorem dc_rows {g : MG} {mk mv : ME} {ρ : Rho} {h : List LO} (st : ∀ a, ∃ ρ1, g (enc a) ρ h = .ok ρ1 h ∧ mk ρ1 h = .ok (enc a) h ∧ mv ρ1 h = .ok (.bl true) h) (A : List α) : ∀ (F K P : List α) (n : Nat), A = P ++ F → F.length < n →
    dcM (.vals (A.map enc)) g mYes mk mv ρ n P.length h (K.map enc) (List.replicate K.length (.bl true)) = .ok (.vd ((ddp K F).map enc) (List.replicate (ddp K F).length (.bl true))) h
  | [], K, P, 0, e, l => by omega
  | _ :: _, K, P, 0, e, l => by omega
  | [], K, P, n + 1, e, l => by
    have e1 : Itr.at (.vals (A.map enc)) P.length h = some none := by
      show some ((A.map enc)[P.length]?) = _
      rw [List.getElem?_eq_none (by rw [List.length_map, e]; simp)]
    simp only [dcM, e1, ddp]
  | a :: F, K, P, n + 1, e, l => by
    have e1 : Itr.at (.vals (A.map enc)) P.length h = some (some (enc a)) := by
      show some ((A.map enc)[P.length]?) = _
      rw [List.getElem?_map, e, List.getElem?_append_right (Nat.le_refl _), Nat.sub_self]
      rfl
    obtain ⟨ρ1, s1, s2, s3⟩ := st a
    obtain ⟨ts, et⟩ := W.tup a
    have fit := W.fit a
    have h1 := fun h => kix_in W (K := K) (a := a) h
    have h2 := fun h => kix_no W (K := K) (a := a) h
    simp only [dcM, e1, s1, R.safe, R.bind, mYes, if_true, s2, s3]
    have ih1 := dc_rows st A F K (P ++ [a]) n (by rw [e]; simp) (by simp only [List.length_cons] at l; omega)
    have ih2 := dc_rows st A F (K ++ [a]) (P ++ [a]) n (by rw [e]; simp) (by simp only [List.length_cons] at l; omega)
    rw [List.length_append, List.length_singleton] at ih1
    rw [show (P ++ [a]).length = P.length + 1 by simp] at ih2
    rw [et] at fit h1 h2 ⊢
    simp only [fit, if_true, ddp]
    by_cases c : a ∈ K
    · rw [if_pos (h1 c), if_pos c, show (List.replicate K.length (LV.bl true)).set (kix (.tup ts) (K.map enc)) (.bl true) = List.replicate K.length (.bl true) from rep_set W]
      exact ih1
    · rw [if_neg (h2 c), if_neg c]
      rw [List.length_append, List.length_singleton, List.replicate_succ', List.map_append, List.map_cons, List.map_nil, et] at ih2
      exact ih2
theorem ev_dc {mi : MI} {g : MG} {mk mv : ME} {vs : List Nat} {F : List α} {ρ : Rho} {h : List LO} (e1 : mi ρ h = .ok (.vals (F.map enc)) h) (hl : F.length ≤ 40000) (st : ∀ a, ∃ ρ1, g (enc a) (wipeR ρ vs) h = .ok ρ1 h ∧ mk ρ1 h = .ok (enc a) h ∧ mv ρ1 h = .ok (.bl true) h) : mDc mi g mYes mk mv vs ρ h = .ok (.vd ((ddp [] F).map enc) (List.replicate (ddp [] F).length (.bl true))) h := by
  unfold mDc
  rw [e1]
  have e := dc_rows W st F F [] [] 50000 rfl (by omega)
  rw [List.length_nil, List.map_nil, List.replicate_zero] at e
  generalize (50000 : Nat) = n at e ⊢
  exact e
theorem not_inV {K : List α} {vs : List LV} {h : List LO} (b : α) : fInY true (enc b) (.vd (K.map enc) vs) h = .ok (.bl (!decide (b ∈ K))) h := by
  obtain ⟨ts, et⟩ := W.tup b
  have fit := W.fit b
  have k := kix_mem W.inj b K
  have e0 : LV.dct h (.vd (K.map enc) vs) = some (K.map enc, vs) := rfl
  have d : isDct (.vd (K.map enc) vs) h = true := rfl
  unfold fInY
  rw [if_pos (show isFl (enc b) (.vd (K.map enc) vs) h = true by unfold isFl; rw [d]; rfl)]
  unfold fInX
  rw [if_pos d]
  rw [et] at fit k ⊢
  unfold fInN
  rw [e0]
  simp only [fit, if_true]
  rw [k]
end
/-! ### is_closed -/
def cFst : ME := (mMeth 0 1 m_RowWalk_first (mVar 0) mNil)
def cNod : ME := (mMeth 0 2 m_RowWalk_is_node (mVar 0) (mCons (mVar 3) mNil))
def cFin : ME := (mMeth 0 2 m_RowWalk_is_fine (mVar 0) (mCons (mVar 3) mNil))
def cSgs : ME := (mMeth 0 2 m_RowWalk_signs (mVar 0) (mCons (mVar 3) mNil))
def cBeh : ME := (mMeth 0 3 m_RowWalk_behind (mVar 0) (mCons (mVar 3) (mCons (mVar 4) mNil)))
def clI (eb : ME) : MS := (mIfS (mB (mOp (fInY true) eb (mVar 2))) (mRet (mC (.bl false))) mNext)
def clL (ef es eb : ME) : MS := (mSeq (mIfS (mNot (mTru ef)) (mRet (mC (.bl false))) mNext) (mFor (mAnyI es) (mName 4) (clI eb)))
def clB (en e1 ef es eb : ME) : MS := (mSeq (mIfS (mNot (mTru (mCB fAll (mCons (mLc (mAnyI (mVar 1)) (mName 3) mYes en [3]) mNil)))) (mRet (mC (.bl false))) mNext) (mSeq (mAsg (mDc (mAnyI (mVar 1)) (mName 3) mYes (mVar 3) (mC (.bl true)) [3]) (mName 2)) (mSeq (mIfS (mB (mOp (fInY true) e1 (mVar 2))) (mRet (mC (.bl false))) mNext) (mSeq (mFor (mAnyI (mVar 2)) (mName 3) (clL ef es eb)) (mRet (mC (.bl true)))))))
structure Wlc {α : Type} [DecidableEq α] (en e1 ef es eb : ME) (wv : LV) (enc : α → LV) (ok : α → Prop) (node : α → Bool) (first : α) (sg : α → List Sg) (nxt : α → Sg → α) (fine : α → Bool) : Prop where
  key : Key enc
  fn : ∀ (ρ : Rho) (h : List LO) a, ρ[0]? = some (some wv) → ρ[3]? = some (some (enc a)) → ok a → en ρ h = .ok (.bl (node a)) h
  f1 : ∀ (ρ : Rho) (h : List LO), ρ[0]? = some (some wv) → e1 ρ h = .ok (enc first) h
  ff : ∀ (ρ : Rho) (h : List LO) a, ρ[0]? = some (some wv) → ρ[3]? = some (some (enc a)) → ok a → ef ρ h = .ok (.bl (fine a)) h
  fs : ∀ (ρ : Rho) (h : List LO) a, ρ[0]? = some (some wv) → ρ[3]? = some (some (enc a)) → ok a → es ρ h = .ok (.tup ((sg a).map gL)) h
  fb : ∀ (ρ : Rho) (h : List LO) a g, ρ[0]? = some (some wv) → ρ[3]? = some (some (enc a)) → ρ[4]? = some (some (gL g)) → ok a → eb ρ h = .ok (enc (nxt a g)) h
  three : ∀ a, (sg a).length ≤ 3
section
variable {α : Type} [DecidableEq α] {en e1 ef es eb : ME} {wv : LV} {enc : α → LV} {ok : α → Prop} {node : α → Bool} {first : α} {sg : α → List Sg} {nxt : α → Sg → α} {fine : α → Bool}
def closedB (node : α → Bool) (first : α) (sg : α → List Sg) (nxt : α → Sg → α) (fine : α → Bool) (F : List α) : Bool := F.all node && (decide (first ∈ F) && F.all fun a => fine a && (sg a).all fun g => decide (nxt a g ∈ F))
def rtF (b : Bool) (ρ : Rho) : Fl × Rho := if b = true then (.nx, ρ) else (.rt (.bl false), ρ)
theorem cl_in (W : Wlc en e1 ef es eb wv enc ok node first sg nxt fine) {F K : List α} {nv : LV} {vs : List LV} {a : α} (oka : ok a) (hK : ∀ b, b ∈ K ↔ b ∈ F) : ∀ (gs : List Sg) (x4 : Option LV), ∃ y4,
    runL (mName 4) (clI eb) (gs.map gL) [some wv, some nv, some (.vd (K.map enc) vs), some (enc a), x4] [] = .ok (rtF (gs.all fun g => decide (nxt a g ∈ F)) [some wv, some nv, some (.vd (K.map enc) vs), some (enc a), y4]) []
  | [], x4 => ⟨x4, rfl⟩
  | g :: gs, x4 => by
    have e := ev_b (ev_op (ma := eb) (mb := mVar 2) (W.fb [some wv, some nv, some (.vd (K.map enc) vs), some (enc a), some (gL g)] [] a g rfl rfl rfl oka) rfl (not_inV W.key (h := []) (nxt a g)))
    rw [List.map_cons]
    by_cases c : nxt a g ∈ F
    · obtain ⟨y4, ih⟩ := cl_in W (nv := nv) (vs := vs) oka hK gs (some (gL g))
      refine ⟨y4, ?_⟩
      rw [decide_eq_true ((hK _).mpr c)] at e
      rw [List.all_cons, decide_eq_true c, Bool.true_and]
      exact ev_lcons rfl (ev_ifF e rfl) ih
    · refine ⟨some (gL g), ?_⟩
      rw [decide_eq_false (fun z => c ((hK _).mp z))] at e
      rw [List.all_cons, decide_eq_false c, Bool.false_and]
      exact ev_lrt rfl (ev_ifT e (ev_ret rfl))
theorem cl_out (W : Wlc en e1 ef es eb wv enc ok node first sg nxt fine) {F K : List α} {nv : LV} {vs : List LV} (hK : ∀ b, b ∈ K ↔ b ∈ F) : ∀ (R : List α) (x3 x4 : Option LV), (∀ a ∈ R, ok a) → ∃ y3 y4,
    runL (mName 3) (clL ef es eb) (R.map enc) [some wv, some nv, some (.vd (K.map enc) vs), x3, x4] [] = .ok (rtF (R.all fun a => fine a && (sg a).all fun g => decide (nxt a g ∈ F)) [some wv, some nv, some (.vd (K.map enc) vs), y3, y4]) []
  | [], x3, x4, _ => ⟨x3, x4, rfl⟩
  | a :: R, x3, x4, hR => by
    have oka := hR a List.mem_cons_self
    have e := ev_not (ev_truB (W.ff [some wv, some nv, some (.vd (K.map enc) vs), some (enc a), x4] [] a rfl rfl oka))
    rw [List.map_cons]
    cases q : fine a with
    | false =>
      refine ⟨some (enc a), x4, ?_⟩
      rw [q] at e
      rw [List.all_cons, q, Bool.false_and, Bool.false_and]
      exact ev_lrt rfl (ev_rt (ev_ifT e (ev_ret rfl)))
    | true =>
      rw [q] at e
      obtain ⟨z4, ei⟩ := cl_in W (nv := nv) (vs := vs) oka hK (sg a) x4
      have es1 := ev_anyT (W.fs [some wv, some nv, some (.vd (K.map enc) vs), some (enc a), x4] [] a rfl rfl oka)
      have hl : ((sg a).map gL).length < 60000 := by
        have := W.three a
        rw [List.length_map]
        omega
      rw [List.all_cons, q, Bool.true_and]
      cases q2 : (sg a).all fun g => decide (nxt a g ∈ F) with
      | false =>
        rw [q2] at ei
        exact ⟨some (enc a), z4, ev_lrt rfl (ev_seq (ev_ifF e rfl) (ev_for es1 hl ei))⟩
      | true =>
        rw [q2] at ei
        obtain ⟨y3, y4, ih⟩ := cl_out W (nv := nv) (vs := vs) hK R (some (enc a)) z4 (fun b hb => hR b (List.mem_cons_of_mem _ hb))
        refine ⟨y3, y4, ?_⟩
        rw [Bool.true_and]
        exact ev_lcons rfl (ev_seq (ev_ifF e rfl) (ev_for es1 hl ei)) ih
theorem lcL_mapA {g : MG} {me : ME} {ρ : Rho} {h : List LO} (enc : α → LV) (f : α → LV) (xs : List α) (H : ∀ x ∈ xs, ∃ ρ1, g (enc x) ρ h = .ok ρ1 h ∧ me ρ1 h = .ok (f x) h) : lcL g mYes me ρ (xs.map enc) h [] = .ok (.vl (xs.map f)) h := (lcL_map enc f xs [] H).trans (by simp)
theorem closed_run (W : Wlc en e1 ef es eb wv enc ok node first sg nxt fine) {F : List α} (hF : ∀ a ∈ F, ok a) (hl : F.length ≤ 40000) : ∃ ρ', clB en e1 ef es eb [some wv, some (.vl (F.map enc)), none, none, none] [] = .ok (.rt (.bl (closedB node first sg nxt fine F)), ρ') [] := by
  have ea : mCB fAll (mCons (mLc (mAnyI (mVar 1)) (mName 3) mYes en [3]) mNil) [some wv, some (.vl (F.map enc)), none, none, none] [] = .ok (.bl (F.all node)) [] := by
    refine ev_cb (ev_cons (ev_lc (ev_anyL (xs := F.map enc) rfl) (by rw [List.length_map]; omega) (lcL_mapA enc (fun a => .bl (node a)) F fun a ha => ⟨_, rfl, W.fn _ [] a rfl rfl (hF a ha)⟩)) rfl) ?_
    exact all_bls node F []
  have en0 := ev_not (ev_truB ea)
  unfold closedB
  cases q : F.all node with
  | false =>
    rw [q] at en0
    exact ⟨_, ev_rt (ev_ifT en0 (ev_ret rfl))⟩
  | true =>
    rw [q] at en0
    have ed : mDc (mAnyI (mVar 1)) (mName 3) mYes (mVar 3) (mC (.bl true)) [3] [some wv, some (.vl (F.map enc)), none, none, none] [] = .ok (.vd ((ddp [] F).map enc) (List.replicate (ddp [] F).length (.bl true))) [] :=
      ev_dc W.key (ev_anyL rfl) hl fun a => ⟨_, rfl, rfl, rfl⟩
    have hK : ∀ b, b ∈ ddp [] F ↔ b ∈ F := fun b => by
      rw [ddp_mem]
      simp
    have ef1 := ev_b (ev_op (ma := e1) (mb := mVar 2) (W.f1 [some wv, some (.vl (F.map enc)), some (.vd ((ddp [] F).map enc) (List.replicate (ddp [] F).length (.bl true))), none, none] [] rfl) rfl (not_inV W.key (h := []) first))
    rw [Bool.true_and]
    by_cases c : first ∈ F
    · rw [decide_eq_true ((hK _).mpr c)] at ef1
      rw [decide_eq_true c, Bool.true_and]
      have hl2 := ddp_len F ([] : List α)
      obtain ⟨y3, y4, eo⟩ := cl_out W (nv := .vl (F.map enc)) (vs := List.replicate (ddp [] F).length (.bl true)) hK (ddp [] F) none none (fun a ha => hF a ((hK a).mp ha))
      rw [ddp_all] at eo
      have ei : mAnyI (mVar 2) [some wv, some (.vl (F.map enc)), some (.vd ((ddp [] F).map enc) (List.replicate (ddp [] F).length (.bl true))), none, none] [] = .ok (.vals ((ddp [] F).map enc)) [] := rfl
      have hlen : ((ddp [] F).map enc).length < 60000 := by
        simp only [List.length_map, List.length_nil] at hl2 ⊢
        omega
      cases q2 : F.all fun a => fine a && (sg a).all fun g => decide (nxt a g ∈ F) with
      | false =>
        rw [q2] at eo
        exact ⟨_, ev_seq (ev_ifF en0 rfl) (ev_seq (ev_asg ed rfl) (ev_seq (ev_ifF ef1 rfl) (ev_rt (ev_for ei hlen eo))))⟩
      | true =>
        rw [q2] at eo
        exact ⟨_, ev_seq (ev_ifF en0 rfl) (ev_seq (ev_asg ed rfl) (ev_seq (ev_ifF ef1 rfl) (ev_seq (ev_for ei hlen eo) (ev_ret rfl))))⟩
    · rw [decide_eq_false (fun z => c ((hK _).mp z))] at ef1
      rw [decide_eq_false c, Bool.false_and]
      exact ⟨_, ev_seq (ev_ifF en0 rfl) (ev_seq (ev_asg ed rfl) (ev_rt (ev_ifT ef1 (ev_ret rfl))))⟩
end
end Sx
set_option maxHeartbeats 1000000
namespace Sx
open PySem PySem.Spec Rm K04
/-! ### rows whose standings are some, too -/
def okR2 (A B : List Cv) (k : Kd) (r : Row) : Prop := okR A B k r ∧ okS A r.s1 = true ∧ okS B r.s2 = true
section
variable {A B : List Cv} {k : Kd}
theorem rwalk2 (hA : A.length ≤ 12) (hB : B.length ≤ 12) : Wlk eFst eFin eSgs eBeh (wk A B k) rowL (okR2 A B k) (firstR A B) (fun r => sgs k r.op) (nextR A B k) (fun r => r.op || evenR A B r) where
  f1 := (rwalk (k := k) hA hB).f1
  ff ρ h r e e4 o := (rwalk (k := k) hA hB).ff ρ h r e e4 o.1
  fs ρ h r e e4 o := (rwalk (k := k) hA hB).fs ρ h r e e4 o.1
  fb ρ h r g e e4 e6 o := (rwalk (k := k) hA hB).fb ρ h r g e e4 e6 o.1
  tup r := ⟨_, rfl⟩
  fit := fit_rowL
  inj := key_rowL
  pure := pure_rowL
theorem okR2.first : okR2 A B k (firstR A B) := ⟨.inl rfl, okS_first A, okS_first B⟩
theorem okR2.step {r : Row} {g : Sg} (o : okR2 A B k r) (hf : (r.op || evenR A B r) = true) (hg : g ∈ sgs k r.op) : okR2 A B k (nextR A B k r g) := ⟨.inr ⟨r, g, o.1.gone hf, hg, rfl⟩, okS_step A _ _ o.2.1, okS_step B _ _ o.2.2⟩
theorem rfin2 : Fin3 (firstR A B) (fun r => sgs k r.op) (nextR A B k) (fun r => r.op || evenR A B r) (okR2 A B k) (upR A B k) where
  first := okR2.first
  step r g o hf hg := o.step hf hg
  three r := List.length_filter_le _ _
  few r o hf := (o.1.gone hf).mem
abbrev ShutR (A B : List Cv) (k : Kd) (F : List Row) : Prop := Shut (firstR A B) (fun r => sgs k r.op) (nextR A B k) (fun r => r.op || evenR A B r) (okR2 A B k) F
theorem part_ne {r : Row} (o : okR A B k r) (hu : r.u ≠ []) (hv : r.v ≠ []) (l : List Sg) : ¬ Same A B r l := by
  rcases o with rfl | ⟨r0, g, _, _, rfl⟩
  · exact absurd rfl hu
  · exact fun e => lcp_ne _ _ hu hv _ _ e
theorem ShutR.whole {F : List Row} (S : ShutR A B k F) {r : Row} (hr : r ∈ F) : r.u = [] ∨ r.v = [] := by
  obtain ⟨o, f⟩ := S.fin r hr
  by_cases hu : r.u = []
  · exact .inl hu
  by_cases hv : r.v = []
  · exact .inr hv
  exfalso
  have e2 : ∀ r', evenR A B r' = true → Same A B r' [] := fun r' e => of_decide_eq_true (p := r'.u ++ endW A r'.s1 [] = r'.v ++ endW B r'.s2 []) e
  cases hop : r.op with
  | false =>
    rw [hop, Bool.false_or] at f
    exact part_ne o.1 hu hv [] (e2 r f)
  | true =>
    have hk : k = .paired := by
      rcases o.1 with h | ⟨r0, g, _, _, h⟩
      · rw [h] at hop; cases hop
      · rw [h] at hop
        have : opn k g = true := hop
        unfold opn at this
        rw [Bool.and_eq_true, decide_eq_true_eq] at this
        exact this.1
    subst hk
    have hg : Sg.n ∈ sgs .paired r.op := by rw [hop]; decide
    have m := S.cl r hr .n hg
    have f2 := (S.fin _ m).2
    have e : evenR A B (nextR A B .paired r .n) = true := by
      have : (nextR A B .paired r .n).op = false := rfl
      rw [this, Bool.false_or] at f2
      exact f2
    exact part_ne o.1 hu hv [.n] ((same_next o.1.lens.1 o.1.lens.2 []).mpr (e2 _ e))
/-! ### what shows that two ways are alike -/
structure okG (A B : List Cv) (r : Row) : Prop where
  l1 : r.s1.length = A.length
  l2 : r.s2.length = B.length
  k1 : okS A r.s1 = true
  k2 : okS B r.s2 = true
  u : r.u.length ≤ 20000
  v : r.v.length ≤ 20000
theorem okR2.toG (hA : A.length ≤ 12) (hB : B.length ≤ 12) {r : Row} (o : okR2 A B k r) : okG A B r := ⟨o.1.lens.1, o.1.lens.2, o.2.1, o.2.2, (o.1.size hA hB).1, (o.1.size hA hB).2⟩
def nodeR (r : Row) : Bool := decide (r.u = []) || decide (r.v = [])
theorem c_isnode (hA : A.length ≤ 12) (hB : B.length ≤ 12) (r : Row) (o : okG A B r) : cal m_RowWalk_is_node [wk A B k, rowL r] = some (.bl (nodeR r)) := by
  have su := o.u
  have sv := o.v
  have p1 := pures_cons (pure_wL A) (pures_cons (pure_bL r.s1) (show LV.pures [] = true from rfl))
  have p2 := pures_cons (pure_wL B) (pures_cons (pure_bL r.s2) (show LV.pures [] = true from rfl))
  exact cal_of (h1 := []) (v := .bl (nodeR r)) (fn_rt (ev_seq (ev_ifF (ev_or (c := false) (d := false) (ev_not (c := true) (ev_truB rfl)) fun _ => ev_b rfl) rfl) (ev_seq (ev_asg rfl rfl) (ev_seq (ev_ifF (ev_or (c := false) (d := false) (ev_not (c := true) (ev_truB (ev_call (ev_cons rfl (ev_cons rfl rfl)) ((c_isst o.l1 (by omega)).trans (by rw [o.k1])) rfl p1))) fun _ => ev_not (c := true) (ev_truB (ev_call (ev_cons rfl (ev_cons rfl rfl)) ((c_isst o.l2 (by omega)).trans (by rw [o.k2])) rfl p2))) rfl)
    (ev_ret (ev_andV (c := true) rfl fun _ => ev_andV (c := true) (ev_call (ev_cons rfl rfl) (c_istext r.u (by omega)) rfl rfl) fun _ => ev_andV (c := true) (ev_call (ev_cons rfl rfl) (c_istext r.v (by omega)) rfl rfl) fun _ => ev_orV (ev_op rfl rfl (eq_sL r.u [] [])) fun _ => ev_op rfl rfl (eq_sL r.v [] []))))))) rfl
theorem closed_is : mb_is_closed = clB cNod cFst cFin cSgs cBeh := rfl
theorem rwlc (hA : A.length ≤ 12) (hB : B.length ≤ 12) : Wlc cNod cFst cFin cSgs cBeh (wk A B k) rowL (okG A B) nodeR (firstR A B) (fun r => sgs k r.op) (nextR A B k) (fun r => r.op || evenR A B r) where
  key := ⟨fun r => ⟨_, rfl⟩, fit_rowL, key_rowL, pure_rowL⟩
  fn ρ h r e e3 o := by
    unfold cNod
    skip
    exact ev_meth (var_of e) (ev_cons (var_of e3) rfl) (c_isnode hA hB r o) rfl (pures_cons (pure_wk A B k) (pures_cons (pure_rowL r) rfl))
  f1 ρ h e := by
    unfold cFst
    skip
    exact ev_meth (var_of e) rfl (c_rfirst hA hB) rfl (pures_cons (pure_wk A B k) rfl)
  ff ρ h r e e3 o := by
    unfold cFin
    skip
    exact ev_meth (var_of e) (ev_cons (var_of e3) rfl) (c_rfine hA hB r o.l1 o.l2 o.u o.v) rfl (pures_cons (pure_wk A B k) (pures_cons (pure_rowL r) rfl))
  fs ρ h r e e3 o := by
    unfold cSgs
    skip
    exact ev_meth (var_of e) (ev_cons (var_of e3) rfl) (c_rsigns hA hB r) rfl (pures_cons (pure_wk A B k) (pures_cons (pure_rowL r) rfl))
  fb ρ h r g e e3 e4 o := by
    unfold cBeh
    skip
    exact ev_meth (var_of e) (ev_cons (var_of e3) (ev_cons (var_of e4) rfl)) (c_rbehind hA hB r g o.l1 o.l2 o.u o.v) rfl (pures_cons (pure_wk A B k) (pures_cons (pure_rowL r) rfl))
  three r := List.length_filter_le _ _
theorem shut_closed {F : List Row} (S : ShutR A B k F) : closedB nodeR (firstR A B) (fun r => sgs k r.op) (nextR A B k) (fun r => r.op || evenR A B r) F = true := by
  unfold closedB
  rw [Bool.and_eq_true, Bool.and_eq_true, List.all_eq_true, List.all_eq_true]
  refine ⟨fun r hr => ?_, decide_eq_true S.one, fun r hr => ?_⟩
  · unfold nodeR
    rw [Bool.or_eq_true, decide_eq_true_eq, decide_eq_true_eq]
    exact S.whole hr
  · rw [Bool.and_eq_true, List.all_eq_true]
    exact ⟨(S.fin r hr).2, fun g hg => decide_eq_true (S.cl r hr g hg)⟩
theorem c_arerows (hA : A.length ≤ 12) (hB : B.length ≤ 12) {F : List Row} (hF : ∀ r ∈ F, okG A B r) (hl : F.length ≤ 40000) : cal m_are_rows [wL A, wL B, .str k.cs, .vl (F.map rowL)] = some (.bl (closedB nodeR (firstR A B) (fun r => sgs k r.op) (nextR A B k) (fun r => r.op || evenR A B r) F)) := by
  obtain ⟨ρ', e⟩ := closed_run (rwlc (k := k) hA hB) hF hl
  have d1 := wd_wL A
  have d2 := wd_wL B
  have ec : cal m_is_closed [wk A B k, .vl (F.map rowL)] = some (.bl (closedB nodeR (firstR A B) (fun r => sgs k r.op) (nextR A B k) (fun r => r.op || evenR A B r) F)) :=
    cal_of (h1 := []) (fn_rt e) rfl
  exact cal_of (h1 := []) (fn_rt (ev_ret (ev_call (ev_cons (ev_make (C := 0) (k := 3) (xs := [wL A, wL B, .str k.cs]) (ev_cons rfl (ev_cons rfl (ev_cons rfl rfl))) rfl rfl (pures_cons (pure_wL A) (pures_cons (pure_wL B) rfl)) rfl (pures_cons (pure_wL A) (pures_cons (pure_wL B) rfl)) (by simp only [wds, wd] at d1 d2 ⊢; omega)) (ev_cons rfl rfl)) ec rfl (pures_cons (pure_wk A B k) (pures_cons (pures_map pure_rowL F) rfl))))) rfl
theorem c_ashows (hA : A.length ≤ 6) (hB : B.length ≤ 6) {F : List Row} (hF : ∀ r ∈ F, okG A B r) (hl : F.length ≤ 40000) : cal m_Alike_shows [alikeO (F.map rowL), wL A, wL B, .str k.cs] = some (.bl (closedB nodeR (firstR A B) (fun r => sgs k r.op) (nextR A B k) (fun r => r.op || evenR A B r) F)) :=
  cal_of (h1 := []) (fn_rt (ev_seq (ev_drop (ev_call (ev_cons rfl (ev_cons rfl (ev_cons rfl rfl))) (c_check A B k hA hB) rfl (pures_cons (pure_wL A) (pures_cons (pure_wL B) rfl)))) (ev_ret (ev_call (ev_cons rfl (ev_cons rfl (ev_cons rfl (ev_cons rfl rfl)))) (c_arerows (by omega) (by omega) hF hl) rfl (pures_cons (pure_wL A) (pures_cons (pure_wL B) (pures_cons rfl (pures_cons (pures_map pure_rowL F) rfl)))))))) rfl
end
end Sx
set_option maxHeartbeats 1000000
namespace Sx
open PySem PySem.Spec Rm K04
theorem ev_slD {ρ : Rho} {h : List LO} {x : List Sg} {i : Nat} (e : ρ[i]? = some (some (sL x))) (hx : 1 ≤ x.length) (hl : x.length ≤ 60000) : mSl (mVar i) (mPart (mC (.int 1))) mNoP ρ h = .ok (sL (x.drop 1)) h := by
  refine ev_slFrom (j := 1) (h1 := h) (h2 := h) ?_ rfl rfl hx hl
  unfold mVar
  rw [e]
/-! ### the law's row behind a sign -/
def oR : Option Row → LV
  | none => .non
  | some r => rowL r
theorem pure_oR : ∀ o : Option Row, (oR o).pure = true
  | none => rfl
  | some r => pure_rowL r
def nextO (A B : List Cv) (k : Kd) (r : Row) (g : Sg) : Option Row := if (nextR A B k r g).u = [] ∨ (nextR A B k r g).v = [] then some (nextR A B k r g) else none
def wlC : MT := (mAnd (mB (mOp (fEq true) (mVar 7) (mC (.str [])))) (mAnd (mB (mOp (fEq true) (mVar 8) (mC (.str [])))) (mB (mOp (fEq false) (mOp fIxX (mVar 7) (mC (.int 0))) (mOp fIxX (mVar 8) (mC (.int 0)))))))
def wlB : MS := (mPar 7 8 (mCons (mSl (mVar 7) (mPart (mC (.int 1))) mNoP) (mCons (mSl (mVar 8) (mPart (mC (.int 1))) mNoP) mNil)))
theorem wl_loop {x0 x1 x2 x3 x4 x5 x6 x9 : Option LV} : ∀ (n : Nat) (x y : List Sg), x.length < n → x.length ≤ 40000 → y.length ≤ 40000 →
    whileM wlC wlB n [x0, x1, x2, x3, x4, x5, x6, some (sL x), some (sL y), x9] [] = .ok (.nx, [x0, x1, x2, x3, x4, x5, x6, some (sL (lcp x y).1), some (sL (lcp x y).2), x9]) []
  | 0, x, y, h, _, _ => by omega
  | n + 1, [], y, h, _, _ => by
    have c : wlC [x0, x1, x2, x3, x4, x5, x6, some (sL []), some (sL y), x9] [] = .ok false [] := by
      refine (ev_and (c := false) (d := false) (ev_b (ev_op rfl rfl (ne_sL [] [] []))) fun z => nomatch z)
    simp only [whileM, c]
    cases y <;> rfl
  | n + 1, g :: x, [], h, _, _ => by
    have c : wlC [x0, x1, x2, x3, x4, x5, x6, some (sL (g :: x)), some (sL []), x9] [] = .ok false [] := by
      refine (ev_and (c := true) (d := false) (ev_b (ev_op rfl rfl (ne_sL (g :: x) [] []))) fun _ => ?_)
      exact (ev_and (c := false) (d := false) (ev_b (ev_op rfl rfl (ne_sL [] [] []))) fun z => nomatch z)
    simp only [whileM, c]
    rfl
  | n + 1, g :: x, q :: y, h, hx, hy => by
    have c : wlC [x0, x1, x2, x3, x4, x5, x6, some (sL (g :: x)), some (sL (q :: y)), x9] [] = .ok (decide ([g] = [q])) [] := by
      refine (ev_and (c := true) (d := decide ([g] = [q])) (ev_b (ev_op rfl rfl (ne_sL (g :: x) [] []))) fun _ => ?_).trans (by simp)
      refine (ev_and (c := true) (d := decide ([g] = [q])) (ev_b (ev_op rfl rfl (ne_sL (q :: y) [] []))) fun _ => ?_).trans (by simp)
      exact ev_b (ev_op (ev_op rfl rfl (ix_sL (x := g :: x) (i := 0) [] (by simp) (by omega))) (ev_op rfl rfl (ix_sL (x := q :: y) (i := 0) [] (by simp) (by omega))) (eq_sL [g] [q] []))
    by_cases e : g = q
    · subst e
      rw [decide_eq_true rfl] at c
      have ih := wl_loop (x0 := x0) (x1 := x1) (x2 := x2) (x3 := x3) (x4 := x4) (x5 := x5) (x6 := x6) (x9 := x9) n x y (by simp only [List.length_cons] at h; omega) (by simp only [List.length_cons] at hx; omega) (by simp only [List.length_cons] at hy; omega)
      have b : wlB [x0, x1, x2, x3, x4, x5, x6, some (sL (g :: x)), some (sL (g :: y)), x9] [] = .ok (.nx, [x0, x1, x2, x3, x4, x5, x6, some (sL x), some (sL y), x9]) [] :=
        ev_par (ev_cons (ev_slD (x := g :: x) rfl (by simp) (by omega)) (ev_cons (ev_slD (x := g :: y) rfl (by simp) (by omega)) rfl))
      rw [show lcp (g :: x) (g :: y) = lcp x y by rw [lcp, if_pos rfl]]
      simp only [whileM, c, R.bind, if_true, b]
      exact ih
    · rw [decide_eq_false (fun z => e (by injection z))] at c
      simp only [whileM, c]
      rw [lcp, if_neg e]
      rfl
theorem opn_at (k : Kd) (g : Sg) (i : Nat) (ρ : Rho) (h : List LO) (e2 : ρ[2]? = some (some (kL k))) (ei : ρ[i]? = some (some (gL g))) : mAndV (mOp (fEq false) (mVar 2) (mC (.str [112, 97, 105, 114, 101, 100]))) (mOp (fEq false) (mVar i) (mC (.str [114]))) ρ h = .ok (.bl (opn k g)) h := by
  unfold mAndV mOp mVar
  rw [e2, ei]
  cases k <;> cases g <;> rfl
section
variable {A B : List Cv} {k : Kd}
theorem c_lbehind (hA : A.length ≤ 12) (hB : B.length ≤ 12) (r : Row) (g : Sg) (h1 : r.s1.length = A.length) (h2 : r.s2.length = B.length) (hu : r.u.length ≤ 20000) (hv : r.v.length ≤ 20000) : cal m__law_behind [wL A, wL B, kL k, rowL r, gL g] = some (oR (nextO A B k r g)) := by
  have l1 := stepW_len1 r.s1 g hA
  have l2 := stepW_len1 r.s2 g hB
  have p1 := pow12 hA
  have p2 := pow12 hB
  have w := wl_loop (x0 := some (wL A)) (x1 := some (wL B)) (x2 := some (kL k)) (x3 := some (rowL r)) (x4 := some (gL g)) (x5 := some (.tup [bL (stepW A r.s1 [g]).1, sL (stepW A r.s1 [g]).2])) (x6 := some (.tup [bL (stepW B r.s2 [g]).1, sL (stepW B r.s2 [g]).2])) (x9 := none) 50000 (r.u ++ (stepW A r.s1 [g]).2) (r.v ++ (stepW B r.s2 [g]).2) (by rw [List.length_append]; omega) (by rw [List.length_append]; omega) (by rw [List.length_append]; omega)
  have rest : mSeq (mAsg (mTup (mCons (mOp fIxX (mVar 5) (mC (.int 0))) (mCons (mOp fIxX (mVar 6) (mC (.int 0))) (mCons (mAndV (mOp (fEq false) (mVar 2) (mC (.str [112, 97, 105, 114, 101, 100]))) (mOp (fEq false) (mVar 4) (mC (.str [114])))) (mCons (mVar 7) (mCons (mVar 8) mNil)))))) (mName 9)) (mRet (mIf (mOr (mB (mOp (fEq false) (mVar 7) (mC (.str [])))) (mB (mOp (fEq false) (mVar 8) (mC (.str []))))) (mVar 9) (mC .non)))
      [some (wL A), some (wL B), some (kL k), some (rowL r), some (gL g), some (.tup [bL (stepW A r.s1 [g]).1, sL (stepW A r.s1 [g]).2]), some (.tup [bL (stepW B r.s2 [g]).1, sL (stepW B r.s2 [g]).2]), some (sL (nextR A B k r g).u), some (sL (nextR A B k r g).v), none] [] = .ok (.rt (oR (nextO A B k r g)), [some (wL A), some (wL B), some (kL k), some (rowL r), some (gL g), some (.tup [bL (stepW A r.s1 [g]).1, sL (stepW A r.s1 [g]).2]), some (.tup [bL (stepW B r.s2 [g]).1, sL (stepW B r.s2 [g]).2]), some (sL (nextR A B k r g).u), some (sL (nextR A B k r g).v), some (rowL (nextR A B k r g))]) [] := by
    refine ev_seq (ev_asg (v := rowL (nextR A B k r g)) (ev_tup (ev_cons rfl (ev_cons rfl (ev_cons (opn_at k g 4 _ _ rfl rfl) (ev_cons rfl (ev_cons rfl rfl))))) (by show 5 ≤ 60000; decide)) rfl) (ev_ret (ev_if (c := decide ((nextR A B k r g).u = []) || decide ((nextR A B k r g).v = [])) (ev_or (ev_b (ev_op rfl rfl (eq_sL _ [] []))) fun _ => ev_b (ev_op rfl rfl (eq_sL _ [] []))) ?_))
    by_cases c1 : (nextR A B k r g).u = []
    · rw [show nextO A B k r g = some (nextR A B k r g) from if_pos (.inl c1), decide_eq_true c1]
      rfl
    · by_cases c2 : (nextR A B k r g).v = []
      · rw [show nextO A B k r g = some (nextR A B k r g) from if_pos (.inr c2), decide_eq_true c2, Bool.or_true]
        rfl
      · rw [show nextO A B k r g = none from if_neg (fun z => z.elim c1 c2), decide_eq_false c1, decide_eq_false c2]
        rfl
  refine cal_of (h1 := []) (v := oR (nextO A B k r g)) (fn_rt (ev_seq (ev_par (ev_cons (ev_call (ev_cons rfl (ev_cons rfl (ev_cons rfl rfl))) (c_lread A r.s1 [g] h1 (by simp only [List.length_singleton]; omega) (by omega)) rfl (pures_cons (pure_wL A) (pures_cons (pure_bL _) rfl))) (ev_cons (ev_call (ev_cons rfl (ev_cons rfl (ev_cons rfl rfl))) (c_lread B r.s2 [g] h2 (by simp only [List.length_singleton]; omega) (by omega)) rfl (pures_cons (pure_wL B) (pures_cons (pure_bL _) rfl))) rfl)))
    (ev_seq (ev_par (ev_cons (ev_op rfl rfl (add_sL [] (by omega))) (ev_cons (ev_op rfl rfl (add_sL [] (by omega))) rfl))) (ev_seq w rest)))) (outV_pure (pure_oR _))
def evO (A B : List Cv) : Option Row → Bool
  | none => false
  | some r => evenR A B r
theorem c_leven (hA : A.length ≤ 12) (hB : B.length ≤ 12) (o : Option Row) (ok : ∀ r, o = some r → okG A B r) : cal m__law_is_even [wL A, wL B, oR o] = some (.bl (evO A B o)) := by
  cases o with
  | none => exact cal_of (h1 := []) (v := .bl false) (fn_rt (ev_ret (ev_andV (c := false) (d := false) rfl fun z => nomatch z))) rfl
  | some r =>
    have o := ok r rfl
    have l1 := endW_len0 r.s1 hA
    have l2 := endW_len0 r.s2 hB
    have su := o.u
    have sv := o.v
    refine cal_of (h1 := []) (v := .bl (evenR A B r)) (fn_rt (ev_ret (ev_andV (c := true) (d := evenR A B r) rfl fun _ => ?_))) rfl
    exact ev_op (ev_op rfl (ev_call (ev_cons rfl (ev_cons rfl rfl)) (c_lend A r.s1 o.l1 o.k1 hA) rfl (pures_cons (pure_wL A) (pures_cons (pure_bL _) rfl))) (add_sL [] (by omega))) (ev_op rfl (ev_call (ev_cons rfl (ev_cons rfl rfl)) (c_lend B r.s2 o.l2 o.k2 hB) rfl (pures_cons (pure_wL B) (pures_cons (pure_bL _) rfl))) (add_sL [] (by omega))) (eq_sL _ _ _)
/-! ### which signs can come, by the law -/
theorem c_lcan2 (k : Kd) (b : Bool) (g : Sg) : cal m__law_can [kL k, .bl b, gL g] = some (.bl (can k b g)) := by
  rw [c_lcan]
  cases k <;> rfl
theorem lcL_filt {α : Type} {g : MG} {mt : MT} {me : ME} {ρ : Rho} {h : List LO} (enc : α → LV) (p : α → Bool) : ∀ (xs : List α) (acc : List LV), (∀ x ∈ xs, ∃ ρ1, g (enc x) ρ h = .ok ρ1 h ∧ mt ρ1 h = .ok (p x) h ∧ me ρ1 h = .ok (enc x) h) → lcL g mt me ρ (xs.map enc) h acc = .ok (.vl (acc.reverse ++ (xs.filter p).map enc)) h
  | [], acc, H => by simp [lcL]
  | x :: xs, acc, H => by
    obtain ⟨ρ1, e1, e2, e3⟩ := H x List.mem_cons_self
    have H2 := fun y hy => H y (List.mem_cons_of_mem _ hy)
    rw [List.map_cons]
    simp only [lcL, e1, R.safe, R.bind, e2, e3]
    cases c : p x with
    | true =>
      simp only [if_true]
      rw [lcL_filt enc p xs _ H2, List.filter_cons, c]
      simp
    | false =>
      simp only [Bool.false_eq_true, if_false]
      rw [lcL_filt enc p xs _ H2, List.filter_cons, c]
      simp
theorem sg_lc {eo : ME} {s : Nat} {b : Bool} {ρ : Rho} {h : List LO} (H : ∀ g : Sg, ∃ ρ1, mName s (gL g) (wipeR ρ [s]) h = .ok ρ1 h ∧ ρ1[2]? = some (some (kL k)) ∧ eo ρ1 h = .ok (.bl b) h ∧ ρ1[s]? = some (some (gL g))) :
    mLc (mAnyI (mTup (mCons (mC (.str [97])) (mCons (mC (.str [110])) (mCons (mC (.str [114])) mNil))))) (mName s) (mTru (mCall 3 m__law_can (mCons (mVar 2) (mCons eo (mCons (mVar s) mNil))))) (mVar s) [s] ρ h = .ok (.vl ((sgs k b).map gL)) h := by
  refine ev_lc (h1 := h) (xs := [Sg.a, .n, .r].map gL) (ev_anyT (h1 := h) rfl) (by decide) ?_
  refine (lcL_filt gL (can k b) [Sg.a, .n, .r] [] fun g _ => ?_).trans rfl
  obtain ⟨ρ1, e1, e2, e3, e4⟩ := H g
  exact ⟨ρ1, e1, ev_truB (ev_call (h1 := h) (ev_cons (var_of e2) (ev_cons e3 (ev_cons (var_of e4) rfl))) (c_lcan2 k b g) rfl rfl), var_of e4⟩
/-! ### rows that show, by the law -/
theorem keyR : Key rowL := ⟨fun r => ⟨_, rfl⟩, fit_rowL, key_rowL, pure_rowL⟩
abbrev knV (F : List Row) : LV := .vd ((ddp [] F).map rowL) (List.replicate (ddp [] F).length (.bl true))
def arI : MS := (mIfS (mB (mOp (fInZ true) (mCall 5 m__law_behind (mCons (mVar 0) (mCons (mVar 1) (mCons (mVar 2) (mCons (mVar 5) (mCons (mVar 6) mNil)))))) (mVar 4))) (mRet (mC (.bl false))) mNext)
theorem ar_in (hA : A.length ≤ 12) (hB : B.length ≤ 12) {F : List Row} {r : Row} (o : okR2 A B k r) {nv : LV} : ∀ (gs : List Sg) (x6 : Option LV), (∀ g ∈ gs, ∃ r', nextO A B k r g = some r' ∧ r' ∈ F) → ∃ y6,
    runL (mName 6) arI (gs.map gL) [some (wL A), some (wL B), some (kL k), some nv, some (knV F), some (rowL r), x6] [] = .ok (.nx, [some (wL A), some (wL B), some (kL k), some nv, some (knV F), some (rowL r), y6]) []
  | [], x6, _ => ⟨x6, rfl⟩
  | g :: gs, x6, H => by
    obtain ⟨y6, ih⟩ := ar_in hA hB (F := F) (nv := nv) o gs (some (gL g)) fun q hq => H q (List.mem_cons_of_mem _ hq)
    obtain ⟨r', e1, e2⟩ := H g List.mem_cons_self
    have sz := o.1.size hA hB
    refine ⟨y6, ?_⟩
    rw [List.map_cons]
    have eb := c_lbehind (k := k) hA hB r g o.1.lens.1 o.1.lens.2 sz.1 sz.2
    rw [e1] at eb
    have e := ev_b (ev_op (h1 := []) (h2 := []) (ρ := [some (wL A), some (wL B), some (kL k), some nv, some (knV F), some (rowL r), some (gL g)]) (mb := mVar 4) (ev_call (h1 := []) (ev_cons (ma := mVar 0) rfl (ev_cons (ma := mVar 1) rfl (ev_cons (ma := mVar 2) rfl (ev_cons (ma := mVar 5) rfl (ev_cons (ma := mVar 6) (mA := mNil) rfl rfl))))) eb rfl (pures_cons (pure_wL A) (pures_cons (pure_wL B) (pures_cons rfl (pures_cons (pure_rowL r) rfl))))) rfl (show (fInZ true) (rowL r') (knV F) [] = _ from not_inV keyR (K := ddp [] F) (vs := List.replicate (ddp [] F).length (.bl true)) (h := []) r'))
    rw [decide_eq_true ((ddp_mem F [] r').mpr (.inr e2))] at e
    exact ev_lcons rfl (ev_ifF e rfl) ih
def arL : MS := (mSeq (mIfS (mAnd (mB (mOp (fEq true) (mOp fIxX (mVar 5) (mC (.int 3))) (mC (.str [])))) (mB (mOp (fEq true) (mOp fIxX (mVar 5) (mC (.int 4))) (mC (.str []))))) (mRet (mC (.bl false))) mNext) (mSeq (mIfS (mAnd (mNot (mTru (mOp fIxX (mVar 5) (mC (.int 2))))) (mNot (mTru (mCall 3 m__law_is_even (mCons (mVar 0) (mCons (mVar 1) (mCons (mVar 5) mNil))))))) (mRet (mC (.bl false))) mNext) (mFor (mAnyI (mLc (mAnyI (mTup (mCons (mC (.str [97])) (mCons (mC (.str [110])) (mCons (mC (.str [114])) mNil))))) (mName 6) (mTru (mCall 3 m__law_can (mCons (mVar 2) (mCons (mOp fIxX (mVar 5) (mC (.int 2))) (mCons (mVar 6) mNil))))) (mVar 6) [6])) (mName 6) arI)))
theorem ar_out (hA : A.length ≤ 12) (hB : B.length ≤ 12) {F : List Row} {nv : LV} : ∀ (R : List Row) (x5 x6 : Option LV), (∀ r ∈ R, okR2 A B k r ∧ (r.u = [] ∨ r.v = []) ∧ (r.op || evenR A B r) = true ∧ ∀ g ∈ sgs k r.op, ∃ r', nextO A B k r g = some r' ∧ r' ∈ F) → ∃ y5 y6,
    runL (mName 5) arL (R.map rowL) [some (wL A), some (wL B), some (kL k), some nv, some (knV F), x5, x6] [] = .ok (.nx, [some (wL A), some (wL B), some (kL k), some nv, some (knV F), y5, y6]) []
  | [], x5, x6, _ => ⟨x5, x6, rfl⟩
  | r :: R, x5, x6, H => by
    obtain ⟨o, w, f, nx⟩ := H r List.mem_cons_self
    obtain ⟨z6, e1⟩ := ar_in hA hB (F := F) (nv := nv) o (sgs k r.op) x6 nx
    obtain ⟨y5, y6, ih⟩ := ar_out hA hB (F := F) (nv := nv) R (some (rowL r)) z6 fun q hq => H q (List.mem_cons_of_mem _ hq)
    have s1 : mIfS (mAnd (mB (mOp (fEq true) (mOp fIxX (mVar 5) (mC (.int 3))) (mC (.str [])))) (mB (mOp (fEq true) (mOp fIxX (mVar 5) (mC (.int 4))) (mC (.str []))))) (mRet (mC (.bl false))) mNext [some (wL A), some (wL B), some (kL k), some nv, some (knV F), some (rowL r), x6] [] = .ok (.nx, [some (wL A), some (wL B), some (kL k), some nv, some (knV F), some (rowL r), x6]) [] := by
      refine ev_ifF (h1 := []) ((ev_and (c := decide (r.u ≠ [])) (d := decide (r.v ≠ [])) (ev_b (ev_op rfl rfl (ne_sL r.u [] []))) fun _ => ev_b (ev_op rfl rfl (ne_sL r.v [] []))).trans ?_) rfl
      rcases w with w | w
      · rw [decide_eq_false (fun z => z w), Bool.false_and]
      · rw [decide_eq_false (show ¬ r.v ≠ [] from fun z => z w), Bool.and_false]
    have s2 : mIfS (mAnd (mNot (mTru (mOp fIxX (mVar 5) (mC (.int 2))))) (mNot (mTru (mCall 3 m__law_is_even (mCons (mVar 0) (mCons (mVar 1) (mCons (mVar 5) mNil))))))) (mRet (mC (.bl false))) mNext [some (wL A), some (wL B), some (kL k), some nv, some (knV F), some (rowL r), x6] [] = .ok (.nx, [some (wL A), some (wL B), some (kL k), some nv, some (knV F), some (rowL r), x6]) [] := by
      refine ev_ifF (h1 := []) ((ev_and (c := !r.op) (d := !evenR A B r) (ev_not (ev_truB rfl)) fun _ => ev_not (ev_truB (ev_call (h1 := []) (ev_cons rfl (ev_cons rfl (ev_cons rfl rfl))) (c_leven hA hB (some r) fun r' e => by injection e with e; rw [← e]; exact o.toG hA hB) rfl (pures_cons (pure_wL A) (pures_cons (pure_wL B) (pures_cons (pure_rowL r) rfl)))))).trans ?_) rfl
      rw [← Bool.not_or, f]
      rfl
    have sg := sg_lc (k := k) (b := r.op) (s := 6) (eo := mOp fIxX (mVar 5) (mC (.int 2))) (ρ := [some (wL A), some (wL B), some (kL k), some nv, some (knV F), some (rowL r), x6]) (h := []) fun g => ⟨[some (wL A), some (wL B), some (kL k), some nv, some (knV F), some (rowL r), some (gL g)], rfl, rfl, rfl, rfl⟩
    have hl : ((sgs k r.op).map gL).length < 60000 := by
      have : (sgs k r.op).length ≤ 3 := List.length_filter_le _ _
      rw [List.length_map]
      omega
    refine ⟨y5, y6, ?_⟩
    rw [List.map_cons]
    exact ev_lcons rfl (ev_seq s1 (ev_seq s2 (ev_for (ev_anyL sg) hl e1))) ih
theorem ShutR.next {F : List Row} (S : ShutR A B k F) {r : Row} (hr : r ∈ F) {g : Sg} (hg : g ∈ sgs k r.op) : ∃ r', nextO A B k r g = some r' ∧ r' ∈ F := by
  have m := S.cl r hr g hg
  exact ⟨_, if_pos (S.whole m), m⟩
theorem c_lrows (hA : A.length ≤ 12) (hB : B.length ≤ 12) {F : List Row} (S : ShutR A B k F) (hl : F.length ≤ 40000) : cal m__law_are_rows [wL A, wL B, kL k, .vl (F.map rowL)] = some (.bl true) := by
  have hl2 := ddp_len F ([] : List Row)
  obtain ⟨y5, y6, eo⟩ := ar_out hA hB (F := F) (nv := .vl (F.map rowL)) (k := k) (ddp [] F) none none fun r hr => by
    have hr : r ∈ F := by
      rcases (ddp_mem F [] r).mp hr with z | z
      · cases z
      · exact z
    exact ⟨(S.fin r hr).1, S.whole hr, (S.fin r hr).2, fun g hg => S.next hr hg⟩
  have kn : mCB fDictN (mCons (mLc (mAnyI (mVar 3)) (mName 5) mYes (mTup (mCons (mVar 5) (mCons (mC (.bl true)) mNil))) [5]) mNil) [some (wL A), some (wL B), some (kL k), some (.vl (F.map rowL)), none, none, none] [] = .ok (knV F) [] := by
    refine ev_cb (ev_cons (ev_lc (ev_anyL (xs := F.map rowL) rfl) (by rw [List.length_map]; omega) (lcL_mapA rowL (fun r => .tup [rowL r, .bl true]) F fun r _ => ⟨_, rfl, ev_tup (ev_cons rfl (ev_cons rfl rfl)) (by show 2 ≤ 60000; decide)⟩)) rfl) ?_
    have ef := foldL_rows keyR F []
    show (if (F.map fun r => LV.tup [rowL r, .bl true]).length ≤ 60000 then (match foldL [] [] (F.map fun r => LV.tup [rowL r, .bl true]) with | some (ks, ws) => R.ok (LV.vd ks ws) [] | none => .bad) else .bad) = _
    rw [List.length_map, if_pos (by omega)]
    rw [List.map_nil, List.length_nil, List.replicate_zero] at ef
    rw [ef]
  have ff := ev_b (ev_op (h1 := []) (h2 := []) (ρ := [some (wL A), some (wL B), some (kL k), some (.vl (F.map rowL)), some (knV F), none, none]) (ma := (mTup (mCons (mCall 1 m__law_first (mCons (mVar 0) mNil)) (mCons (mCall 1 m__law_first (mCons (mVar 1) mNil)) (mCons (mC (.bl false)) (mCons (mC (.str [])) (mCons (mC (.str [])) mNil))))))) (mb := mVar 4) (v := rowL (firstR A B)) (ev_tup (h1 := []) (ev_cons (h1 := []) (ev_call (h1 := []) (ev_cons rfl rfl) (c_lfirst A (by omega)) rfl (pures_cons (pure_wL A) rfl)) (ev_cons (h1 := []) (ev_call (h1 := []) (ev_cons rfl rfl) (c_lfirst B (by omega)) rfl (pures_cons (pure_wL B) rfl)) rfl)) (by show 5 ≤ 60000; decide)) rfl (not_inV keyR (K := ddp [] F) (vs := List.replicate (ddp [] F).length (.bl true)) (h := []) (firstR A B)))
  rw [decide_eq_true ((ddp_mem F [] _).mpr (.inr S.one))] at ff
  have ei : mAnyI (mVar 4) [some (wL A), some (wL B), some (kL k), some (.vl (F.map rowL)), some (knV F), none, none] [] = .ok (.vals ((ddp [] F).map rowL)) [] := rfl
  exact cal_of (h1 := []) (v := .bl true) (fn_rt (ev_seq (ev_asg kn rfl) (ev_seq (ev_ifF ff rfl) (ev_seq (ev_for ei (by rw [List.length_map]; simp only [List.length_nil] at hl2; omega) eo) (ev_ret rfl))))) rfl
end
end Sx
set_option maxHeartbeats 1000000
namespace Sx
open PySem PySem.Spec Rm K04
/-! ### a list is empty, or not -/
theorem eqv_nil : ∀ ds : List PyData, PyData.eqv (.list ds) (.list []) = ds.isEmpty
  | [] => rfl
  | _ :: _ => rfl
theorem ne_nilL {v : LV} {ds : List PyData} {n : Nat} {h : List LO} (e : LV.dat h 20000 v = some (.list ds)) (l1 : PyData.canLayAll0 ds = true) (l2 : PyData.depthAll ds ≤ 60) (hs : scL v (.vl []) = none) : fEq true v (.vl []) h = .ok (.bl (!ds.isEmpty)) h := by
  have s1 : SeqAt.shaped (.list ds) = true := by
    simp only [SeqAt.shaped, PyData.canLay0, PyData.depth, l1, Bool.true_and]
    exact decide_eq_true (by omega)
  have s2 : SeqAt.shaped (.list []) = true := by decide
  unfold fEq
  rw [hs]
  show (match LV.dat h 20000 v, LV.dat h 20000 (.vl []) with | some d, some e => _ | _, _ => _) = _
  rw [e, show LV.dat h 20000 (.vl []) = some (.list []) from rfl]
  simp only [s1, s2, Bool.and_self, if_true, eqv_nil]
theorem dats_all {α : Type} {enc : α → LV} {d : α → PyData} {h : List LO} {m : Nat} (H : ∀ a n, m ≤ n → LV.dat h n (enc a) = some (d a)) : ∀ (xs : List α) (n : Nat), xs.length + m + 1 ≤ n → LV.dats h n (xs.map enc) = some (xs.map d)
  | [], n, hn => by
    obtain ⟨n, rfl⟩ : ∃ k, n = k + 1 := ⟨n - 1, by omega⟩
    rfl
  | a :: xs, n, hn => by
    obtain ⟨n, rfl⟩ : ∃ k, n = k + 1 := ⟨n - 1, by omega⟩
    simp only [List.length_cons] at hn
    rw [List.map_cons, List.map_cons]
    simp only [LV.dats]
    rw [H a n (by omega), dats_all H xs n (by omega)]
theorem lay_all {α : Type} {d : α → PyData} {c : Nat} (H : ∀ a, PyData.canLay0 (d a) = true ∧ (d a).depth ≤ c) : ∀ xs : List α, PyData.canLayAll0 (xs.map d) = true ∧ PyData.depthAll (xs.map d) ≤ c
  | [] => ⟨rfl, Nat.zero_le _⟩
  | a :: xs => by
    obtain ⟨h1, h2⟩ := lay_all H xs
    obtain ⟨g1, g2⟩ := H a
    rw [List.map_cons]
    simp only [PyData.canLayAll0, PyData.depthAll, h1, g1, Bool.and_self, true_and]
    omega
/-! ### rows and standings as data -/
def dBl (s : List Bool) : PyData := .tuple (s.map .bool)
def dSg (t : List Sg) : PyData := .str ⟨(t.map Sg.c).toArray⟩
theorem lay_dSg (t : List Sg) : PyData.canLay0 (dSg t) = true ∧ (dSg t).depth ≤ 0 := by
  refine ⟨?_, Nat.le_refl _⟩
  show PyData.canLay0 (.str ⟨(t.map Sg.c).toArray⟩) = true
  simp only [PyData.canLay0]
  show ((t.map Sg.c).toArray).all (· < 0x110000) = true
  rw [List.all_toArray, List.all_map, List.all_eq_true]
  intro s _
  cases s <;> decide
theorem lay_dBl (s : List Bool) : PyData.canLay0 (dBl s) = true ∧ (dBl s).depth ≤ 1 := by
  have h := lay_all (d := PyData.bool) (c := 0) (fun a => ⟨rfl, Nat.le_refl _⟩) s
  unfold dBl
  simp only [PyData.canLay0, PyData.depth, h.1, true_and]
  omega
theorem dat_bl2 (s : List Bool) (h : List LO) (n : Nat) (hs : s.length + 3 ≤ n) : LV.dat h n (bL s) = some (dBl s) := by
  obtain ⟨n, rfl⟩ : ∃ k, n = k + 1 := ⟨n - 1, by omega⟩
  show (LV.dats h n (s.map .bl)).map PyData.tuple = _
  rw [dats_all (enc := LV.bl) (d := PyData.bool) (m := 1) (fun a n hn => by
    obtain ⟨n, rfl⟩ : ∃ k, n = k + 1 := ⟨n - 1, by omega⟩
    rfl) s n (by omega)]
  rfl
def dRow (r : Row) : PyData := .tuple [dBl r.s1, dBl r.s2, .bool r.op, dSg r.u, dSg r.v]
def dOR : Option Row → PyData
  | none => .none
  | some r => dRow r
theorem dat_row (r : Row) (h : List LO) (n : Nat) (h1 : r.s1.length ≤ 12) (h2 : r.s2.length ≤ 12) (hn : 40 ≤ n) : LV.dat h n (rowL r) = some (dRow r) := by
  obtain ⟨n, rfl⟩ : ∃ k, n = k + 10 := ⟨n - 10, by omega⟩
  show (LV.dats h (n + 9) [bL r.s1, bL r.s2, .bl r.op, sL r.u, sL r.v]).map PyData.tuple = _
  simp only [LV.dats]
  rw [dat_bl2 r.s1 h _ (by omega), dat_bl2 r.s2 h _ (by omega)]
  rfl
theorem lay_row (r : Row) : PyData.canLay0 (dRow r) = true ∧ (dRow r).depth ≤ 2 := by
  have a := lay_dBl r.s1
  have b := lay_dBl r.s2
  have c := lay_dSg r.u
  have d := lay_dSg r.v
  unfold dRow
  simp only [PyData.canLay0, PyData.canLayAll0, PyData.depth, PyData.depthAll, a.1, b.1, c.1, d.1, Bool.and_self, true_and]
  omega
/-! ### the law's places -/
abbrev Qn := Bool × Option Row
abbrev Nd := Option Qn
section
variable (A B : List Cv) (k : Kd)
def opN : Nd → Bool
  | none => false
  | some q => q.1
def roN : Nd → Option Row
  | none => some (firstR A B)
  | some q => q.2
def nxtQ (a : Nd) (g : Sg) : Qn := (opn k g, (roN A B a).bind fun r => nextO A B k r g)
def nxtN (a : Nd) (g : Sg) : Nd := some (nxtQ A B k a g)
def fineN (a : Nd) : Bool := opN a || evO A B (roN A B a)
def okN (a : Nd) : Prop := ∀ r, roN A B a = some r → okR2 A B k r ∧ r.op = opN a
def upN : List Nd := none :: some (true, none) :: (upR A B k).map fun r => some (r.op, some r)
end
def encQ (q : Qn) : LV := .tup [.bl q.1, oR q.2]
def encN (A B : List Cv) (a : Nd) : LV := .tup [.bl (opN a), oR (roN A B a)]
def dN (A B : List Cv) (a : Nd) : PyData := .tuple [.bool (opN a), dOR (roN A B a)]
theorem key_oR (a b : Option Row) : keqL (oR a) (oR b) = decide (a = b) := by
  cases a <;> cases b
  · rfl
  · simp [oR, rowL, keqL]
  · simp [oR, rowL, keqL]
  · simp only [oR, key_rowL, Option.some.injEq]
theorem key_encQ (a b : Qn) : keqL (encQ a) (encQ b) = decide (a = b) := by
  obtain ⟨a1, a2⟩ := a
  obtain ⟨b1, b2⟩ := b
  simp only [encQ, keqL, keqsL, key_oR]
  rw [Bool.eq_iff_iff]
  simp
theorem kfit_oR (o : Option Row) : kfit (oR o) 7 = true := by
  cases o with
  | none => rfl
  | some r => simp only [oR, rowL, kfit, kfits, kfits_bl, Bool.and_self]
theorem fit_encQ (q : Qn) : kfit (encQ q) 8 = true := by
  simp only [encQ, kfit, kfits, kfit_oR, Bool.and_self]
theorem pure_encQ (q : Qn) : (encQ q).pure = true := pures_cons rfl (pures_cons (pure_oR _) rfl)
theorem wlkQ : Wlk (fun _ h => .ok (encQ (false, none)) h) (fun _ h => .ok (.bl true) h) (fun _ h => .ok (.tup []) h) (fun _ h => .ok (encQ (false, none)) h) (.non) encQ (fun _ => True) (false, none) (fun _ => []) (fun _ _ => (false, none)) (fun _ => true) where
  f1 _ _ _ := rfl
  ff _ _ _ _ _ _ := rfl
  fs _ _ _ _ _ _ := rfl
  fb _ _ _ _ _ _ _ _ := rfl
  tup a := ⟨_, rfl⟩
  fit := fit_encQ
  inj := key_encQ
  pure := pure_encQ
section
variable {A B : List Cv} {k : Kd}
theorem nextO_some {r r' : Row} {g : Sg} (e : nextO A B k r g = some r') : r' = nextR A B k r g ∧ (r'.u = [] ∨ r'.v = []) := by
  unfold nextO at e
  split at e
  · rename_i c
    injection e with e
    subst e
    exact ⟨rfl, c⟩
  · cases e
theorem nfin : Fin3 (none : Nd) (fun a => sgs k (opN a)) (nxtN A B k) (fineN A B) (okN A B k) (upN A B k) where
  first := fun r e => by
    injection e with e
    rw [← e]
    exact ⟨okR2.first, rfl⟩
  step a g o hf hg := fun r e => by
    cases q : roN A B a with
    | none =>
      have : (roN A B a).bind (fun r => nextO A B k r g) = some r := e
      rw [q] at this
      cases this
    | some r0 =>
      have : (roN A B a).bind (fun r => nextO A B k r g) = some r := e
      rw [q] at this
      obtain ⟨e2, _⟩ := nextO_some this
      obtain ⟨o1, o2⟩ := o r0 q
      have hf : (opN a || evO A B (roN A B a)) = true := hf
      rw [q, ← o2] at hf
      rw [← o2] at hg
      subst e2
      exact ⟨o1.step hf hg, rfl⟩
  three a := List.length_filter_le _ _
  few a o hf := by
    cases a with
    | none => exact List.mem_cons_self
    | some q =>
      obtain ⟨b, ro⟩ := q
      cases ro with
      | none =>
        have hf : (b || false) = true := hf
        rw [Bool.or_false] at hf
        subst hf
        exact List.mem_cons_of_mem _ List.mem_cons_self
      | some r =>
        obtain ⟨o1, o2⟩ := o r rfl
        have o2 : r.op = b := o2
        have hf : (b || evenR A B r) = true := hf
        rw [← o2] at hf
        refine List.mem_cons_of_mem _ (List.mem_cons_of_mem _ (List.mem_map.mpr ⟨r, (o1.1.gone hf).mem, by rw [o2]⟩))
/-! ### the law's places and the program's rows -/
def Parted (A B : List Cv) (r : Row) : Prop := ∀ l, ¬ Same A B r l
theorem parted_next {r : Row} {g : Sg} (h1 : r.s1.length = A.length) (h2 : r.s2.length = B.length) (p : Parted A B r) : Parted A B (nextR A B k r g) := fun l e => p (g :: l) ((same_next h1 h2 l).mpr e)
theorem parted_ev {r : Row} (p : Parted A B r) : evenR A B r = false := by
  cases e : evenR A B r with
  | false => rfl
  | true => exact absurd (of_decide_eq_true (p := r.u ++ endW A r.s1 [] = r.v ++ endW B r.s2 []) e) (p [])
theorem nextO_none {r : Row} {g : Sg} (e : nextO A B k r g = none) : Parted A B (nextR A B k r g) := by
  unfold nextO at e
  split at e
  · cases e
  · rename_i c
    exact fun l z => lcp_ne _ _ (fun y => c (.inl y)) (fun y => c (.inr y)) _ _ z
abbrev PthN (A B : List Cv) (k : Kd) : List Sg → Nd → Prop := Pth (none : Nd) (fun a => sgs k (opN a)) (nxtN A B k)
abbrev PthR (A B : List Cv) (k : Kd) : List Sg → Row → Prop := Pth (firstR A B) (fun r => sgs k r.op) (nextR A B k)
def Sim (A B : List Cv) (a : Nd) (r : Row) : Prop := r.op = opN a ∧ (roN A B a = some r ∨ roN A B a = none ∧ Parted A B r)
theorem Sim.next {a : Nd} {r : Row} {g : Sg} (h1 : r.s1.length = A.length) (h2 : r.s2.length = B.length) (s : Sim A B a r) : Sim A B (nxtN A B k a g) (nextR A B k r g) := by
  refine ⟨rfl, ?_⟩
  show (roN A B a).bind (fun r => nextO A B k r g) = _ ∨ (roN A B a).bind (fun r => nextO A B k r g) = none ∧ _
  rcases s.2 with e | ⟨e, p⟩
  · rw [e]
    show nextO A B k r g = _ ∨ nextO A B k r g = none ∧ _
    cases q : nextO A B k r g with
    | none => exact .inr ⟨rfl, nextO_none q⟩
    | some r' => exact .inl (by rw [(nextO_some q).1])
  · rw [e]
    exact .inr ⟨rfl, parted_next h1 h2 p⟩
theorem Sim.fine {a : Nd} {r : Row} (s : Sim A B a r) : fineN A B a = (r.op || evenR A B r) := by
  unfold fineN
  rw [s.1]
  rcases s.2 with e | ⟨e, p⟩
  · rw [e]; rfl
  · rw [e, parted_ev p]; rfl
theorem sim_to {t : List Sg} {a : Nd} (h : PthN A B k t a) : ∃ r, PthR A B k t r ∧ Sim A B a r := by
  induction h with
  | nil => exact ⟨_, .nil, rfl, .inl rfl⟩
  | @snoc t a g h1 h2 ih =>
    obtain ⟨r, p, s⟩ := ih
    have l := pth_row p
    exact ⟨_, .snoc p (by show g ∈ sgs k r.op; rw [s.1]; exact h2), s.next l.2.1 l.2.2.1⟩
theorem sim_from {t : List Sg} {r : Row} (h : PthR A B k t r) : ∃ a, PthN A B k t a ∧ Sim A B a r := by
  induction h with
  | nil => exact ⟨none, .nil, rfl, .inl rfl⟩
  | @snoc t r g h1 h2 ih =>
    obtain ⟨a, p, s⟩ := ih
    have l := pth_row h1
    exact ⟨_, .snoc p (by show g ∈ sgs k (opN a); rw [← s.1]; exact h2), s.next l.2.1 l.2.2.1⟩
theorem leastN {t : List Sg} (L : Least (none : Nd) (fun a => sgs k (opN a)) (nxtN A B k) (fineN A B) t) : PartP A B k t := by
  obtain ⟨⟨a, p, f⟩, le⟩ := L
  refine least_part ⟨?_, fun s r q fr => ?_⟩
  · obtain ⟨r, pr, s⟩ := sim_to p
    exact ⟨r, pr, by rw [s.fine] at f; exact f⟩
  · obtain ⟨b, pb, sb⟩ := sim_from q
    exact le s b pb (by rw [sb.fine]; exact fr)
theorem shutN {F : List Nd} (S : Shut (none : Nd) (fun a => sgs k (opN a)) (nxtN A B k) (fineN A B) (okN A B k) F) : AlikeP A B k := fun t ht => by
  rw [kind_run] at ht
  obtain ⟨r, p, o⟩ := pth_text (k := k) (op := Row.op) (first := firstR A B) (nxt := nextR A B k) rfl (fun _ _ => rfl) t.length t false rfl (of_decide_eq_true ht)
  obtain ⟨a, pa, s⟩ := sim_from p
  have := (S.fin a (shut_path S pa)).2
  rw [s.fine, o, Bool.false_or] at this
  exact (row_even p).mpr this
/-! ### the run -/
abbrev encL (A B : List Cv) (p : Nd × List Sg) : LV := encN A B p.1
def atR (A B : List Cv) (rv : LV) (h : List LO) (rows : List (Nd × List Sg)) : Prop := match rv with
  | .ref lv => lv ≠ 0 ∧ h[lv]? = some (.lst (rows.map (encL A B)))
  | .vl xs => xs = rows.map (encL A B)
  | _ => False
def itR : LV → Itr
  | .ref lv => .mref lv
  | .vl xs => .vals xs
  | _ => .vals []
theorem at_it {rv : LV} {h : List LO} {rows : List (Nd × List Sg)} (q : atR A B rv h rows) (i : Nat) : Itr.at (itR rv) i h = some ((rows[i]?).map (encL A B)) := by
  unfold atR at q
  split at q
  · simp only [itR, Itr.at, q.2, List.getElem?_map]
  · subst q
    simp only [itR, Itr.at, List.getElem?_map]
  · exact q.elim
theorem at_keep {rv : LV} {h h' : List LO} {lg : Nat} {rows : List (Nd × List Sg)} (q : atR A B rv h rows) (hl : h[lg]? ≠ none → ∀ lv, rv = .ref lv → lv ≠ lg) (k : ∀ j, j ≠ 0 → (∀ lv, rv = .ref lv → j = lv) → h'[j]? = h[j]?) : atR A B rv h' rows := by
  unfold atR at q ⊢
  split at q
  · exact ⟨q.1, by rw [k _ q.1 fun lv e => by injection e]; exact q.2⟩
  · exact q
  · exact q.elim
theorem at_app {rv : LV} {h : List LO} {rows : List (Nd × List Sg)} (q : atR A B rv h rows) (o : LO) : atR A B rv (h ++ [o]) rows := by
  unfold atR at q ⊢
  split at q
  · refine ⟨q.1, ?_⟩
    rw [List.getElem?_append_left (List.getElem?_eq_some_iff.mp q.2).1]
    exact q.2
  · exact q
  · exact q.elim
theorem at_any {rv : LV} {h : List LO} {rows : List (Nd × List Sg)} {ρ : Rho} (q : atR A B rv h rows) (e : ρ[3]? = some (some rv)) : mAnyI (mVar 3) ρ h = .ok (itR rv) h := by
  have e0 := var_of (h := h) e
  unfold mAnyI
  rw [e0]
  unfold atR at q
  split at q
  · rename_i lv
    show (match itOf h (.ref lv) with | some it => R.ok it h | none => .bad) = _
    simp only [itOf, q.2, itR]
  · rename_i xs
    show (match itOf h (.vl xs) with | some it => R.ok it h | none => .bad) = _
    rfl
  · exact q.elim
theorem dat_N (ha : ∀ r, roN A B a = some r → r.s1.length ≤ 12 ∧ r.s2.length ≤ 12) {n : Nat} {h : List LO} (hn : 50 ≤ n) : LV.dat h n (encN A B a) = some (dN A B a) := by
  obtain ⟨n, rfl⟩ : ∃ k, n = k + 10 := ⟨n - 10, by omega⟩
  show (LV.dats h (n + 9) [.bl (opN a), oR (roN A B a)]).map PyData.tuple = _
  simp only [LV.dats]
  have : LV.dat h (n + 7) (oR (roN A B a)) = some (dOR (roN A B a)) := by
    cases q : roN A B a with
    | none => rfl
    | some r => exact dat_row r h _ (ha r q).1 (ha r q).2 (by omega)
  rw [this]
  rfl
theorem lay_N (a : Nd) : PyData.canLay0 (dN A B a) = true ∧ (dN A B a).depth ≤ 3 := by
  have h : PyData.canLay0 (dOR (roN A B a)) = true ∧ (dOR (roN A B a)).depth ≤ 2 := by
    cases q : roN A B a with
    | none => exact ⟨rfl, Nat.zero_le _⟩
    | some r => exact lay_row r
  unfold dN
  simp only [PyData.canLay0, PyData.canLayAll0, PyData.depth, PyData.depthAll, h.1, Bool.and_self, true_and]
  have : (PyData.bool (opN a)).depth = 0 := rfl
  omega
theorem ne_rows {rv : LV} {h : List LO} {rows : List (Nd × List Sg)} (q : atR A B rv h rows) (hr : ∀ p ∈ rows, ∀ r, roN A B p.1 = some r → r.s1.length ≤ 12 ∧ r.s2.length ≤ 12) (hl : rows.length ≤ 19000) : fEq true rv (.vl []) h = .ok (.bl (!rows.isEmpty)) h := by
  have ds : ∀ (xs : List (Nd × List Sg)) (n : Nat), (∀ p ∈ xs, ∀ r, roN A B p.1 = some r → r.s1.length ≤ 12 ∧ r.s2.length ≤ 12) → xs.length + 51 ≤ n → LV.dats h n (xs.map (encL A B)) = some (xs.map fun p => dN A B p.1) := by
    intro xs
    induction xs with
    | nil => intro n _ hn; obtain ⟨n, rfl⟩ : ∃ k, n = k + 1 := ⟨n - 1, by omega⟩; rfl
    | cons p xs ih =>
      intro n H hn
      obtain ⟨n, rfl⟩ : ∃ k, n = k + 1 := ⟨n - 1, by omega⟩
      simp only [List.length_cons] at hn
      rw [List.map_cons, List.map_cons]
      simp only [LV.dats]
      rw [dat_N (H p List.mem_cons_self) (by omega), ih n (fun x hx => H x (List.mem_cons_of_mem _ hx)) (by omega)]
  have l := lay_all (d := fun p : Nd × List Sg => dN A B p.1) (c := 3) (fun p => lay_N p.1) rows
  have e : LV.dat h 20000 rv = some (.list (rows.map fun p => dN A B p.1)) ∧ scL rv (.vl []) = none := by
    unfold atR at q
    split at q
    · refine ⟨?_, rfl⟩
      rename_i lv
      show (match h[lv]? with | some (.lst xs) => (LV.dats h 19999 xs).map PyData.list | _ => none) = _
      rw [q.2]
      show (LV.dats h 19999 _).map PyData.list = _
      rw [ds rows 19999 hr (by omega)]
      rfl
    · subst q
      refine ⟨?_, rfl⟩
      show (LV.dats h 19999 _).map PyData.list = _
      rw [ds rows 19999 hr (by omega)]
      rfl
    · exact q.elim
  have := ne_nilL (n := 0) e.1 l.1 (by omega) e.2
  rw [this]
  cases rows <;> rfl
end
end Sx
set_option maxHeartbeats 1000000
namespace Sx
open PySem PySem.Spec Rm K04
/-! ### how much a text grows -/
def grw : Cv → Bool
  | .all => true
  | .care => true
  | _ => false
def stp (c : Cv) (p : Nat × Nat) : Nat × Nat := if grw c = true then (p.1 + p.2, p.2) else (max p.1 p.2, max p.1 p.2)
def gB : List Bool → Nat × Nat
  | [] => (1, 1)
  | true :: l => ((gB l).1 + (gB l).2, (gB l).2)
  | false :: l => (max (gB l).1 (gB l).2, max (gB l).1 (gB l).2)
def wt (p : Nat × Nat) : List Sg → Nat
  | [] => 0
  | .a :: l => 1 + wt p l
  | .n :: l => p.1 + wt p l
  | .r :: l => p.2 + wt p l
theorem wt_app (p : Nat × Nat) : ∀ x y : List Sg, wt p (x ++ y) = wt p x + wt p y
  | [], y => by simp [wt]
  | .a :: x, y => by simp only [List.cons_append, wt, wt_app p x y]; omega
  | .n :: x, y => by simp only [List.cons_append, wt, wt_app p x y]; omega
  | .r :: x, y => by simp only [List.cons_append, wt, wt_app p x y]; omega
theorem wt_out (c : Cv) (b nb : Bool) (s : Sg) (p : Nat × Nat) : wt p (outS c b nb s) ≤ wt (stp c p) [s] := by
  obtain ⟨x, y⟩ := p
  have h1 : x ≤ max x y := Nat.le_max_left _ _
  have h2 : y ≤ max x y := Nat.le_max_right _ _
  cases c <;> cases b <;> cases nb <;> cases s <;> simp [outS, wt, stp, grw] <;> omega
theorem wt_go (c : Cv) (p : Nat × Nat) : ∀ (l : List Sg) (b : Bool), wt p (go c b l) ≤ wt (stp c p) l
  | [], b => by simp [go, wt]
  | s :: l, b => by
    have h1 := wt_out c b (isN l) s p
    have h2 := wt_go c p l (decide (s = .r))
    have e : go c b (s :: l) = outS c b (isN l) s ++ go c (decide (s = .r)) l := rfl
    have e2 : wt (stp c p) (s :: l) = wt (stp c p) [s] + wt (stp c p) l := wt_app (stp c p) [s] l
    rw [e, wt_app, e2]
    omega
theorem gB_map (c : Cv) (ws : List Cv) : gB ((c :: ws).map grw) = stp c (gB (ws.map grw)) := by
  rw [List.map_cons]
  unfold stp
  cases grw c <;> rfl
theorem wt_turn : ∀ (ws : List Cv) (t : List Sg), wt (1, 1) (turnL ws t) ≤ wt (gB (ws.map grw)) t
  | [], t => Nat.le_refl _
  | c :: ws, t => by
    rw [gB_map]
    exact Nat.le_trans (wt_turn ws (by1 c t)) (wt_go c _ t false)
theorem wt_one : ∀ t : List Sg, wt (1, 1) t = t.length
  | [] => rfl
  | .a :: t => by simp only [wt, wt_one t, List.length_cons]; omega
  | .n :: t => by simp only [wt, wt_one t, List.length_cons]; omega
  | .r :: t => by simp only [wt, wt_one t, List.length_cons]; omega
theorem wt_le {p : Nat × Nat} {m : Nat} (h0 : 1 ≤ m) (h1 : p.1 ≤ m) (h2 : p.2 ≤ m) : ∀ t : List Sg, wt p t ≤ m * t.length
  | [] => Nat.zero_le _
  | .a :: t => by have := wt_le h0 h1 h2 t; simp only [wt, List.length_cons, Nat.mul_succ]; omega
  | .n :: t => by have := wt_le h0 h1 h2 t; simp only [wt, List.length_cons, Nat.mul_succ]; omega
  | .r :: t => by have := wt_le h0 h1 h2 t; simp only [wt, List.length_cons, Nat.mul_succ]; omega
def gTab : List Nat := [1, 2, 3, 4, 6, 9, 12]
theorem gB_tab : ((List.range 7).all fun n => (allB n).all fun l => decide ((gB l).1 ≤ gTab.getD n 0 ∧ (gB l).2 ≤ gTab.getD n 0)) = true := by decide +kernel
theorem gB_le (l : List Bool) (h : l.length ≤ 6) : (gB l).1 ≤ gTab.getD l.length 0 ∧ (gB l).2 ≤ gTab.getD l.length 0 := by
  have := List.all_eq_true.mp gB_tab l.length (List.mem_range.mpr (by omega))
  have := List.all_eq_true.mp this l (allB_mem _ _ rfl)
  exact of_decide_eq_true this
theorem gTab_le {n : Nat} (h : n ≤ 6) : 1 ≤ gTab.getD n 0 ∧ gTab.getD n 0 ≤ 12 ∧ (n ≤ 5 → gTab.getD n 0 ≤ 9) := by
  have : n = 0 ∨ n = 1 ∨ n = 2 ∨ n = 3 ∨ n = 4 ∨ n = 5 ∨ n = 6 := by omega
  rcases this with h | h | h | h | h | h | h <;> subst h <;> decide
theorem turn_grow (ws : List Cv) (t : List Sg) (h : ws.length ≤ 6) : (turnL ws t).length ≤ 12 * t.length ∧ (ws.length ≤ 5 → (turnL ws t).length ≤ 9 * t.length) := by
  have w := wt_turn ws t
  rw [wt_one] at w
  have g := gB_le (ws.map grw) (by rw [List.length_map]; exact h)
  rw [List.length_map] at g
  have tb := gTab_le h
  have l := wt_le tb.1 g.1 g.2 t
  refine ⟨Nat.le_trans w (Nat.le_trans l (Nat.mul_le_mul_right _ tb.2.1)), fun h5 => Nat.le_trans w (Nat.le_trans l (Nat.mul_le_mul_right _ (tb.2.2 h5)))⟩
def fitsL (m : Nat) : List Cv → List Sg → Prop
  | [], _ => True
  | c :: A, t => t.length ≤ m ∧ fitsL m A (by1 c t)
theorem fits_of {m : Nat} : ∀ (A : List Cv) (t : List Sg), (∀ j, j < A.length → (turnL (A.take j) t).length ≤ m) → fitsL m A t
  | [], t, _ => trivial
  | c :: A, t, H => ⟨H 0 (Nat.succ_pos _), fits_of A (by1 c t) fun j hj => H (j + 1) (Nat.succ_lt_succ hj)⟩
theorem fits6 {m : Nat} {A : List Cv} {t : List Sg} (hA : A.length ≤ 6) (h : 9 * t.length ≤ m) : fitsL m A t := fits_of A t fun j hj => by
  have l : (A.take j).length = j := by rw [List.length_take]; omega
  have := (turn_grow (A.take j) t (by omega)).2 (by omega)
  omega
theorem tu_loopF (wv : Option LV) : ∀ (ws : List Cv) (t : List Sg) (x2 x3 x4 : Option LV), fitsL 20000 ws t → ∃ y2 y3 y4, runL (mName 2) (mRepl rt__REPLACED 2 3 4 1) (ws.map cL) [wv, some (sL t), x2, x3, x4] [] = .ok (.nx, [wv, some (sL (turnL ws t)), y2, y3, y4]) []
  | [], t, x2, x3, x4, h => ⟨x2, x3, x4, rfl⟩
  | c :: ws, t, x2, x3, x4, h => by
    obtain ⟨y2, y3, y4, ih⟩ := tu_loopF wv ws (by1 c t) (some (cL c)) none none h.2
    exact ⟨y2, y3, y4, ev_lcons rfl (repl1 c t _ _ _ _ h.1) ih⟩
theorem c_turnF (ws : List Cv) (t : List Sg) (h : fitsL 20000 ws t) (h3 : ws.length ≤ 100) : cal m_turn [wL ws, sL t] = some (sL (turnL ws t)) := by
  obtain ⟨y2, y3, y4, e⟩ := tu_loopF (some (wL ws)) ws t none none none h
  exact cal_of (fn_rt (ev_seq (ev_for (ev_anyT (xs := ws.map cL) rfl) (by rw [List.length_map]; omega) e) (ev_ret rfl))) (outV_pure rfl)
theorem c_partingF {A B : List Cv} {k : Kd} (t : List Sg) (hA : A.length ≤ 100) (hB : B.length ≤ 100) (ht : t.length < 60000) (h1 : fitsL 20000 A t) (h2 : fitsL 20000 B t) : cal m_is_parting [wL A, wL B, .str k.cs, sL t] = some (.bl (kindL k t && decide (turnL A t ≠ turnL B t))) :=
  cal_of (h1 := []) (fn_rt (ev_ret (ev_andV (c := true) (ev_call (ev_cons rfl rfl) (c_istext t ht) rfl rfl) fun _ => ev_andV (ev_call (ev_cons rfl (ev_cons rfl rfl)) (c_fits t k) rfl rfl) fun _ => ev_op (ev_call (ev_cons rfl (ev_cons rfl rfl)) (c_turnF A t h1 hA) rfl (pures_cons (pure_wL A) rfl)) (ev_call (ev_cons rfl (ev_cons rfl rfl)) (c_turnF B t h2 hB) rfl (pures_cons (pure_wL B) rfl)) (ne_sL _ _ _)))) rfl
theorem c_pshowsF {A B : List Cv} {k : Kd} (t : List Sg) (hA : A.length ≤ 6) (hB : B.length ≤ 6) (ht : 9 * t.length ≤ 20000) : cal m_Parted_shows [partedO t, wL A, wL B, .str k.cs] = some (.bl (kindL k t && decide (turnL A t ≠ turnL B t))) :=
  cal_of (h1 := []) (fn_rt (ev_seq (ev_drop (ev_call (ev_cons rfl (ev_cons rfl (ev_cons rfl rfl))) (c_check A B k hA hB) rfl (pures_cons (pure_wL A) (pures_cons (pure_wL B) rfl)))) (ev_ret (ev_call (ev_cons rfl (ev_cons rfl (ev_cons rfl (ev_cons rfl rfl)))) (c_partingF t (by omega) (by omega) (by omega) (fits6 hA ht) (fits6 hB ht)) rfl (pures_cons (pure_wL A) (pures_cons (pure_wL B) rfl)))))) rfl
theorem lm_loopF (w : Option LV) : ∀ (A : List Cv) (t : List Sg) (x2 : Option LV), fitsL 20000 A t → ∃ y2, runL (mName 2) lmB (A.map cL) [w, some (sL t), x2] [] = .ok (.nx, [w, some (sL (turnL A t)), y2]) []
  | [], t, x2, h => ⟨x2, rfl⟩
  | c :: A, t, x2, h => by
    obtain ⟨y2, ih⟩ := lm_loopF w A (by1 c t) (some (cL c)) h.2
    refine ⟨y2, ?_⟩
    rw [List.map_cons]
    exact ev_lcons rfl (ev_asg (ev_call (ev_cons rfl (ev_cons rfl rfl)) (c_lby c t h.1) rfl rfl) rfl) ih
theorem c_lmadeF (A : List Cv) (t : List Sg) (hA : A.length ≤ 6) (h : 9 * t.length ≤ 20000) : cal m__law_made [wL A, sL t] = some (sL (turnL A t)) := by
  obtain ⟨y2, e⟩ := lm_loopF (some (wL A)) A t none (fits6 hA h)
  exact cal_of (v := sL (turnL A t)) (fn_rt (ev_seq (ev_for (ev_anyT (xs := A.map cL) rfl) (by rw [List.length_map]; omega) e) (ev_ret rfl))) (outV_pure rfl)
end Sx
set_option maxHeartbeats 1000000
namespace Sx
open PySem PySem.Spec Rm K04
section
variable {A B : List Cv} {k : Kd}
/-! ### lists of rows that show, or not, by the law -/
def nxF (A B : List Cv) (k : Kd) (F : List Row) (r : Row) (g : Sg) : Bool := match nextO A B k r g with
  | some r' => decide (r' ∈ F)
  | none => false
def lrB (A B : List Cv) (k : Kd) (F : List Row) : Bool := decide (firstR A B ∈ F) && F.all fun r => nodeR r && ((r.op || evenR A B r) && (sgs k r.op).all (nxF A B k F r))
theorem nxF_eq {F : List Row} (hF : F.all nodeR = true) (r : Row) (g : Sg) : nxF A B k F r g = decide (nextR A B k r g ∈ F) := by
  unfold nxF
  by_cases c : (nextR A B k r g).u = [] ∨ (nextR A B k r g).v = []
  · rw [show nextO A B k r g = some (nextR A B k r g) from if_pos c]
  · rw [show nextO A B k r g = none from if_neg c]
    symm
    rw [decide_eq_false_iff_not]
    intro m
    have := List.all_eq_true.mp hF _ m
    unfold nodeR at this
    rw [Bool.or_eq_true, decide_eq_true_eq, decide_eq_true_eq] at this
    exact c this
theorem lr_closed (F : List Row) : lrB A B k F = closedB nodeR (firstR A B) (fun r => sgs k r.op) (nextR A B k) (fun r => r.op || evenR A B r) F := by
  unfold lrB closedB
  cases hn : F.all nodeR with
  | false =>
    rw [Bool.false_and]
    have : (F.all fun r => nodeR r && ((r.op || evenR A B r) && (sgs k r.op).all (nxF A B k F r))) = false := by
      rw [List.all_eq_false] at hn ⊢
      obtain ⟨r, hr, h⟩ := hn
      refine ⟨r, hr, ?_⟩
      intro z
      rw [Bool.and_eq_true] at z
      exact h z.1
    rw [this, Bool.and_false]
  | true =>
    rw [Bool.true_and]
    congr 1
    rw [Bool.eq_iff_iff, List.all_eq_true, List.all_eq_true]
    constructor
    · intro h r hr
      have := h r hr
      rw [Bool.and_eq_true, Bool.and_eq_true, List.all_eq_true] at this
      rw [Bool.and_eq_true, List.all_eq_true]
      exact ⟨this.2.1, fun g hg => by rw [← nxF_eq hn]; exact this.2.2 g hg⟩
    · intro h r hr
      have := h r hr
      rw [Bool.and_eq_true, List.all_eq_true] at this
      rw [Bool.and_eq_true, Bool.and_eq_true, List.all_eq_true]
      exact ⟨List.all_eq_true.mp hn r hr, this.1, fun g hg => by rw [nxF_eq hn]; exact this.2 g hg⟩
theorem ni_row (F : List Row) (r : Row) (g : Sg) (h : List LO) : (fInZ true) (oR (nextO A B k r g)) (knV F) h = .ok (.bl (!nxF A B k F r g)) h := by
  unfold nxF
  cases q : nextO A B k r g with
  | none => rfl
  | some r' =>
    have e := not_inV keyR (K := ddp [] F) (vs := List.replicate (ddp [] F).length (.bl true)) (h := h) r'
    have e2 : decide (r' ∈ ddp [] F) = decide (r' ∈ F) := by
      rw [decide_eq_decide, ddp_mem]
      simp
    rw [e2] at e
    exact e
theorem arg_in (hA : A.length ≤ 12) (hB : B.length ≤ 12) {F : List Row} {r : Row} (o : okG A B r) {nv : LV} : ∀ (gs : List Sg) (x6 : Option LV), ∃ y6,
    runL (mName 6) arI (gs.map gL) [some (wL A), some (wL B), some (kL k), some nv, some (knV F), some (rowL r), x6] [] = .ok (rtF (gs.all (nxF A B k F r)) [some (wL A), some (wL B), some (kL k), some nv, some (knV F), some (rowL r), y6]) []
  | [], x6 => ⟨x6, rfl⟩
  | g :: gs, x6 => by
    have eb := c_lbehind (k := k) hA hB r g o.l1 o.l2 o.u o.v
    have e := ev_b (ev_op (h1 := []) (h2 := []) (ρ := [some (wL A), some (wL B), some (kL k), some nv, some (knV F), some (rowL r), some (gL g)]) (mb := mVar 4) (ev_call (h1 := []) (ev_cons (ma := mVar 0) rfl (ev_cons (ma := mVar 1) rfl (ev_cons (ma := mVar 2) rfl (ev_cons (ma := mVar 5) rfl (ev_cons (ma := mVar 6) (mA := mNil) rfl rfl))))) eb rfl (pures_cons (pure_wL A) (pures_cons (pure_wL B) (pures_cons rfl (pures_cons (pure_rowL r) rfl))))) rfl (ni_row F r g []))
    rw [List.map_cons]
    cases c : nxF A B k F r g with
    | true =>
      obtain ⟨y6, ih⟩ := arg_in hA hB (F := F) (nv := nv) o gs (some (gL g))
      refine ⟨y6, ?_⟩
      rw [c] at e
      rw [List.all_cons, c, Bool.true_and]
      exact ev_lcons rfl (ev_ifF e rfl) ih
    | false =>
      refine ⟨some (gL g), ?_⟩
      rw [c] at e
      rw [List.all_cons, c, Bool.false_and]
      exact ev_lrt rfl (ev_ifT e (ev_ret rfl))
theorem arg_out (hA : A.length ≤ 12) (hB : B.length ≤ 12) {F : List Row} {nv : LV} : ∀ (R : List Row) (x5 x6 : Option LV), (∀ r ∈ R, okG A B r) → ∃ y5 y6,
    runL (mName 5) arL (R.map rowL) [some (wL A), some (wL B), some (kL k), some nv, some (knV F), x5, x6] [] = .ok (rtF (R.all fun r => nodeR r && ((r.op || evenR A B r) && (sgs k r.op).all (nxF A B k F r))) [some (wL A), some (wL B), some (kL k), some nv, some (knV F), y5, y6]) []
  | [], x5, x6, _ => ⟨x5, x6, rfl⟩
  | r :: R, x5, x6, H => by
    have o := H r List.mem_cons_self
    have t1 : mAnd (mB (mOp (fEq true) (mOp fIxX (mVar 5) (mC (.int 3))) (mC (.str [])))) (mB (mOp (fEq true) (mOp fIxX (mVar 5) (mC (.int 4))) (mC (.str [])))) [some (wL A), some (wL B), some (kL k), some nv, some (knV F), some (rowL r), x6] [] = .ok (!nodeR r) [] := by
      refine (ev_and (c := decide (r.u ≠ [])) (d := decide (r.v ≠ [])) (ev_b (ev_op rfl rfl (ne_sL r.u [] []))) fun _ => ev_b (ev_op rfl rfl (ne_sL r.v [] []))).trans ?_
      unfold nodeR
      rw [decide_not, decide_not, Bool.not_or]
    have t2 : mAnd (mNot (mTru (mOp fIxX (mVar 5) (mC (.int 2))))) (mNot (mTru (mCall 3 m__law_is_even (mCons (mVar 0) (mCons (mVar 1) (mCons (mVar 5) mNil)))))) [some (wL A), some (wL B), some (kL k), some nv, some (knV F), some (rowL r), x6] [] = .ok (!(r.op || evenR A B r)) [] := by
      refine (ev_and (c := !r.op) (d := !evenR A B r) (ev_not (ev_truB rfl)) fun _ => ev_not (ev_truB (ev_call (h1 := []) (ev_cons rfl (ev_cons rfl (ev_cons rfl rfl))) (c_leven hA hB (some r) fun r' e => by injection e with e; rw [← e]; exact o) rfl (pures_cons (pure_wL A) (pures_cons (pure_wL B) (pures_cons (pure_rowL r) rfl)))))).trans ?_
      rw [← Bool.not_or]
    have sg := sg_lc (k := k) (b := r.op) (s := 6) (eo := mOp fIxX (mVar 5) (mC (.int 2))) (ρ := [some (wL A), some (wL B), some (kL k), some nv, some (knV F), some (rowL r), x6]) (h := []) fun g => ⟨[some (wL A), some (wL B), some (kL k), some nv, some (knV F), some (rowL r), some (gL g)], rfl, rfl, rfl, rfl⟩
    have hl : ((sgs k r.op).map gL).length < 60000 := by
      have : (sgs k r.op).length ≤ 3 := List.length_filter_le _ _
      rw [List.length_map]
      omega
    rw [List.map_cons, List.all_cons]
    cases c1 : nodeR r with
    | false =>
      rw [c1] at t1
      exact ⟨some (rowL r), x6, ev_lrt rfl (ev_rt (ev_ifT t1 (ev_ret rfl)))⟩
    | true =>
      rw [c1] at t1
      cases c2 : (r.op || evenR A B r) with
      | false =>
        rw [c2] at t2
        exact ⟨some (rowL r), x6, ev_lrt rfl (ev_seq (ev_ifF t1 rfl) (ev_rt (ev_ifT t2 (ev_ret rfl))))⟩
      | true =>
        rw [c2] at t2
        obtain ⟨z6, e1⟩ := arg_in hA hB (F := F) (k := k) (nv := nv) o (sgs k r.op) x6
        rw [Bool.true_and, Bool.true_and]
        cases c3 : (sgs k r.op).all (nxF A B k F r) with
        | false =>
          rw [c3] at e1
          exact ⟨some (rowL r), z6, ev_lrt rfl (ev_seq (ev_ifF t1 rfl) (ev_seq (ev_ifF t2 rfl) (ev_for (ev_anyL sg) hl e1)))⟩
        | true =>
          rw [c3] at e1
          obtain ⟨y5, y6, ih⟩ := arg_out hA hB (F := F) (nv := nv) R (some (rowL r)) z6 fun q hq => H q (List.mem_cons_of_mem _ hq)
          refine ⟨y5, y6, ?_⟩
          rw [Bool.true_and]
          exact ev_lcons rfl (ev_seq (ev_ifF t1 rfl) (ev_seq (ev_ifF t2 rfl) (ev_for (ev_anyL sg) hl e1))) ih
theorem ddp_allR (p : Row → Bool) (F : List Row) : (ddp [] F).all p = F.all p := ddp_all p F
theorem c_lrowsG (hA : A.length ≤ 12) (hB : B.length ≤ 12) {F : List Row} (hF : ∀ r ∈ F, okG A B r) (hl : F.length ≤ 40000) : cal m__law_are_rows [wL A, wL B, kL k, .vl (F.map rowL)] = some (.bl (lrB A B k F)) := by
  have hl2 := ddp_len F ([] : List Row)
  obtain ⟨y5, y6, eo⟩ := arg_out hA hB (F := F) (nv := .vl (F.map rowL)) (k := k) (ddp [] F) none none fun r hr => by
    rcases (ddp_mem F [] r).mp hr with z | z
    · cases z
    · exact hF r z
  rw [ddp_allR] at eo
  have kn : mCB fDictN (mCons (mLc (mAnyI (mVar 3)) (mName 5) mYes (mTup (mCons (mVar 5) (mCons (mC (.bl true)) mNil))) [5]) mNil) [some (wL A), some (wL B), some (kL k), some (.vl (F.map rowL)), none, none, none] [] = .ok (knV F) [] := by
    refine ev_cb (ev_cons (ev_lc (ev_anyL (xs := F.map rowL) rfl) (by rw [List.length_map]; omega) (lcL_mapA rowL (fun r => .tup [rowL r, .bl true]) F fun r _ => ⟨_, rfl, ev_tup (ev_cons rfl (ev_cons rfl rfl)) (by show 2 ≤ 60000; decide)⟩)) rfl) ?_
    have ef := foldL_rows keyR F []
    show (if (F.map fun r => LV.tup [rowL r, .bl true]).length ≤ 60000 then (match foldL [] [] (F.map fun r => LV.tup [rowL r, .bl true]) with | some (ks, ws) => R.ok (LV.vd ks ws) [] | none => .bad) else .bad) = _
    rw [List.length_map, if_pos (by omega)]
    rw [List.map_nil, List.length_nil, List.replicate_zero] at ef
    rw [ef]
  have ff := ev_b (ev_op (h1 := []) (h2 := []) (ρ := [some (wL A), some (wL B), some (kL k), some (.vl (F.map rowL)), some (knV F), none, none]) (ma := (mTup (mCons (mCall 1 m__law_first (mCons (mVar 0) mNil)) (mCons (mCall 1 m__law_first (mCons (mVar 1) mNil)) (mCons (mC (.bl false)) (mCons (mC (.str [])) (mCons (mC (.str [])) mNil))))))) (mb := mVar 4) (v := rowL (firstR A B)) (ev_tup (h1 := []) (ev_cons (h1 := []) (ev_call (h1 := []) (ev_cons rfl rfl) (c_lfirst A (by omega)) rfl (pures_cons (pure_wL A) rfl)) (ev_cons (h1 := []) (ev_call (h1 := []) (ev_cons rfl rfl) (c_lfirst B (by omega)) rfl (pures_cons (pure_wL B) rfl)) rfl)) (by show 5 ≤ 60000; decide)) rfl (not_inV keyR (K := ddp [] F) (vs := List.replicate (ddp [] F).length (.bl true)) (h := []) (firstR A B)))
  have ei : mAnyI (mVar 4) [some (wL A), some (wL B), some (kL k), some (.vl (F.map rowL)), some (knV F), none, none] [] = .ok (.vals ((ddp [] F).map rowL)) [] := rfl
  have hlen : ((ddp [] F).map rowL).length < 60000 := by
    rw [List.length_map]
    simp only [List.length_nil] at hl2
    omega
  have e1 : decide (firstR A B ∈ ddp [] F) = decide (firstR A B ∈ F) := by
    rw [decide_eq_decide, ddp_mem]
    simp
  rw [e1] at ff
  unfold lrB
  cases c : decide (firstR A B ∈ F) with
  | false =>
    rw [c] at ff
    exact cal_of (h1 := []) (v := .bl false) (fn_rt (ev_seq (ev_asg kn rfl) (ev_rt (ev_ifT ff (ev_ret rfl))))) rfl
  | true =>
    rw [c] at ff
    rw [Bool.true_and]
    cases c2 : F.all fun r => nodeR r && ((r.op || evenR A B r) && (sgs k r.op).all (nxF A B k F r)) with
    | false =>
      rw [c2] at eo
      exact cal_of (h1 := []) (v := .bl false) (fn_rt (ev_seq (ev_asg kn rfl) (ev_seq (ev_ifF ff rfl) (ev_rt (ev_for ei hlen eo))))) rfl
    | true =>
      rw [c2] at eo
      exact cal_of (h1 := []) (v := .bl true) (fn_rt (ev_seq (ev_asg kn rfl) (ev_seq (ev_ifF ff rfl) (ev_seq (ev_for ei hlen eo) (ev_ret rfl))))) rfl
/-! ### the law's walk: some rows -/
structure Wk (A B : List Cv) (K W : List Row) (p : Nat) : Prop where
  cnt : p + W.length = K.length
  few : K.length ≤ 210
  ne : 0 < K.length
  sub : ∀ r ∈ W, r ∈ K
  ok : ∀ r ∈ K, r.s1.length = A.length ∧ r.s2.length = B.length ∧ okS A r.s1 = true ∧ okS B r.s2 = true ∧ r.u.length ≤ 8 * K.length ∧ r.v.length ≤ 8 * K.length
theorem Wk.g {K W : List Row} {p : Nat} (w : Wk A B K W p) {r : Row} (h : r ∈ K) : okG A B r := by
  obtain ⟨a, b, c, d, e, f⟩ := w.ok r h
  have := w.few
  exact ⟨a, b, c, d, by omega, by omega⟩
theorem Wk.add {K W : List Row} {p : Nat} (hA : A.length ≤ 3) (hB : B.length ≤ 3) (w : Wk A B K W p) {r : Row} {g : Sg} (hr : r ∈ K) (hf : K.length < 210) : Wk A B (K ++ [nextR A B k r g]) (W ++ [nextR A B k r g]) p := by
  have h1 := stepW_len A r.s1 [g]
  have h2 := stepW_len B r.s2 [g]
  have p1 : 2 ^ A.length ≤ 8 := Nat.pow_le_pow_right (show 0 < 2 by decide) hA
  have p2 : 2 ^ B.length ≤ 8 := Nat.pow_le_pow_right (show 0 < 2 by decide) hB
  rw [List.length_singleton, Nat.mul_one] at h1 h2
  have l3 := lcp_len (r.u ++ (stepW A r.s1 [g]).2) (r.v ++ (stepW B r.s2 [g]).2)
  rw [List.length_append, List.length_append] at l3
  obtain ⟨a, b, c, d, e, f⟩ := w.ok r hr
  have hc := w.cnt
  refine ⟨by simp only [List.length_append, List.length_singleton]; omega, by rw [List.length_append]; simp only [List.length_singleton]; omega, by rw [List.length_append]; have := w.ne; omega, fun q hq => ?_, fun q hq => ?_⟩
  · rcases List.mem_append.mp hq with z | z
    · exact List.mem_append_left _ (w.sub q z)
    · exact List.mem_append_right _ z
  · rw [List.length_append, List.length_singleton]
    rcases List.mem_append.mp hq with z | z
    · obtain ⟨a, b, c, d, e, f⟩ := w.ok q z
      exact ⟨a, b, c, d, by omega, by omega⟩
    · rw [List.mem_singleton.mp z]
      refine ⟨(next_lens a b).1, (next_lens a b).2, okS_step A _ _ c, okS_step B _ _ d, ?_, ?_⟩
      · show (lcp _ _).1.length ≤ _
        omega
      · show (lcp _ _).2.length ≤ _
        omega
theorem wlkR2 : Wlk (fun _ h => .ok (rowL (firstR [] [])) h) (fun _ h => .ok (.bl true) h) (fun _ h => .ok (.tup []) h) (fun _ h => .ok (rowL (firstR [] [])) h) (.non) rowL (fun _ => True) (firstR [] []) (fun _ => []) (fun _ _ => firstR [] []) (fun _ => true) where
  f1 _ _ _ := rfl
  ff _ _ _ _ _ _ := rfl
  fs _ _ _ _ _ _ := rfl
  fb _ _ _ _ _ _ _ _ := rfl
  tup a := ⟨_, rfl⟩
  fit := fit_rowL
  inj := key_rowL
  pure := pure_rowL
abbrev hpW (K W : List Row) : List LO := [.dic (K.map rowL) (List.replicate K.length (.bl true)), .lst (W.map rowL)]
def wwI : MS := (mSeq (mAsg (mCall 5 m__law_behind (mCons (mVar 0) (mCons (mVar 1) (mCons (mVar 2) (mCons (mVar 6) (mCons (mVar 7) mNil)))))) (mName 8)) (mIfS (mAnd (mB (mOp (fIsN true) (mVar 8) (mC .non))) (mB (mOp (fInY true) (mVar 8) (mVar 4)))) (mSeq (mAsg (mC (.bl true)) (mGSub fSetX (mVar 4) (mVar 8))) (mDrop (mApp (mVar 5) (mVar 8)))) mNext))
theorem ww_in (hA : A.length ≤ 3) (hB : B.length ≤ 3) {r : Row} {st : Option LV} : ∀ (gs : List Sg) (K W : List Row) (p : Nat) (x7 x8 : Option LV), Wk A B K W p → r ∈ K → K.length + gs.length ≤ 210 → ∃ y7 y8 K' W', Wk A B K' W' p ∧ K'.length ≤ K.length + gs.length ∧
    runL (mName 7) wwI (gs.map gL) [some (wL A), some (wL B), some (kL k), st, some (.ref 0), some (.ref 1), some (rowL r), x7, x8] (hpW K W) = .ok (.nx, [some (wL A), some (wL B), some (kL k), st, some (.ref 0), some (.ref 1), some (rowL r), y7, y8]) (hpW K' W')
  | [], K, W, p, x7, x8, w, hr, hl => ⟨x7, x8, K, W, w, Nat.le_refl _, rfl⟩
  | g :: gs, K, W, p, x7, x8, w, hr, hl => by
    simp only [List.length_cons] at hl ⊢
    have o := w.g hr
    have eb : mAsg (mCall 5 m__law_behind (mCons (mVar 0) (mCons (mVar 1) (mCons (mVar 2) (mCons (mVar 6) (mCons (mVar 7) mNil)))))) (mName 8) [some (wL A), some (wL B), some (kL k), st, some (.ref 0), some (.ref 1), some (rowL r), some (gL g), x8] (hpW K W) = .ok (.nx, [some (wL A), some (wL B), some (kL k), st, some (.ref 0), some (.ref 1), some (rowL r), some (gL g), some (oR (nextO A B k r g))]) (hpW K W) :=
      ev_asg (ev_call (h1 := hpW K W) (ev_cons rfl (ev_cons rfl (ev_cons rfl (ev_cons rfl (ev_cons rfl rfl))))) (c_lbehind (k := k) (by omega) (by omega) r g o.l1 o.l2 o.u o.v) rfl (pures_cons (pure_wL A) (pures_cons (pure_wL B) (pures_cons rfl (pures_cons (pure_rowL r) rfl))))) rfl
    rw [List.map_cons]
    have skip : (∀ ρ : Rho, ρ[8]? = some (some (oR (nextO A B k r g))) → ρ[4]? = some (some (.ref 0)) → mAnd (mB (mOp (fIsN true) (mVar 8) (mC .non))) (mB (mOp (fInY true) (mVar 8) (mVar 4))) ρ (hpW K W) = .ok false (hpW K W)) → ∃ y7 y8 K' W', Wk A B K' W' p ∧ K'.length ≤ K.length + (gs.length + 1) ∧
        runL (mName 7) wwI (gL g :: gs.map gL) [some (wL A), some (wL B), some (kL k), st, some (.ref 0), some (.ref 1), some (rowL r), x7, x8] (hpW K W) = .ok (.nx, [some (wL A), some (wL B), some (kL k), st, some (.ref 0), some (.ref 1), some (rowL r), y7, y8]) (hpW K' W') := by
      intro t
      obtain ⟨y7, y8, K', W', w', l, ih⟩ := ww_in hA hB (st := st) gs K W p (some (gL g)) (some (oR (nextO A B k r g))) w hr (by omega)
      exact ⟨y7, y8, K', W', w', by omega, ev_lcons rfl (ev_seq eb (ev_ifF (t _ rfl rfl) rfl)) ih⟩
    cases q : nextO A B k r g with
    | none =>
      refine skip fun ρ e8 e4 => ?_
      rw [q] at e8
      exact ev_and (c := false) (d := false) (ev_b (ev_op (var_of e8) rfl rfl)) fun z => nomatch z
    | some r' =>
      have hr' : r' = nextR A B k r g := by
        unfold nextO at q
        split at q
        · injection q with q; exact q.symm
        · cases q
      by_cases c : r' ∈ K
      · refine skip fun ρ e8 e4 => ?_
        rw [q] at e8
        exact ev_and (c := true) (d := false) (ev_b (ev_op (var_of e8) rfl rfl)) fun _ => ev_b (ev_op (var_of e8) (var_of e4) (not_inT wlkR2 (F := K) rfl c))
      · rw [q] at eb
        have t : mAnd (mB (mOp (fIsN true) (mVar 8) (mC .non))) (mB (mOp (fInY true) (mVar 8) (mVar 4))) [some (wL A), some (wL B), some (kL k), st, some (.ref 0), some (.ref 1), some (rowL r), some (gL g), some (rowL r')] (hpW K W) = .ok true (hpW K W) :=
          ev_and (c := true) (d := true) (ev_b (ev_op rfl rfl rfl)) fun _ => ev_b (ev_op (v := rowL r') (w := .ref 0) rfl rfl (not_inF wlkR2 (F := K) rfl c))
        have eput : mAsg (mC (.bl true)) (mGSub fSetX (mVar 4) (mVar 8)) [some (wL A), some (wL B), some (kL k), st, some (.ref 0), some (.ref 1), some (rowL r), some (gL g), some (rowL r')] (hpW K W) = .ok (.nx, [some (wL A), some (wL B), some (kL k), st, some (.ref 0), some (.ref 1), some (rowL r), some (gL g), some (rowL r')]) (hpW (K ++ [r']) W) := by
          refine ev_asg (v := .bl true) (h1 := hpW K W) rfl ?_
          show (fSetX (.ref 0) (rowL r') (.bl true) (hpW K W)).bind _ = _
          rw [put_in wlkR2 (F := K) rfl c (by have := w.few; omega)]
          rfl
        have w2 := w.add (k := k) hA hB hr (g := g) (by omega)
        rw [← hr'] at w2
        obtain ⟨y7, y8, K', W', w', l, ih⟩ := ww_in hA hB (st := st) gs (K ++ [r']) (W ++ [r']) p (some (gL g)) (some (rowL r')) w2 (List.mem_append_left _ hr) (by rw [List.length_append, List.length_singleton]; omega)
        refine ⟨y7, y8, K', W', w', by rw [List.length_append, List.length_singleton] at l; omega, ?_⟩
        have eapp : mDrop (mApp (mVar 5) (mVar 8)) [some (wL A), some (wL B), some (kL k), st, some (.ref 0), some (.ref 1), some (rowL r), some (gL g), some (rowL r')] (hpW (K ++ [r']) W) = .ok (.nx, [some (wL A), some (wL B), some (kL k), st, some (.ref 0), some (.ref 1), some (rowL r), some (gL g), some (rowL r')]) (hpW (K ++ [r']) (W ++ [r'])) := by
          have e := ev_drop (ev_app (n := 1) (xs := W.map rowL) (ys := W.map rowL) (ρ := [some (wL A), some (wL B), some (kL k), st, some (.ref 0), some (.ref 1), some (rowL r), some (gL g), some (rowL r')]) (h := hpW (K ++ [r']) W) (h1 := hpW (K ++ [r']) W) (h2 := hpW (K ++ [r']) W) (ma := mVar 5) (mb := mVar 8) (w := rowL r') rfl rfl rfl rfl (by rw [List.length_map]; have := w.cnt; have := w.few; omega))
          rw [e]
          have : hpW (K ++ [r']) (W ++ [r']) = (hpW (K ++ [r']) W).set 1 (.lst (W.map rowL ++ [rowL r'])) := by
            have e2 : (W ++ [r']).map rowL = W.map rowL ++ [rowL r'] := by rw [List.map_append]; rfl
            show [_, LO.lst ((W ++ [r']).map rowL)] = _
            rw [e2]
            rfl
          rw [this]
        exact ev_lcons rfl (ev_seq eb (ev_ifT t (ev_seq eput eapp))) ih
theorem ne_rowsL {n : Nat} {W : List Row} {h : List LO} (q : h[n]? = some (.lst (W.map rowL))) (hW : ∀ r ∈ W, r.s1.length ≤ 12 ∧ r.s2.length ≤ 12) (hl : W.length ≤ 19000) : fEq true (.ref n) (.vl []) h = .ok (.bl (!W.isEmpty)) h := by
  have ds : ∀ (xs : List Row) (n : Nat), (∀ r ∈ xs, r.s1.length ≤ 12 ∧ r.s2.length ≤ 12) → xs.length + 51 ≤ n → LV.dats h n (xs.map rowL) = some (xs.map dRow) := by
    intro xs
    induction xs with
    | nil => intro n _ hn; obtain ⟨n, rfl⟩ : ∃ k, n = k + 1 := ⟨n - 1, by omega⟩; rfl
    | cons p xs ih =>
      intro n H hn
      obtain ⟨n, rfl⟩ : ∃ k, n = k + 1 := ⟨n - 1, by omega⟩
      simp only [List.length_cons] at hn
      rw [List.map_cons, List.map_cons]
      simp only [LV.dats]
      rw [dat_row p h n (H p List.mem_cons_self).1 (H p List.mem_cons_self).2 (by omega), ih n (fun x hx => H x (List.mem_cons_of_mem _ hx)) (by omega)]
  have l := lay_all (d := dRow) (c := 2) lay_row W
  have e : LV.dat h 20000 (.ref n) = some (.list (W.map dRow)) := by
    show (match h[n]? with | some (.lst xs) => (LV.dats h 19999 xs).map PyData.list | _ => none) = _
    rw [q]
    show (LV.dats h 19999 _).map PyData.list = _
    rw [ds W 19999 hW (by omega)]
    rfl
  have := ne_nilL (n := 0) e l.1 (by omega) rfl
  rw [this]
  cases W <;> rfl
def wwC : MT := (mAnd (mB (mOp (fEq true) (mVar 5) (mLst mNil))) (mB (mOp (fCmp fun i j => decide (i < j)) (mCB fLenD (mCons (mVar 4) mNil)) (mC (.int 200)))))
def wwB : MS := (mSeq (mAsg (mPop0 (mVar 5) (mC (.int 0))) (mName 6)) (mFor (mAnyI (mLc (mAnyI (mTup (mCons (mC (.str [97])) (mCons (mC (.str [110])) (mCons (mC (.str [114])) mNil))))) (mName 7) (mTru (mCall 3 m__law_can (mCons (mVar 2) (mCons (mOp fIxX (mVar 6) (mC (.int 2))) (mCons (mVar 7) mNil))))) (mVar 7) [7])) (mName 7) wwI))
theorem ww_wh (hA : A.length ≤ 3) (hB : B.length ≤ 3) {st : Option LV} : ∀ (fuel p : Nat) (K W : List Row) (x6 x7 x8 : Option LV), Wk A B K W p → 300 < fuel + p → ∃ K' W' p' ρ', Wk A B K' W' p' ∧ ρ'[4]? = some (some (.ref 0)) ∧
    whileM wwC wwB fuel [some (wL A), some (wL B), some (kL k), st, some (.ref 0), some (.ref 1), x6, x7, x8] (hpW K W) = .ok (.nx, ρ') (hpW K' W')
  | 0, p, K, W, x6, x7, x8, w, hf => by
    have := w.cnt
    have := w.few
    omega
  | fuel + 1, p, K, W, x6, x7, x8, w, hf => by
    have c1 : mB (mOp (fEq true) (mVar 5) (mLst mNil)) [some (wL A), some (wL B), some (kL k), st, some (.ref 0), some (.ref 1), x6, x7, x8] (hpW K W) = .ok (!W.isEmpty) (hpW K W) := by
      refine ev_b (ev_op (v := .ref 1) (w := .vl []) rfl rfl (ne_rowsL (n := 1) rfl (fun r hr => ?_) (by have := w.cnt; have := w.few; omega)))
      have o := w.ok r (w.sub r hr)
      omega
    have c2 : mB (mOp (fCmp fun i j => decide (i < j)) (mCB fLenD (mCons (mVar 4) mNil)) (mC (.int 200))) [some (wL A), some (wL B), some (kL k), st, some (.ref 0), some (.ref 1), x6, x7, x8] (hpW K W) = .ok (decide (K.length < 200)) (hpW K W) := by
      refine ev_b (ev_op (v := .int K.length) (w := .int 200) (h1 := hpW K W) (h2 := hpW K W) (ev_cb (ev_cons rfl rfl) ?_) rfl ?_)
      · show (if (K.map rowL).length ≤ 60000 then R.ok (LV.int (K.map rowL).length) (hpW K W) else .bad) = _
        rw [List.length_map, if_pos (by have := w.few; omega)]
      · show R.ok (LV.bl (decide ((K.length : Int) < (200 : Int)))) (hpW K W) = _
        rw [decide_eq_decide.mpr (show (K.length : Int) < (200 : Int) ↔ K.length < 200 by omega)]
    have cc : wwC [some (wL A), some (wL B), some (kL k), st, some (.ref 0), some (.ref 1), x6, x7, x8] (hpW K W) = .ok (!W.isEmpty && decide (K.length < 200)) (hpW K W) := ev_and c1 fun _ => c2
    cases q : !W.isEmpty && decide (K.length < 200) with
    | false =>
      refine ⟨K, W, p, _, w, ?_, by simp only [whileM, cc, q]; rfl⟩
      rfl
    | true =>
      rw [Bool.and_eq_true, decide_eq_true_eq] at q
      cases W with
      | nil => cases q.1
      | cons r W =>
        have hr := w.sub r List.mem_cons_self
        have w1 : Wk A B K W (p + 1) := ⟨by have := w.cnt; simp only [List.length_cons] at this; omega, w.few, w.ne, fun s hs => w.sub s (List.mem_cons_of_mem _ hs), w.ok⟩
        have h3 : (sgs k r.op).length ≤ 3 := List.length_filter_le _ _
        obtain ⟨y7, y8, K', W', w', l, e⟩ := ww_in (k := k) hA hB (st := st) (sgs k r.op) K W (p + 1) x7 x8 w1 hr (by omega)
        have sg := sg_lc (k := k) (b := r.op) (s := 7) (eo := mOp fIxX (mVar 6) (mC (.int 2))) (ρ := [some (wL A), some (wL B), some (kL k), st, some (.ref 0), some (.ref 1), some (rowL r), x7, x8]) (h := hpW K W) fun g => ⟨[some (wL A), some (wL B), some (kL k), st, some (.ref 0), some (.ref 1), some (rowL r), some (gL g), x8], rfl, rfl, rfl, rfl⟩
        have eb : wwB [some (wL A), some (wL B), some (kL k), st, some (.ref 0), some (.ref 1), x6, x7, x8] (hpW K (r :: W)) = .ok (.nx, [some (wL A), some (wL B), some (kL k), st, some (.ref 0), some (.ref 1), some (rowL r), y7, y8]) (hpW K' W') := by
          refine ev_seq (h1 := hpW K W) (ρ1 := [some (wL A), some (wL B), some (kL k), st, some (.ref 0), some (.ref 1), some (rowL r), x7, x8]) rfl (ev_for (ev_anyL sg) (by rw [List.length_map]; omega) e)
        obtain ⟨K'', W'', p'', ρ'', w'', e4, ih⟩ := ww_wh hA hB (st := st) fuel (p + 1) K' W' (some (rowL r)) y7 y8 w' (by omega)
        refine ⟨K'', W'', p'', ρ'', w'', e4, ?_⟩
        rw [decide_eq_true q.2, Bool.and_true] at cc
        simp only [whileM, cc, List.isEmpty_cons, Bool.not_false, R.bind, if_true, eb]
        exact ih
theorem c_lwalk (hA : A.length ≤ 3) (hB : B.length ≤ 3) : ∃ K : List Row, cal m__law_walk [wL A, wL B, kL k] = some (.vl (K.map rowL)) ∧ 0 < K.length ∧ K.length ≤ 210 ∧ ∀ r ∈ K, okG A B r ∧ r.u.length ≤ 2000 ∧ r.v.length ≤ 2000 := by
  have w0 : Wk A B [firstR A B] [firstR A B] 0 := ⟨rfl, by show 1 ≤ 210; decide, by show 0 < 1; decide, fun r h => h, fun r h => by
    rw [List.mem_singleton.mp h]
    exact ⟨List.length_replicate, List.length_replicate, okS_first A, okS_first B, Nat.zero_le _, Nat.zero_le _⟩⟩
  have ef : mTup (mCons (mCall 1 m__law_first (mCons (mVar 0) mNil)) (mCons (mCall 1 m__law_first (mCons (mVar 1) mNil)) (mCons (mC (.bl false)) (mCons (mC (.str [])) (mCons (mC (.str [])) mNil))))) [some (wL A), some (wL B), some (kL k), none, none, none, none, none, none] [] = .ok (rowL (firstR A B)) [] :=
    ev_tup (h1 := []) (ev_cons (h1 := []) (ev_call (h1 := []) (ev_cons rfl rfl) (c_lfirst A (by omega)) rfl (pures_cons (pure_wL A) rfl)) (ev_cons (h1 := []) (ev_call (h1 := []) (ev_cons rfl rfl) (c_lfirst B (by omega)) rfl (pures_cons (pure_wL B) rfl)) rfl)) (by show 5 ≤ 60000; decide)
  obtain ⟨K, W, p, ρ', w, e4, e⟩ := ww_wh (A := A) (B := B) (k := k) hA hB (st := some (rowL (firstR A B))) 50000 0 [firstR A B] [firstR A B] none none none w0 (by omega)
  have s2 : mPar 4 5 (mCons (mCB fDictM (mCons (mLst (mCons (mTup (mCons (mVar 3) (mCons (mC (.bl true)) mNil))) mNil)) mNil)) (mCons (mLstM (mCons (mVar 3) mNil)) mNil)) [some (wL A), some (wL B), some (kL k), some (rowL (firstR A B)), none, none, none, none, none] [] = .ok (.nx, [some (wL A), some (wL B), some (kL k), some (rowL (firstR A B)), some (.ref 0), some (.ref 1), none, none, none]) (hpW [firstR A B] [firstR A B]) := by
    refine ev_par (v := .ref 0) (w := .ref 1) (ev_cons (h1 := [.dic [rowL (firstR A B)] [.bl true]]) (ev_cb (vs := [.vl [.tup [rowL (firstR A B), .bl true]]]) (h1 := []) (ev_cons (ev_lst (ev_cons (ev_tup (ev_cons rfl (ev_cons rfl rfl)) (by show 2 ≤ 60000; decide)) rfl) (by show 1 ≤ 60000; decide)) rfl) ?_) (ev_cons rfl rfl))
    have ef := foldL_rows keyR [firstR A B] []
    show (if 1 ≤ 60000 then (match foldL [] [] [LV.tup [rowL (firstR A B), .bl true]] with | some (ks, ws) => R.ok (LV.ref 0) ([] ++ [LO.dic ks ws]) | none => .bad) else .bad) = _
    rw [if_pos (by decide)]
    rw [List.map_nil, List.length_nil, List.replicate_zero] at ef
    rw [show [LV.tup [rowL (firstR A B), .bl true]] = [firstR A B].map fun a => LV.tup [rowL a, .bl true] from rfl, ef]
    rfl
  refine ⟨K, ?_, w.ne, w.few, fun r hr => ⟨w.g hr, ?_⟩⟩
  · refine cal_of (h1 := hpW K W) (v := .vl (K.map rowL)) (fn_rt (ev_seq (ev_asg ef rfl) (ev_seq s2 (ev_seq e (ev_ret (ev_cb (vs := [.ref 0]) (h1 := hpW K W) (ev_cons (var_of e4) rfl) ?_)))))) (outV_pure (pures_map pure_rowL K))
    rfl
  · have := w.ok r hr
    have := w.few
    omega
end
end Sx
set_option maxHeartbeats 1000000
namespace Sx
open PySem PySem.Spec Rm K04
/-! ### lists of rows -/
abbrev lV (F : List Row) : LV := .vl (F.map rowL)
theorem add_lV {X Y : List Row} (h : List LO) (hl : X.length + Y.length ≤ 60000) : fAdd (lV X) (lV Y) h = .ok (lV (X ++ Y)) h := by
  show (if (X.map rowL).length + (Y.map rowL).length ≤ 60000 then R.ok (LV.vl (X.map rowL ++ Y.map rowL)) h else R.bad) = _
  rw [List.length_map, List.length_map, if_pos hl, ← List.map_append]
theorem to_lV (X : List Row) (n : Nat) (h : List LO) : fSl (lV X) none (some (n : Int)) h = .ok (lV (X.take n)) h := by
  show R.ok (LV.vl (cutL (X.map rowL) none (some (n : Int)))) h = _
  rw [cut_to, ← List.map_take]
theorem from_lV (X : List Row) (n : Nat) (h : List LO) : fSl (lV X) (some (n : Int)) none h = .ok (lV (X.drop n)) h := by
  show R.ok (LV.vl (cutL (X.map rowL) (some (n : Int)) none)) h = _
  rw [cut_from, ← List.map_drop]
section
variable {A B : List Cv} {k : Kd}
def lsB : MS := (mIfS (mB (mOp (fEq true) (mMeth 1 4 m_Alike_shows (mMake 1 1 2 m_Alike_init (mCons (mVar 11) mNil)) (mCons (mVar 1) (mCons (mVar 2) (mCons (mVar 3) mNil)))) (mCall 4 m__law_are_rows (mCons (mVar 1) (mCons (mVar 2) (mCons (mVar 3) (mCons (mVar 11) mNil))))))) (mRet (mC (.bl false))) mNext)
theorem ls_loop (hA : A.length ≤ 3) (hB : B.length ≤ 3) {x0 x4 x5 x6 x7 x8 x9 x10 : Option LV} {h : List LO} : ∀ (Cs : List (List Row)) (x11 : Option LV), (∀ F ∈ Cs, F.length ≤ 1000 ∧ ∀ r ∈ F, okG A B r) → ∃ y11,
    runL (mName 11) lsB (Cs.map lV) [x0, some (wL A), some (wL B), some (kL k), x4, x5, x6, x7, x8, x9, x10, x11] h = .ok (.nx, [x0, some (wL A), some (wL B), some (kL k), x4, x5, x6, x7, x8, x9, x10, y11]) h
  | [], x11, _ => ⟨x11, rfl⟩
  | F :: Cs, x11, H => by
    obtain ⟨hl, hF⟩ := H F List.mem_cons_self
    obtain ⟨y11, ih⟩ := ls_loop hA hB (x0 := x0) (x4 := x4) (x5 := x5) (x6 := x6) (x7 := x7) (x8 := x8) (x9 := x9) (x10 := x10) (h := h) Cs (some (lV F)) fun G hG => H G (List.mem_cons_of_mem _ hG)
    refine ⟨y11, ?_⟩
    have pp := pures_map pure_rowL F
    have dw := wds_le (c := 60) (F.map rowL) fun x hx => by
      obtain ⟨r, hr, rfl⟩ := List.mem_map.mp hx
      have := (hF r hr).l1
      have := (hF r hr).l2
      have := wd_rowL r
      omega
    rw [List.length_map] at dw
    have sh := c_ashows (A := A) (B := B) (k := k) (by omega) (by omega) (F := F) hF (by omega)
    have lr := c_lrowsG (A := A) (B := B) (k := k) (by omega) (by omega) (F := F) hF (by omega)
    rw [lr_closed] at lr
    have pw := pures_cons (pure_wL A) (pures_cons (pure_wL B) (show LV.pures [kL k] = true from rfl))
    rw [List.map_cons]
    refine ev_lcons (h1 := h) (h2 := h) rfl (ev_ifF (h1 := h) (ev_b (ev_op (h1 := h) (h2 := h) (ev_meth (h1 := h) (fs := [lV F]) (ev_make (C := 1) (k := 1) (xs := [lV F]) (h1 := h) (ev_cons rfl rfl) rfl rfl (pures_cons pp rfl) rfl (pures_cons pp rfl) (by simp only [wds, wd]; omega)) (ev_cons rfl (ev_cons rfl (ev_cons rfl rfl))) sh rfl (pures_cons (pures_cons pp rfl) pw)) (ev_call (h1 := h) (ev_cons rfl (ev_cons rfl (ev_cons rfl (ev_cons rfl rfl)))) lr rfl (pures_cons (pure_wL A) (pures_cons (pure_wL B) (pures_cons rfl (pures_cons pp rfl))))) ?_)) rfl) ih
    rw [ne_bl, decide_eq_true rfl]
    rfl
theorem d_lists (hA : A.length ≤ 3) (hB : B.length ≤ 3) (ns : List Int) (hn : ns.length ≤ 63) (i : Nat) : ∃ i', m__law_lists_right [.ref 0, wL A, wL B, kL k] (Dr ns i) = .ok (.bl true) (Dr ns i') := by
  obtain ⟨K, eK, k0, k1, kG⟩ := c_lwalk (A := A) (B := B) (k := k) hA hB
  obtain ⟨at', hat, ea⟩ := d_take ns i K.length hn k0
  obtain ⟨r, hr⟩ : ∃ r, r = K[at'] := ⟨_, rfl⟩
  have mr : r ∈ K := by rw [hr]; exact List.getElem_mem hat
  obtain ⟨g, gu, gv⟩ := kG r mr
  obtain ⟨Cs, hCs⟩ : ∃ Cs : List (List Row), Cs = [K, K.reverse ++ K.take 2, K.take at' ++ K.drop (at' + 1), [], K.take 1, K ++ [⟨r.s1, r.s2, !r.op, r.u, r.v⟩], K ++ [⟨r.s1, r.s2, r.op, r.u ++ [.a], r.v⟩], K ++ [⟨r.s1, r.s2, r.op, [.a], [.n]⟩]] := ⟨_, rfl⟩
  have kG1 : ∀ q ∈ K, okG A B q := fun q hq => (kG q hq).1
  have cG : ∀ F ∈ Cs, F.length ≤ 1000 ∧ ∀ r ∈ F, okG A B r := by
    intro F hF
    rw [hCs] at hF
    simp only [List.mem_cons, List.not_mem_nil, or_false] at hF
    have t2 : ∀ (n : Nat) (q : Row), q ∈ K.take n → q ∈ K := fun n q hq => List.mem_of_mem_take hq
    have d2 : ∀ (n : Nat) (q : Row), q ∈ K.drop n → q ∈ K := fun n q hq => List.mem_of_mem_drop hq
    rcases hF with e | e | e | e | e | e | e | e <;> subst e
    · exact ⟨by omega, kG1⟩
    · refine ⟨by rw [List.length_append, List.length_reverse, List.length_take]; omega, fun q hq => ?_⟩
      rcases List.mem_append.mp hq with z | z
      · exact kG1 q (List.mem_reverse.mp z)
      · exact kG1 q (t2 _ q z)
    · refine ⟨by rw [List.length_append, List.length_take, List.length_drop]; omega, fun q hq => ?_⟩
      rcases List.mem_append.mp hq with z | z
      · exact kG1 q (t2 _ q z)
      · exact kG1 q (d2 _ q z)
    · exact ⟨Nat.zero_le _, fun q hq => nomatch hq⟩
    · exact ⟨by rw [List.length_take]; omega, fun q hq => kG1 q (t2 _ q hq)⟩
    · refine ⟨by rw [List.length_append, List.length_singleton]; omega, fun q hq => ?_⟩
      rcases List.mem_append.mp hq with z | z
      · exact kG1 q z
      · rw [List.mem_singleton.mp z]; exact ⟨g.l1, g.l2, g.k1, g.k2, g.u, g.v⟩
    · refine ⟨by rw [List.length_append, List.length_singleton]; omega, fun q hq => ?_⟩
      rcases List.mem_append.mp hq with z | z
      · exact kG1 q z
      · rw [List.mem_singleton.mp z]
        refine ⟨g.l1, g.l2, g.k1, g.k2, ?_, g.v⟩
        show (r.u ++ [Sg.a]).length ≤ _
        rw [List.length_append, List.length_singleton]
        omega
    · refine ⟨by rw [List.length_append, List.length_singleton]; omega, fun q hq => ?_⟩
      rcases List.mem_append.mp hq with z | z
      · exact kG1 q z
      · rw [List.mem_singleton.mp z]; exact ⟨g.l1, g.l2, g.k1, g.k2, by show 1 ≤ 20000; decide, by show 1 ≤ 20000; decide⟩
  obtain ⟨H, hH⟩ : ∃ H, H = Dr ns (i + 1) := ⟨_, rfl⟩
  have pw := pures_cons (pure_wL A) (pures_cons (pure_wL B) (show LV.pures [kL k] = true from rfl))
  obtain ⟨y11, el⟩ := ls_loop (k := k) hA hB (x0 := some (.ref 0)) (x4 := some (lV K)) (x5 := some (.int at')) (x6 := some (rowL r)) (x7 := some (rowL ⟨r.s1, r.s2, !r.op, r.u, r.v⟩)) (x8 := some (rowL ⟨r.s1, r.s2, r.op, r.u ++ [.a], r.v⟩)) (x9 := some (rowL ⟨r.s1, r.s2, r.op, [.a], [.n]⟩)) (x10 := some (.vl (Cs.map lV))) (h := H) Cs none cG
  have s1 : mAsg (mCall 3 m__law_walk (mCons (mVar 1) (mCons (mVar 2) (mCons (mVar 3) mNil)))) (mName 4) [some (.ref 0), some (wL A), some (wL B), some (kL k), none, none, none, none, none, none, none, none] (Dr ns i) = .ok (.nx, [some (.ref 0), some (wL A), some (wL B), some (kL k), some (lV K), none, none, none, none, none, none, none]) (Dr ns i) :=
    ev_asg (ev_call (h1 := Dr ns i) (ev_cons rfl (ev_cons rfl (ev_cons rfl rfl))) eK rfl pw) rfl
  have s2 : mAsg (mCallS 2 m__law_take (mCons (mVar 0) (mCons (mCB fLen (mCons (mVar 4) mNil)) mNil))) (mName 5) [some (.ref 0), some (wL A), some (wL B), some (kL k), some (lV K), none, none, none, none, none, none, none] (Dr ns i) = .ok (.nx, [some (.ref 0), some (wL A), some (wL B), some (kL k), some (lV K), some (.int at'), none, none, none, none, none, none]) H := by
    rw [hH]
    refine ev_asg (v := .int at') (h1 := Dr ns (i + 1)) (ev_callS (vs := [.ref 0, .int (K.length : Int)]) (h1 := Dr ns i) (ev_cons rfl (ev_cons (ev_cb (ev_cons rfl rfl) ?_) rfl)) ea rfl) rfl
    show R.ok (LV.int (K.map rowL).length) (Dr ns i) = _
    rw [List.length_map]
  have s3 : mAsg (mOp fIxX (mVar 4) (mVar 5)) (mName 6) [some (.ref 0), some (wL A), some (wL B), some (kL k), some (lV K), some (.int at'), none, none, none, none, none, none] H = .ok (.nx, [some (.ref 0), some (wL A), some (wL B), some (kL k), some (lV K), some (.int at'), some (rowL r), none, none, none, none, none]) H := by
    refine ev_asg (v := rowL r) (h1 := H) (ev_op (v := lV K) (w := .int at') (h1 := H) (h2 := H) rfl rfl ?_) rfl
    have : L2.atI (K.map rowL) (at' : Int) = some (rowL r) := by
      unfold L2.atI L2.ixN
      rw [List.length_map, if_pos (by omega), if_pos (by omega)]
      show (K.map rowL)[((at' : Int)).toNat]? = _
      rw [Int.toNat_natCast, List.getElem?_map, List.getElem?_eq_getElem hat, hr]
      rfl
    show (match L2.atI (K.map rowL) (at' : Int) with | some y => R.ok y H | none => R.bad) = _
    rw [this]
  have s4 : mAsg (mOp fAdd (mOp fAdd (mSl (mVar 6) mNoP (mPart (mC (.int 2)))) (mTup (mCons (mNotV (mOp fIxX (mVar 6) (mC (.int 2)))) mNil))) (mSl (mVar 6) (mPart (mC (.int 3))) mNoP)) (mName 7) [some (.ref 0), some (wL A), some (wL B), some (kL k), some (lV K), some (.int at'), some (rowL r), none, none, none, none, none] H = .ok (.nx, [some (.ref 0), some (wL A), some (wL B), some (kL k), some (lV K), some (.int at'), some (rowL r), some (rowL ⟨r.s1, r.s2, !r.op, r.u, r.v⟩), none, none, none, none]) H := rfl
  have s5 : mAsg (mOp fAdd (mSl (mVar 6) mNoP (mPart (mC (.int 3)))) (mTup (mCons (mOp fAdd (mOp fIxX (mVar 6) (mC (.int 3))) (mC (.str [97]))) (mCons (mOp fIxX (mVar 6) (mC (.int 4))) mNil)))) (mName 8) [some (.ref 0), some (wL A), some (wL B), some (kL k), some (lV K), some (.int at'), some (rowL r), some (rowL ⟨r.s1, r.s2, !r.op, r.u, r.v⟩), none, none, none, none] H = .ok (.nx, [some (.ref 0), some (wL A), some (wL B), some (kL k), some (lV K), some (.int at'), some (rowL r), some (rowL ⟨r.s1, r.s2, !r.op, r.u, r.v⟩), some (rowL ⟨r.s1, r.s2, r.op, r.u ++ [.a], r.v⟩), none, none, none]) H := by
    refine ev_asg (v := rowL ⟨r.s1, r.s2, r.op, r.u ++ [.a], r.v⟩) (h1 := H) (ev_op (v := .tup [bL r.s1, bL r.s2, .bl r.op]) (w := .tup [sL (r.u ++ [.a]), sL r.v]) (h1 := H) (h2 := H) rfl (ev_tup (ev_cons (ev_op (v := sL r.u) (w := sL [.a]) (h1 := H) (h2 := H) rfl rfl (add_sL _ (by simp only [List.length_singleton]; omega))) (ev_cons rfl rfl)) (by show 2 ≤ 60000; decide)) rfl) rfl
  have s6 : mAsg (mOp fAdd (mSl (mVar 6) mNoP (mPart (mC (.int 3)))) (mTup (mCons (mC (.str [97])) (mCons (mC (.str [110])) mNil)))) (mName 9) [some (.ref 0), some (wL A), some (wL B), some (kL k), some (lV K), some (.int at'), some (rowL r), some (rowL ⟨r.s1, r.s2, !r.op, r.u, r.v⟩), some (rowL ⟨r.s1, r.s2, r.op, r.u ++ [.a], r.v⟩), none, none, none] H = .ok (.nx, [some (.ref 0), some (wL A), some (wL B), some (kL k), some (lV K), some (.int at'), some (rowL r), some (rowL ⟨r.s1, r.s2, !r.op, r.u, r.v⟩), some (rowL ⟨r.s1, r.s2, r.op, r.u ++ [.a], r.v⟩), some (rowL ⟨r.s1, r.s2, r.op, [.a], [.n]⟩), none, none]) H := rfl
  have s7 : mAsg (mLst (mCons (mVar 4) (mCons (mOp fAdd (mRev (mVar 4)) (mSl (mVar 4) mNoP (mPart (mC (.int 2))))) (mCons (mOp fAdd (mSl (mVar 4) mNoP (mPart (mVar 5))) (mSl (mVar 4) (mPart (mOp fAdd (mVar 5) (mC (.int 1)))) mNoP)) (mCons (mLst mNil) (mCons (mSl (mVar 4) mNoP (mPart (mC (.int 1)))) (mCons (mOp fAdd (mVar 4) (mLst (mCons (mVar 7) mNil))) (mCons (mOp fAdd (mVar 4) (mLst (mCons (mVar 8) mNil))) (mCons (mOp fAdd (mVar 4) (mLst (mCons (mVar 9) mNil))) mNil))))))))) (mName 10) [some (.ref 0), some (wL A), some (wL B), some (kL k), some (lV K), some (.int at'), some (rowL r), some (rowL ⟨r.s1, r.s2, !r.op, r.u, r.v⟩), some (rowL ⟨r.s1, r.s2, r.op, r.u ++ [.a], r.v⟩), some (rowL ⟨r.s1, r.s2, r.op, [.a], [.n]⟩), none, none] H = .ok (.nx, [some (.ref 0), some (wL A), some (wL B), some (kL k), some (lV K), some (.int at'), some (rowL r), some (rowL ⟨r.s1, r.s2, !r.op, r.u, r.v⟩), some (rowL ⟨r.s1, r.s2, r.op, r.u ++ [.a], r.v⟩), some (rowL ⟨r.s1, r.s2, r.op, [.a], [.n]⟩), some (.vl (Cs.map lV)), none]) H := by
    have one : ∀ (q : Row) (j : Nat) (ρ : Rho), ρ[4]? = some (some (lV K)) → ρ[j]? = some (some (rowL q)) → mOp fAdd (mVar 4) (mLst (mCons (mVar j) mNil)) ρ H = .ok (lV (K ++ [q])) H := fun q j ρ e4 ej =>
      ev_op (v := lV K) (w := lV [q]) (h1 := H) (h2 := H) (var_of e4) (ev_lst (h1 := H) (vs := [rowL q]) (ev_cons (var_of ej) rfl) (by show 1 ≤ 60000; decide)) (add_lV _ (by simp only [List.length_singleton]; omega))
    have rv : ∀ ρ : Rho, ρ[4]? = some (some (lV K)) → mRev (mVar 4) ρ H = .ok (lV K.reverse) H := fun ρ e4 => by
      unfold mRev
      rw [var_of e4]
      show R.ok (LV.vl (K.map rowL).reverse) H = R.ok (LV.vl (K.reverse.map rowL)) H
      rw [List.map_reverse]
    have tk : ∀ (n : Nat) (me : MO) (ρ : Rho), ρ[4]? = some (some (lV K)) → me ρ H = .ok (some (n : Int)) H → mSl (mVar 4) mNoP me ρ H = .ok (lV (K.take n)) H := fun n me ρ e4 em =>
      ev_sl (h1 := H) (h2 := H) (h3 := H) (v := lV K) (lo := none) (hi := some (n : Int)) (var_of e4) rfl em (to_lV K n H)
    have dp : ∀ (n : Nat) (me : MO) (ρ : Rho), ρ[4]? = some (some (lV K)) → me ρ H = .ok (some (n : Int)) H → mSl (mVar 4) me mNoP ρ H = .ok (lV (K.drop n)) H := fun n me ρ e4 em =>
      ev_sl (h1 := H) (h2 := H) (h3 := H) (v := lV K) (lo := some (n : Int)) (hi := none) (var_of e4) em rfl (from_lV K n H)
    refine ev_asg (v := .vl (Cs.map lV)) (h1 := H) (ev_lst (h1 := H) (vs := Cs.map lV) ?_ (by rw [hCs]; show 8 ≤ 60000; decide)) rfl
    rw [hCs]
    refine ev_cons (h1 := H) rfl (ev_cons (h1 := H) (ev_op (h1 := H) (h2 := H) (rv _ rfl) (tk 2 _ _ rfl rfl) (add_lV _ (by rw [List.length_reverse, List.length_take]; omega))) (ev_cons (h1 := H) (ev_op (h1 := H) (h2 := H) (tk at' _ _ rfl rfl) (dp (at' + 1) _ _ rfl rfl) (add_lV _ (by rw [List.length_take, List.length_drop]; omega))) (ev_cons (h1 := H) rfl (ev_cons (h1 := H) (tk 1 _ _ rfl rfl) (ev_cons (h1 := H) (one _ 7 _ rfl rfl) (ev_cons (h1 := H) (one _ 8 _ rfl rfl) (ev_cons (h1 := H) (one _ 9 _ rfl rfl) rfl)))))))
  have lc : (Cs.map lV).length < 60000 := by rw [hCs]; show 8 < 60000; decide
  refine ⟨i + 1, ?_⟩
  rw [← hH]
  exact fn_rt (ev_seq s1 (ev_seq s2 (ev_seq s3 (ev_seq s4 (ev_seq s5 (ev_seq s6 (ev_seq s7 (ev_seq (ev_for (h1 := H) (xs := Cs.map lV) (ev_anyL (h1 := H) rfl) lc el) (ev_ret rfl)))))))))
end
end Sx
set_option maxHeartbeats 1000000
namespace Sx
open PySem PySem.Spec Rm K04
theorem lc_drw {α : Type} {P : α → Prop} (enc : α → LV) {g : MG} {me : ME} {ρ : Rho} {ns : List Int} {n : Nat} (st : ∀ (j i : Nat), ∃ ρ1, g (.int ((0 : Int) + (j : Int))) ρ (Dr ns i) = .ok ρ1 (Dr ns i) ∧ ∃ (x : α) (i' : Nat), P x ∧ me ρ1 (Dr ns i) = .ok (enc x) (Dr ns i')) :
    ∀ (m j fuel i : Nat) (acc : List LV), j + m = n → m < fuel → ∃ (xs : List α) (i' : Nat), xs.length = m ∧ (∀ x ∈ xs, P x) ∧ lcM (.rng 0 n) g mYes me ρ fuel j (Dr ns i) acc = .ok (.vl (acc.reverse ++ xs.map enc)) (Dr ns i')
  | 0, j, fuel, i, acc, hj, hf => by
    obtain ⟨fuel, rfl⟩ : ∃ f, fuel = f + 1 := ⟨fuel - 1, by omega⟩
    refine ⟨[], i, rfl, (fun _ m => nomatch m), ?_⟩
    have e : Itr.at (.rng 0 n) j (Dr ns i) = some none := by simp only [Itr.at, show ¬ j < n by omega, if_false]
    simp [lcM, e]
  | m + 1, j, fuel, i, acc, hj, hf => by
    obtain ⟨fuel, rfl⟩ : ∃ f, fuel = f + 1 := ⟨fuel - 1, by omega⟩
    obtain ⟨ρ1, e1, x, i1, px, e2⟩ := st j i
    obtain ⟨xs, i', hx, hp, ih⟩ := lc_drw (n := n) enc st m (j + 1) fuel i1 (enc x :: acc) (by omega) (by omega)
    refine ⟨x :: xs, i', by rw [List.length_cons, hx], fun q hq => ?_, ?_⟩
    · rcases List.mem_cons.mp hq with rfl | hq
      · exact px
      · exact hp q hq
    · have e : Itr.at (.rng 0 n) j (Dr ns i) = some (some (.int ((0 : Int) + (j : Int)))) := by simp only [Itr.at, show j < n by omega, if_true]
      simp only [lcM, e, e1, R.safe, R.bind, mYes, if_true, e2]
      rw [ih]
      simp
abbrev Tx2 := {t : List Sg // t.length ≤ 2}
theorem tx2_flat : ∀ xs : List Tx2, (xs.map fun x => x.1.map Sg.c).flatten = ((xs.map fun x => x.1).flatten).map Sg.c
  | [] => rfl
  | x :: xs => by rw [List.map_cons, List.flatten_cons, tx2_flat xs, List.map_cons, List.flatten_cons, List.map_append]
theorem tx2_len : ∀ xs : List Tx2, ((xs.map fun x => x.1).flatten).length ≤ 2 * xs.length
  | [] => Nat.le_refl _
  | x :: xs => by
    have := tx2_len xs
    have := x.2
    rw [List.map_cons, List.flatten_cons, List.length_append, List.length_cons]
    omega
section
variable {A B : List Cv} {k : Kd}
/-! ### texts, and what is none -/
def TxOk (v : LV) : Prop := (∃ t : List Sg, t.length ≤ 40 ∧ v = sL t) ∨ v = .str [120] ∨ v = .str [114, 110, 120] ∨ v = .str [78]
def ttB : MS := (mSeq (mAsg (mCB fAll (mCons (mLc (mAnyI (mCB fListY (mCons (mVar 6) mNil))) (mName 11) mYes (mOp (fInY false) (mVar 11) (mTup (mCons (mC (.str [97])) (mCons (mC (.str [110])) (mCons (mC (.str [114])) mNil))))) [11]) mNil)) (mName 7)) (mSeq (mAsg (mAndV (mVar 7) (mAndV (mCall 2 m__law_is_of (mCons (mVar 6) (mCons (mVar 3) mNil))) (mOp (fEq true) (mCall 2 m__law_made (mCons (mVar 1) (mCons (mVar 6) mNil))) (mCall 2 m__law_made (mCons (mVar 2) (mCons (mVar 6) mNil)))))) (mName 8)) (mIfS (mB (mOp (fEq true) (mMeth 2 4 m_Parted_shows (mMake 2 1 2 m_Parted_init (mCons (mVar 6) mNil)) (mCons (mVar 1) (mCons (mVar 2) (mCons (mVar 3) mNil)))) (mVar 8))) (mRet (mC (.bl false))) mNext)))
theorem tt_one (hA : A.length ≤ 3) (hB : B.length ≤ 3) {x0 x4 x5 x7 x8 x9 x10 x11 : Option LV} {h : List LO} {v : LV} (hv : TxOk v) : ∃ y7 y8,
    ttB [x0, some (wL A), some (wL B), some (kL k), x4, x5, some v, x7, x8, x9, x10, x11] h = .ok (.nx, [x0, some (wL A), some (wL B), some (kL k), x4, x5, some v, y7, y8, x9, x10, x11]) h := by
  have pw := pures_cons (pure_wL A) (pures_cons (pure_wL B) (show LV.pures [kL k] = true from rfl))
  have bad : ∀ b : List Nat, cal m_is_text [.str b] = some (.bl false) → (mCB fAll (mCons (mLc (mAnyI (mCB fListY (mCons (mVar 6) mNil))) (mName 11) mYes (mOp (fInY false) (mVar 11) (mTup (mCons (mC (.str [97])) (mCons (mC (.str [110])) (mCons (mC (.str [114])) mNil))))) [11]) mNil) [x0, some (wL A), some (wL B), some (kL k), x4, x5, some (.str b), x7, x8, x9, x10, x11] h = .ok (.bl false) h) → v = .str b → ∃ y7 y8,
      ttB [x0, some (wL A), some (wL B), some (kL k), x4, x5, some v, x7, x8, x9, x10, x11] h = .ok (.nx, [x0, some (wL A), some (wL B), some (kL k), x4, x5, some v, y7, y8, x9, x10, x11]) h := by
    intro b et ea e
    subst e
    have sh : cal m_Parted_shows [.obj 2 [.str b], wL A, wL B, .str k.cs] = some (.bl false) :=
      cal_of (h1 := []) (fn_rt (ev_seq (ev_drop (ev_call (ev_cons rfl (ev_cons rfl (ev_cons rfl rfl))) (c_check A B k (by omega) (by omega)) rfl (pures_cons (pure_wL A) (pures_cons (pure_wL B) rfl)))) (ev_ret (ev_call (ev_cons rfl (ev_cons rfl (ev_cons rfl (ev_cons rfl rfl)))) (show cal m_is_parting [wL A, wL B, .str k.cs, .str b] = some (.bl false) from cal_of (h1 := []) (v := .bl false) (fn_rt (ev_ret (ev_andV (c := false) (d := false) (ev_call (ev_cons rfl rfl) et rfl rfl) fun z => nomatch z))) rfl) rfl (pures_cons (pure_wL A) (pures_cons (pure_wL B) rfl)))))) rfl
    refine ⟨some (.bl false), some (.bl false), ?_⟩
    · refine ev_seq (ev_asg ea rfl) (ev_seq (ev_asg (v := .bl false) (h1 := h) (ev_andV (c := false) (d := false) rfl fun z => nomatch z) rfl) (ev_ifF (h1 := h) (ev_b (ev_op (h1 := h) (h2 := h) (ev_meth (h1 := h) (fs := [.str b]) (ev_make (C := 2) (k := 1) (xs := [.str b]) (h1 := h) (ev_cons rfl rfl) rfl rfl rfl rfl rfl (by simp [wds, wd])) (ev_cons rfl (ev_cons rfl (ev_cons rfl rfl))) sh rfl (pures_cons rfl pw)) rfl ?_)) rfl))
      rw [ne_bl, decide_eq_true rfl]
      rfl
  rcases hv with ⟨t, ht, rfl⟩ | e | e | e
  · have e1 : mCB fAll (mCons (mLc (mAnyI (mCB fListY (mCons (mVar 6) mNil))) (mName 11) mYes (mOp (fInY false) (mVar 11) (mTup (mCons (mC (.str [97])) (mCons (mC (.str [110])) (mCons (mC (.str [114])) mNil))))) [11]) mNil) [x0, some (wL A), some (wL B), some (kL k), x4, x5, some (sL t), x7, x8, x9, x10, x11] h = .ok (.bl true) h := by
      refine ev_cb (h1 := h) (ev_cons (ev_lc (h1 := h) (xs := t.map gL) (ev_anyL (h1 := h) (ev_cb (h1 := h) (ev_cons rfl rfl) ?_)) (by rw [List.length_map]; omega) (lcL_map gL (fun _ => .bl true) t [] fun g _ => ⟨_, rfl, ?_⟩)) rfl) (all_true (fun _ => .bl true) (fun _ => rfl) t h)
      · show (if (t.map Sg.c).length ≤ 60000 then R.ok (LV.vl ((t.map Sg.c).map fun c => .str [c])) h else .bad) = _
        rw [List.length_map, if_pos (by omega), List.map_map]
        rfl
      · cases g <;> rfl
    have mk : ∀ (W : List Cv), W.length ≤ 3 → cal m__law_made [wL W, sL t] = some (sL (turnL W t)) := fun W hW => c_lmadeF W t (by omega) (by omega)
    have sh := c_pshowsF (A := A) (B := B) (k := k) t (by omega) (by omega) (by omega)
    refine ⟨some (.bl true), some (.bl (kindL k t && decide (turnL A t ≠ turnL B t))), ?_⟩
    refine ev_seq (ev_asg e1 rfl) (ev_seq (ev_asg (v := .bl (kindL k t && decide (turnL A t ≠ turnL B t))) (h1 := h) (ev_andV (c := true) (d := kindL k t && decide (turnL A t ≠ turnL B t)) rfl fun _ => ev_andV (ev_call (h1 := h) (ev_cons rfl (ev_cons rfl rfl)) (c_lisof t k (by omega)) rfl rfl) fun _ => ev_op (h1 := h) (h2 := h) (ev_call (h1 := h) (ev_cons rfl (ev_cons rfl rfl)) (mk A hA) rfl (pures_cons (pure_wL A) rfl)) (ev_call (h1 := h) (ev_cons rfl (ev_cons rfl rfl)) (mk B hB) rfl (pures_cons (pure_wL B) rfl)) (ne_sL _ _ _)) rfl) (ev_ifF (h1 := h) (ev_b (ev_op (h1 := h) (h2 := h) (ev_meth (h1 := h) (fs := [sL t]) (ev_make (C := 2) (k := 1) (xs := [sL t]) (h1 := h) (ev_cons rfl rfl) rfl rfl rfl rfl rfl (by simp [wds, wd])) (ev_cons rfl (ev_cons rfl (ev_cons rfl rfl))) sh rfl (pures_cons rfl pw)) rfl ?_)) rfl))
    rw [ne_bl, decide_eq_true rfl]
    rfl
  · exact bad [120] (by rfl) (by rfl) e
  · exact bad [114, 110, 120] (by rfl) (by rfl) e
  · exact bad [78] (by rfl) (by rfl) e
theorem tt_loop (hA : A.length ≤ 3) (hB : B.length ≤ 3) {x0 x4 x5 x9 x10 x11 : Option LV} {h : List LO} : ∀ (vs : List LV) (x6 x7 x8 : Option LV), (∀ v ∈ vs, TxOk v) → ∃ y6 y7 y8,
    runL (mName 6) ttB vs [x0, some (wL A), some (wL B), some (kL k), x4, x5, x6, x7, x8, x9, x10, x11] h = .ok (.nx, [x0, some (wL A), some (wL B), some (kL k), x4, x5, y6, y7, y8, x9, x10, x11]) h
  | [], x6, x7, x8, _ => ⟨x6, x7, x8, rfl⟩
  | v :: vs, x6, x7, x8, H => by
    obtain ⟨z7, z8, e⟩ := tt_one (k := k) hA hB (x0 := x0) (x4 := x4) (x5 := x5) (x7 := x7) (x8 := x8) (x9 := x9) (x10 := x10) (x11 := x11) (h := h) (H v List.mem_cons_self)
    obtain ⟨y6, y7, y8, ih⟩ := tt_loop hA hB (x0 := x0) (x4 := x4) (x5 := x5) (x9 := x9) (x10 := x10) (x11 := x11) (h := h) vs (some v) z7 z8 fun u hu => H u (List.mem_cons_of_mem _ hu)
    exact ⟨y6, y7, y8, ev_lcons (h1 := h) rfl e ih⟩
theorem d_texts (hA : A.length ≤ 3) (hB : B.length ≤ 3) (ns : List Int) (hn : ns.length ≤ 63) (i : Nat) : ∃ i', m__law_texts_right [.ref 0, wL A, wL B, kL k] (Dr ns i) = .ok (.bl true) (Dr ns i') := by
  have st : ∀ (j i : Nat), ∃ ρ1, mName 9 (.int ((0 : Int) + (j : Int))) [some (.ref 0), some (wL A), some (wL B), some (kL k), none, none, none, none, none, none, none, none] (Dr ns i) = .ok ρ1 (Dr ns i) ∧ ∃ x : Tx2, (mCallS 2 m__law_pick (mCons (mVar 0) (mCons (mLst (mCons (mC (.str [97])) (mCons (mC (.str [114, 110])) mNil))) mNil))) ρ1 (Dr ns i) = .ok (sL x.1) (Dr ns (i + 1)) := by
    intro j i
    refine ⟨_, rfl, ?_⟩
    obtain ⟨x, hx, e⟩ := d_pick ns i [sL [.a], sL [.r, .n]] hn (by simp)
    have hc : ∃ c : Tx2, x = sL c.1 := by
      simp only [List.mem_cons, List.not_mem_nil, or_false] at hx
      rcases hx with h | h
      · exact ⟨⟨[.a], by decide⟩, h⟩
      · exact ⟨⟨[.r, .n], by decide⟩, h⟩
    obtain ⟨c, rfl⟩ := hc
    exact ⟨c, ev_callS (vs := [.ref 0, .vl [sL [.a], sL [.r, .n]]]) (h1 := Dr ns i) (ev_cons rfl (ev_cons rfl rfl)) e rfl⟩
  obtain ⟨xs, i1, hx, ex⟩ := lc_draw (n := 4) (fun x : Tx2 => sL x.1) st 4 0 60000 i [] (by omega) (by omega)
  obtain ⟨p, hp0⟩ : ∃ p, p = (xs.map fun x => x.1).flatten := ⟨_, rfl⟩
  have pl : p.length ≤ 8 := by
    have := tx2_len xs
    rw [← hp0] at this
    omega
  have st2 : ∀ (j i : Nat), ∃ ρ1, mName 10 (.int ((0 : Int) + (j : Int))) [some (.ref 0), some (wL A), some (wL B), some (kL k), some (sL p), none, none, none, none, none, none, none] (Dr ns i) = .ok ρ1 (Dr ns i) ∧ ∃ (x : List Sg) (i' : Nat), x.length ≤ 9 ∧ (mCallS 2 m__law_text (mCons (mVar 0) (mCons (mC (.int 9)) mNil))) ρ1 (Dr ns i) = .ok (sL x) (Dr ns i') := by
    intro j i
    refine ⟨_, rfl, ?_⟩
    obtain ⟨t, i', ht, e⟩ := d_text ns i 9 hn (by decide)
    exact ⟨t, i', ht, ev_callS (vs := [.ref 0, .int ((9 : Nat) : Int)]) (h1 := Dr ns i) (ev_cons rfl (ev_cons rfl rfl)) e rfl⟩
  obtain ⟨ms, i2, hm, hmP, em⟩ := lc_drw (n := 4) (P := fun x : List Sg => x.length ≤ 9) sL st2 4 0 60000 i1 [] (by omega) (by omega)
  obtain ⟨fx, hfx⟩ : ∃ fx : List LV, fx = [.str [], .str [110], .str [114], .str [114, 110], .str [114, 114, 110], sL p, .str [120], .str [114, 110, 120], .str [78], .str [97, 110, 110]] := ⟨_, rfl⟩
  have ok : ∀ v ∈ fx ++ ms.map sL, TxOk v := by
    intro v hv
    rcases List.mem_append.mp hv with z | z
    · rw [hfx] at z
      simp only [List.mem_cons, List.not_mem_nil, or_false] at z
      rcases z with e | e | e | e | e | e | e | e | e | e
      · exact .inl ⟨[], by decide, e⟩
      · exact .inl ⟨[.n], by decide, e⟩
      · exact .inl ⟨[.r], by decide, e⟩
      · exact .inl ⟨[.r, .n], by decide, e⟩
      · exact .inl ⟨[.r, .r, .n], by decide, e⟩
      · exact .inl ⟨p, by omega, e⟩
      · exact .inr (.inl e)
      · exact .inr (.inr (.inl e))
      · exact .inr (.inr (.inr e))
      · exact .inl ⟨[.a, .n, .n], by decide, e⟩
    · obtain ⟨t, ht, rfl⟩ := List.mem_map.mp z
      exact .inl ⟨t, by have := hmP t ht; omega, rfl⟩
  obtain ⟨y6, y7, y8, el⟩ := tt_loop (k := k) hA hB (x0 := some (.ref 0)) (x4 := some (sL p)) (x5 := some (.vl (ms.map sL))) (x9 := none) (x10 := none) (x11 := none) (h := Dr ns i2) (fx ++ ms.map sL) none none none ok
  have lenm : (ms.map sL).length = 4 := by rw [List.length_map, hm]
  have s1 : mAsg (mJoin0 (mLc (mRng1 (mCons (mC (.int 4)) mNil)) (mName 9) mYes (mCallS 2 m__law_pick (mCons (mVar 0) (mCons (mLst (mCons (mC (.str [97])) (mCons (mC (.str [114, 110])) mNil))) mNil))) [9])) (mName 4) [some (.ref 0), some (wL A), some (wL B), some (kL k), none, none, none, none, none, none, none, none] (Dr ns i) = .ok (.nx, [some (.ref 0), some (wL A), some (wL B), some (kL k), some (sL p), none, none, none, none, none, none, none]) (Dr ns i1) := by
    have em : (xs.map fun x : Tx2 => sL x.1) = (xs.map fun x => x.1.map Sg.c).map LV.str := by rw [List.map_map]; rfl
    refine ev_asg (v := sL p) (h1 := Dr ns i1) ?_ rfl
    have hj : ∀ (ma : ME) (ρ : Rho), ma ρ (Dr ns i) = .ok (.vl (xs.map fun x : Tx2 => sL x.1)) (Dr ns i1) → mJoin0 ma ρ (Dr ns i) = .ok (sL p) (Dr ns i1) := fun ma ρ e =>
      (ev_join (xs := xs.map fun x : Tx2 => sL x.1) (zs := xs.map fun x => x.1.map Sg.c) e rfl (by rw [em, asStrs_map]) (by rw [tx2_flat, ← hp0, List.length_map]; omega)).trans (by rw [tx2_flat, ← hp0])
    exact hj _ _ (ev_lcR (n := 4) (h1 := Dr ns i) (vs := [9]) (ev_cons rfl rfl) (by decide) ex)
  have s2 : mAsg (mLc (mRng1 (mCons (mC (.int 4)) mNil)) (mName 10) mYes (mCallS 2 m__law_text (mCons (mVar 0) (mCons (mC (.int 9)) mNil))) [10]) (mName 5) [some (.ref 0), some (wL A), some (wL B), some (kL k), some (sL p), none, none, none, none, none, none, none] (Dr ns i1) = .ok (.nx, [some (.ref 0), some (wL A), some (wL B), some (kL k), some (sL p), some (.vl (ms.map sL)), none, none, none, none, none, none]) (Dr ns i2) :=
    ev_asg (v := .vl (ms.map sL)) (h1 := Dr ns i2) (ev_lcR (n := 4) (h1 := Dr ns i1) (vs := [10]) (ev_cons rfl rfl) (by decide) em) rfl
  refine ⟨i2, fn_rt (ev_seq s1 (ev_seq s2 (ev_seq (ev_for (h1 := Dr ns i2) (xs := fx ++ ms.map sL) (ev_anyL (h1 := Dr ns i2) (ev_op (v := .vl fx) (w := .vl (ms.map sL)) (h1 := Dr ns i2) (h2 := Dr ns i2) ?_ rfl ?_)) ?_ el) (ev_ret rfl))))⟩
  · rw [hfx]
    exact ev_lst (h1 := Dr ns i2) rfl (by show 10 ≤ 60000; decide)
  · show (if fx.length + (ms.map sL).length ≤ 60000 then R.ok (LV.vl (fx ++ ms.map sL)) (Dr ns i2) else R.bad) = _
    rw [lenm, if_pos (by rw [hfx]; show 10 + 4 ≤ 60000; decide)]
  · rw [List.length_append, lenm, hfx]
    show 10 + 4 < 60000
    decide
end
/-! ### equality, and copies -/
theorem ev_orS {ρ : Rho} {h h1 h2 : List LO} {d : Bool} {mt mu : MT} (e1 : mt ρ h = .ok false h1) (e2 : mu ρ h1 = .ok d h2) : mOr mt mu ρ h = .ok d h2 := by
  unfold mOr
  rw [e1]
  exact e2
section
variable {ρ : Rho} {h h1 h2 : List LO} {v w w' : LV} {fs : List LV} {ma mb : ME} {C : Nat} {ds : List Nat} {f : MF} {b neg : Bool}
theorem ev_eqD {h' : List LO} (e1 : ma ρ h = .ok v h1) (e2 : mb ρ h1 = .ok w h2) (d1 : LV.deep h2 100000 v = some (.obj C fs)) (d2 : LV.deep h2 100000 w = some w') (t : tyE ds [] w' = true) (r : f [.obj C fs, w'] [] = .ok (.bl b) h') : mEqD neg C ds f ma mb ρ h = .ok (.bl (if neg then !b else b)) h2 := by
  unfold mEqD
  rw [e1]
  show (mb ρ h1).bind _ = _
  rw [e2]
  show (match LV.deep h2 100000 v with | some (.obj C' fs) => _ | _ => _) = _
  rw [d1]
  show (if C = C then _ else _) = _
  rw [if_pos rfl, d2]
  show (if tyE ds [] w' = true then _ else _) = _
  rw [if_pos t, r]
end
theorem dats_rows {h : List LO} : ∀ (xs : List Row) (n : Nat), (∀ r ∈ xs, r.s1.length ≤ 12 ∧ r.s2.length ≤ 12) → xs.length + 51 ≤ n → LV.dats h n (xs.map rowL) = some (xs.map dRow)
  | [], n, _, hn => by obtain ⟨n, rfl⟩ : ∃ k, n = k + 1 := ⟨n - 1, by omega⟩; rfl
  | p :: xs, n, H, hn => by
    obtain ⟨n, rfl⟩ : ∃ k, n = k + 1 := ⟨n - 1, by omega⟩
    simp only [List.length_cons] at hn
    rw [List.map_cons, List.map_cons]
    simp only [LV.dats]
    rw [dat_row p h n (H p List.mem_cons_self).1 (H p List.mem_cons_self).2 (by omega), dats_rows xs n (fun x hx => H x (List.mem_cons_of_mem _ hx)) (by omega)]
theorem eqv_len : ∀ (ds es : List PyData), ds.length ≠ es.length → PyData.eqvAll ds es = false
  | [], [], h => absurd rfl h
  | [], _ :: _, _ => rfl
  | _ :: _, [], _ => rfl
  | d :: ds, e :: es, h => by
    simp only [List.length_cons] at h
    simp only [PyData.eqvAll, eqv_len ds es (by omega), Bool.and_false]
theorem shp_rows (L : List Row) : SeqAt.shaped (.list (L.map dRow)) = true := by
  have l := lay_all (d := dRow) (c := 2) lay_row L
  simp only [SeqAt.shaped, PyData.canLay0, PyData.depth, l.1, Bool.true_and]
  exact decide_eq_true (by omega)
theorem eq_rows {L M : List Row} {neg : Bool} {h : List LO} (hL : ∀ r ∈ L, r.s1.length ≤ 12 ∧ r.s2.length ≤ 12) (hM : ∀ r ∈ M, r.s1.length ≤ 12 ∧ r.s2.length ≤ 12) (lL : L.length ≤ 100) (lM : M.length ≤ 100) {b : Bool} (hb : PyData.eqv (.list (L.map dRow)) (.list (M.map dRow)) = b) : fEq neg (lV L) (lV M) h = .ok (.bl (if neg then !b else b)) h := by
  have e1 : LV.dat h 20000 (lV L) = some (.list (L.map dRow)) := by
    show (LV.dats h 19999 (L.map rowL)).map PyData.list = _
    rw [dats_rows L 19999 hL (by omega)]
    rfl
  have e2 : LV.dat h 20000 (lV M) = some (.list (M.map dRow)) := by
    show (LV.dats h 19999 (M.map rowL)).map PyData.list = _
    rw [dats_rows M 19999 hM (by omega)]
    rfl
  unfold fEq
  show (match LV.dat h 20000 (lV L), LV.dat h 20000 (lV M) with | some d, some e => _ | _, _ => _) = _
  rw [e1, e2]
  simp only [shp_rows, Bool.and_self, if_true, hb]
theorem eqv_same (L : List Row) : PyData.eqv (.list (L.map dRow)) (.list (L.map dRow)) = true := SeqAt.eqv_refl _ (by
  simp only [PyData.canLay0]
  exact (lay_all (d := dRow) (c := 2) lay_row L).1)
theorem eqv_more (L : List Row) (x : Row) : PyData.eqv (.list (L.map dRow)) (.list ((L ++ [x]).map dRow)) = false := by
  show PyData.eqvAll _ _ = false
  refine eqv_len _ _ ?_
  rw [List.length_map, List.length_map, List.length_append, List.length_singleton]
  omega
theorem a_eq {X Y : List LV} {b : Bool} (e : fEq false (.vl X) (.vl Y) [] = .ok (.bl b) []) : m_Alike_eq [.obj 1 [.vl X], .obj 1 [.vl Y]] [] = .ok (.bl b) [] :=
  fn_rt (ev_ret (ev_andV (c := true) (d := b) rfl fun _ => ev_op (h1 := []) (h2 := []) rfl rfl e))
def eqS1 : MS := (mIfS (mOr (mB (mOp (fEq true) (mFld [(1, 0)] (mVar 3)) (mVar 2))) (mOr (mB (mEqD false 1 [1, 2] m_Alike_eq (mVar 3) (mMakeS 1 1 2 m_Alike_init (mCons (mVar 1) mNil)))) (mOr (mB (mEqD true 1 [1, 2] m_Alike_eq (mVar 3) (mMake 1 1 2 m_Alike_init (mCons (mVar 2) mNil)))) (mOr (mB (mEqD false 1 [1, 2] m_Alike_eq (mVar 3) (mMake 2 1 2 m_Parted_init (mCons (mC (.str [110])) mNil)))) (mB (mEqD false 1 [1, 2] m_Alike_eq (mVar 3) (mVar 2))))))) (mRet (mC (.bl false))) mNext)
theorem deep_ins {h : List LO} {i C : Nat} {v : LV} (q : h[i]? = some (.ins C 1 [v])) (p : v.pure = true) (l : wd v ≤ 50000) : LV.deep h 100000 (.ref i) = some (.obj C [v]) := by
  have e : ∀ n, LV.deep h (n + 1) (.ref i) = (if [v].length = 1 then (LV.deeps h n [v]).map (.obj C) else none) := fun n => by simp only [LV.deep, q]
  rw [e 99999, if_pos (show [v].length = 1 from rfl), deeps_pure h [v] 99999 (pures_cons p rfl) (by simp only [wds]; omega)]
  rfl
theorem deep_obj {h : List LO} {C : Nat} {v : LV} (p : v.pure = true) (l : wd v ≤ 50000) : LV.deep h 100000 (.obj C [v]) = some (.obj C [v]) :=
  deep_pure h (.obj C [v]) 100000 (pures_cons p rfl) (by simp only [wds, wd]; omega)
theorem a_isnt {v w : LV} (t : tbOwnX [(1, true), (2, false)] ["list", "int"] [] w = some false) : m_Alike_eq [.obj 1 [v], w] [] = .ok (.bl false) [] :=
  fn_rt (ev_ret (ev_andV (c := false) (d := false) (ev_isi rfl t) fun z => nomatch z))
theorem p_isnt {v w : LV} (t : tbOwnX [(1, false), (2, true)] ["list", "int"] [] w = some false) : m_Parted_eq [.obj 2 [v], w] [] = .ok (.bl false) [] :=
  fn_rt (ev_ret (ev_andV (c := false) (d := false) (ev_isi rfl t) fun z => nomatch z))
theorem p_eq {v w : LV} {b : Bool} (e : fEq false v w [] = .ok (.bl b) []) : m_Parted_eq [.obj 2 [v], .obj 2 [w]] [] = .ok (.bl b) [] :=
  fn_rt (ev_ret (ev_andV (c := true) (d := b) rfl fun _ => ev_op (h1 := []) (h2 := []) rfl rfl e))
theorem mk_p {a : List Nat} {ρ : Rho} {h : List LO} : mMake 2 1 2 m_Parted_init (mCons (mC (.str a)) mNil) ρ h = .ok (.obj 2 [.str a]) h :=
  ev_make (C := 2) (k := 1) (xs := [.str a]) (h1 := h) (ev_cons rfl rfl) rfl rfl rfl rfl rfl (by simp [wds, wd])
theorem mk_a {Y : List LV} {ρ : Rho} {h : List LO} {ma : ME} (e : ma ρ h = .ok (.vl Y) h) (p : LV.pures Y = true) (l : wds Y ≤ 50000) : mMake 1 1 2 m_Alike_init (mCons ma mNil) ρ h = .ok (.obj 1 [.vl Y]) h :=
  ev_make (C := 1) (k := 1) (xs := [.vl Y]) (h1 := h) (ev_cons e rfl) rfl rfl (pures_cons p rfl) rfl (pures_cons p rfl) (by simp only [wds, wd]; omega)
def eqS2 : MS := (mIfS (mOr (mB (mEqD true 2 [2, 1] m_Parted_eq (mMake 2 1 2 m_Parted_init (mCons (mC (.str [114, 110])) mNil)) (mMake 2 1 2 m_Parted_init (mCons (mC (.str [114, 110])) mNil)))) (mB (mOp (fEq true) (mFld [(2, 0)] (mMake 2 1 2 m_Parted_init (mCons (mC (.str [114, 110])) mNil))) (mC (.str [114, 110]))))) (mRet (mC (.bl false))) mNext)
def eqS3 : ME := (mAndV (mEqD true 2 [2, 1] m_Parted_eq (mMake 2 1 2 m_Parted_init (mCons (mC (.str [114, 110])) mNil)) (mMake 2 1 2 m_Parted_init (mCons (mC (.str [110])) mNil))) (mEqD true 2 [2, 1] m_Parted_eq (mMake 2 1 2 m_Parted_init (mCons (mC (.str [])) mNil)) (mMake 1 1 2 m_Alike_init (mCons (mLst mNil) mNil))))
theorem eqS2_ok (ρ : Rho) (h : List LO) : eqS2 ρ h = .ok (.nx, ρ) h := by
  refine ev_ifF (h1 := h) (ev_or (c := false) (d := false) (h1 := h) (ev_b (ev_eqD (neg := true) (b := true) (h1 := h) (h2 := h) mk_p mk_p (deep_obj rfl (by simp [wd])) (deep_obj rfl (by simp [wd])) rfl (p_eq (by rfl)))) fun _ => ev_b (ev_op (v := .str [114, 110]) (w := .str [114, 110]) (h1 := h) (h2 := h) ?_ rfl rfl)) rfl
  unfold mFld
  rw [mk_p]
  rfl
theorem eqS3_ok (ρ : Rho) (h : List LO) : eqS3 ρ h = .ok (.bl true) h :=
  ev_andV (c := true) (d := true) (h1 := h) (ev_eqD (neg := true) (b := false) (h1 := h) (h2 := h) mk_p mk_p (deep_obj rfl (by simp [wd])) (deep_obj rfl (by simp [wd])) rfl (p_eq (by rfl))) fun _ => ev_eqD (neg := true) (b := false) (h1 := h) (h2 := h) mk_p (mk_a rfl rfl (by simp [wds])) (deep_obj rfl (by simp [wd])) (deep_obj rfl (by simp [wd, wds])) rfl (p_isnt rfl)
theorem eMakeS (n : Nat) (h : List LO) (Y : List LV) (ρ : Rho) (e0 : h[0]? = some (.lst Y)) (en : h.length = n) (e1 : ρ[1]? = some (some (.ref 0))) : mMakeS 1 1 2 m_Alike_init (mCons (mVar 1) mNil) ρ h = .ok (.ref n) (h ++ [.ins 1 1 [.vl Y]]) := by
  subst en
  have hl : 0 < h.length := (List.getElem?_eq_some_iff.mp e0).1
  have fi : m_Alike_init [.ref h.length, .ref 0] (h ++ [.ins 1 1 []]) = .ok .non (h ++ [.ins 1 1 [.vl Y]]) := by
    have q0 : (h ++ [LO.ins 1 1 []])[0]? = some (.lst Y) := by rw [List.getElem?_append_left hl]; exact e0
    have q1 : (h ++ [LO.ins 1 1 []])[h.length]? = some (.ins 1 1 []) := by rw [List.getElem?_append_right (Nat.le_refl _), Nat.sub_self]; rfl
    have el : mCB fListY (mCons (mVar 1) mNil) [some (.ref h.length), some (.ref 0)] (h ++ [.ins 1 1 []]) = .ok (.vl Y) (h ++ [.ins 1 1 []]) := by
      refine ev_cb (ev_cons rfl rfl) ?_
      show fListX [.ref 0] _ = _
      unfold fListX
      simp only [LV.dct, q0, fList, LV.seq, LV.lsf, LV.lst]
    refine fn_nx (ρ1 := [some (.ref h.length), some (.ref 0)]) ?_
    show mFldSet [(1, 0)] (mVar 0) (mCB fListY (mCons (mVar 1) mNil)) [some (.ref h.length), some (.ref 0)] (h ++ [.ins 1 1 []]) = _
    simp [mFldSet, mVar, R.bind, el, q1]
  have ea : mCons (mVar 1) mNil ρ h = .ok [.ref 0] h := ev_cons (v := .ref 0) (h1 := h) (by unfold mVar; rw [e1]) rfl
  unfold mMakeS
  rw [ea]
  show (if 1 + 1 = 2 then (match m_Alike_init [.ref h.length, .ref 0] (h ++ [.ins 1 1 []]) with | .ok .non h' => R.ok (LV.ref h.length) h' | _ => .bad) else .bad) = _
  rw [if_pos rfl, fi]
theorem c_lequal {x : Row} {L : List Row} (hL : ∀ r ∈ x :: L, r.s1.length ≤ 12 ∧ r.s2.length ≤ 12) (ll : L.length ≤ 50) : cal m__law_equal_right [lV (x :: L)] = some (.bl true) := by
  have hM : ∀ r ∈ (x :: L) ++ [x], r.s1.length ≤ 12 ∧ r.s2.length ≤ 12 := fun r hr => by
    rcases List.mem_append.mp hr with z | z
    · exact hL r z
    · rw [List.mem_singleton.mp z]; exact hL x List.mem_cons_self
  obtain ⟨X, hX⟩ : ∃ X : List Row, X = x :: L := ⟨_, rfl⟩
  have l1 : X.length ≤ 100 := by rw [hX, List.length_cons]; omega
  have l2 : (X ++ [x]).length ≤ 100 := by rw [hX, List.length_append, List.length_cons, List.length_singleton]; omega
  rw [← hX] at hL hM
  have pX := pures_map pure_rowL X
  have pM := pures_map pure_rowL (X ++ [x])
  have wd1 : ∀ Y : List Row, (∀ r ∈ Y, r.s1.length ≤ 12 ∧ r.s2.length ≤ 12) → Y.length ≤ 100 → wds (Y.map rowL) ≤ 40000 := fun Y hY lY => by
    have := wds_le (c := 60) (Y.map rowL) fun v hv => by
      obtain ⟨r, hr, rfl⟩ := List.mem_map.mp hv
      have := hY r hr
      have := wd_rowL r
      omega
    rw [List.length_map] at this
    omega
  have wX := wd1 X hL l1
  have wM := wd1 _ hM l2
  have eXX : fEq false (lV X) (lV X) [] = .ok (.bl true) [] := eq_rows hL hL l1 l1 (eqv_same X)
  have eXM : fEq false (lV X) (lV (X ++ [x])) [] = .ok (.bl false) [] := eq_rows hL hM l1 l2 (eqv_more X x)
  have wd2 : wd (lV X) ≤ 50000 := by simp only [wd]; omega
  have wd3 : wd (lV (X ++ [x])) ≤ 50000 := by simp only [wd]; omega
  rw [← hX]
  have s1 : mPar 1 2 (mCons (mCB fListM (mCons (mVar 0) mNil)) (mCons (mCB fListY (mCons (mVar 0) mNil)) mNil)) [some (lV X), none, none, none] [] = .ok (.nx, [some (lV X), some (.ref 0), some (lV X), none]) [.lst (X.map rowL)] :=
    ev_par (v := .ref 0) (w := lV X) (h1 := [.lst (X.map rowL)]) (ev_cons (v := .ref 0) (h1 := [.lst (X.map rowL)]) (ev_cb (h1 := []) (ev_cons rfl rfl) rfl) (ev_cons (v := lV X) (h1 := [.lst (X.map rowL)]) (ev_cb (h1 := [.lst (X.map rowL)]) (ev_cons rfl rfl) rfl) rfl))
  have s2 : mAsg (mMakeS 1 1 2 m_Alike_init (mCons (mVar 1) mNil)) (mName 3) [some (lV X), some (.ref 0), some (lV X), none] [.lst (X.map rowL)] = .ok (.nx, [some (lV X), some (.ref 0), some (lV X), some (.ref 1)]) [.lst (X.map rowL), .ins 1 1 [lV X]] :=
    ev_asg (v := .ref 1) (h1 := [.lst (X.map rowL), .ins 1 1 [lV X]]) (eMakeS 1 [.lst (X.map rowL)] (X.map rowL) _ rfl rfl rfl) rfl
  have s3 : mDrop (mApp (mVar 1) (mOp fIxX (mVar 1) (mC (.int 0)))) [some (lV X), some (.ref 0), some (lV X), some (.ref 1)] [.lst (X.map rowL), .ins 1 1 [lV X]] = .ok (.nx, [some (lV X), some (.ref 0), some (lV X), some (.ref 1)]) [.lst ((X ++ [x]).map rowL), .ins 1 1 [lV X]] := by
    refine ev_drop (v := .non) (h1 := [.lst ((X ++ [x]).map rowL), .ins 1 1 [lV X]]) ?_
    have ex : mOp fIxX (mVar 1) (mC (.int 0)) [some (lV X), some (.ref 0), some (lV X), some (.ref 1)] [.lst (X.map rowL), .ins 1 1 [lV X]] = .ok (rowL x) [.lst (X.map rowL), .ins 1 1 [lV X]] := by
      rw [hX]
      have a : L2.atI ((x :: L).map rowL) (0 : Int) = some (rowL x) := by
        unfold L2.atI L2.ixN
        rw [if_pos (by omega), if_pos (by simp only [List.length_map, List.length_cons]; omega)]
        rfl
      show (match L2.atI ((x :: L).map rowL) (0 : Int) with | some y => R.ok y [LO.lst ((x :: L).map rowL), .ins 1 1 [lV (x :: L)]] | none => R.bad) = _
      rw [a]
    unfold mApp
    show ((mOp fIxX (mVar 1) (mC (.int 0)) [some (lV X), some (.ref 0), some (lV X), some (.ref 1)] [.lst (X.map rowL), .ins 1 1 [lV X]]).bind fun w h2 => fApp (.ref 0) w h2) = _
    rw [ex]
    show (if (X.map rowL).length < 60000 then R.ok LV.non [.lst (X.map rowL ++ [rowL x]), .ins 1 1 [lV X]] else .bad) = _
    rw [if_pos (by rw [List.length_map]; omega), List.map_append]
    rfl
  have s4 : eqS1 [some (lV X), some (.ref 0), some (lV X), some (.ref 1)] [.lst ((X ++ [x]).map rowL), .ins 1 1 [lV X]] = .ok (.nx, [some (lV X), some (.ref 0), some (lV X), some (.ref 1)]) [.lst ((X ++ [x]).map rowL), .ins 1 1 [lV X], .ins 1 1 [lV (X ++ [x])]] := by
    obtain ⟨H2, hH2⟩ : ∃ H2 : List LO, H2 = [.lst ((X ++ [x]).map rowL), .ins 1 1 [lV X]] := ⟨_, rfl⟩
    obtain ⟨H3, hH3⟩ : ∃ H3 : List LO, H3 = [.lst ((X ++ [x]).map rowL), .ins 1 1 [lV X], .ins 1 1 [lV (X ++ [x])]] := ⟨_, rfl⟩
    have q21 : H2[1]? = some (.ins 1 1 [lV X]) := by rw [hH2]; rfl
    have q31 : H3[1]? = some (.ins 1 1 [lV X]) := by rw [hH3]; rfl
    have q32 : H3[2]? = some (.ins 1 1 [lV (X ++ [x])]) := by rw [hH3]; rfl
    have eM : mMakeS 1 1 2 m_Alike_init (mCons (mVar 1) mNil) [some (lV X), some (.ref 0), some (lV X), some (.ref 1)] H2 = .ok (.ref 2) H3 := by
      rw [hH2, hH3]
      exact eMakeS 2 _ _ _ rfl rfl rfl
    rw [← hH2, ← hH3]
    have dv : LV.deep H3 100000 (.ref 1) = some (.obj 1 [lV X]) := deep_ins q31 pX wd2
    have dw : LV.deep H3 100000 (.ref 2) = some (.obj 1 [lV (X ++ [x])]) := deep_ins q32 pM wd3
    have ef : mFld [(1, 0)] (mVar 3) [some (lV X), some (.ref 0), some (lV X), some (.ref 1)] H2 = .ok (lV X) H2 := by
      unfold mFld
      show (match H2[1]? with | some (.ins C _ xs) => _ | _ => _) = _
      rw [q21]
      rfl
    refine ev_ifF (h1 := H3) ?_ rfl
    refine ev_orS (h1 := H2) (ev_b (ev_op (mb := mVar 2) (v := lV X) (w := lV X) (h1 := H2) (h2 := H2) ef rfl (eq_rows (neg := true) hL hL l1 l1 (eqv_same X)))) ?_
    refine ev_or (c := false) (d := false) (h1 := H3) (ev_b (ev_eqD (neg := false) (b := false) (v := .ref 1) (w := .ref 2) (h1 := H2) (h2 := H3) rfl eM dv dw rfl (a_eq eXM))) fun _ => ?_
    refine ev_or (c := false) (d := false) (h1 := H3) (ev_b (ev_eqD (neg := true) (b := true) (v := .ref 1) (w := .obj 1 [lV X]) (h1 := H3) (h2 := H3) rfl (mk_a rfl pX (by omega)) dv (deep_obj pX wd2) rfl (a_eq eXX))) fun _ => ?_
    refine ev_or (c := false) (d := false) (h1 := H3) (ev_b (ev_eqD (neg := false) (b := false) (v := .ref 1) (w := .obj 2 [.str [110]]) (h1 := H3) (h2 := H3) rfl mk_p dv (deep_obj rfl (by simp [wd])) rfl (a_isnt rfl))) fun _ => ?_
    exact ev_b (ev_eqD (neg := false) (b := false) (v := .ref 1) (w := lV X) (h1 := H3) (h2 := H3) rfl rfl dv (deep_pure H3 (lV X) 100000 pX (by omega)) rfl (a_isnt rfl))
  exact cal_of (h1 := [.lst ((X ++ [x]).map rowL), .ins 1 1 [lV X], .ins 1 1 [lV (X ++ [x])]]) (v := .bl true) (fn_rt (ev_seq s1 (ev_seq s2 (ev_seq s3 (ev_seq s4 (ev_seq (eqS2_ok _ _) (ev_ret (eqS3_ok _ _)))))))) rfl
/-! ### the law -/
def lwB : MS := (mSeq (mPar 3 4 (mCons (mCallS 2 m__law_way (mCons (mVar 1) (mCons (mC (.int 3)) mNil))) (mCons (mCallS 2 m__law_way (mCons (mVar 1) (mCons (mC (.int 3)) mNil))) mNil))) (mSeq (mIfS (mB (mOp (fEq false) (mCallS 2 m__law_take (mCons (mVar 1) (mCons (mC (.int 2)) mNil))) (mC (.int 0)))) (mAsg (mCallS 2 m__law_pick (mCons (mVar 1) (mCons (mLst (mCons (mTup (mCons (mTup (mCons (mC (.str [112, 97, 105, 114, 115])) (mCons (mC (.str [97, 108, 108])) mNil))) (mCons (mTup (mCons (mC (.str [99, 97, 114, 101])) mNil)) mNil))) (mCons (mTup (mCons (mTup (mCons (mC (.str [98, 111, 116, 104])) mNil)) (mCons (mTup (mCons (mC (.str [112, 97, 105, 114, 115])) (mCons (mC (.str [108, 111, 110, 101, 115])) mNil))) mNil))) (mCons (mTup (mCons (mVar 3) (mCons (mVar 3) mNil))) mNil)))) mNil))) (mGTup 2 (mGCons (mName 3) (mGCons (mName 4) mGNil)))) mNext) (mSeq (mAsg (mCallS 2 m__law_pick (mCons (mVar 1) (mCons (mLst (mCons (mC (.str [97, 110, 121])) (mCons (mC (.str [98, 97, 114, 101])) (mCons (mC (.str [108, 111, 110, 101])) (mCons (mC (.str [112, 97, 105, 114, 101, 100])) mNil))))) mNil))) (mName 5)) (mSeq (mIfS (mOr (mNot (mTru (mCallS 4 m__law_lists_right (mCons (mVar 1) (mCons (mVar 3) (mCons (mVar 4) (mCons (mVar 5) mNil))))))) (mNot (mTru (mCallS 4 m__law_texts_right (mCons (mVar 1) (mCons (mVar 3) (mCons (mVar 4) (mCons (mVar 5) mNil)))))))) (mRet (mC (.bl false))) mNext) (mIfS (mNot (mTru (mCall 1 m__law_equal_right (mCons (mSl (mCall 3 m__law_walk (mCons (mVar 3) (mCons (mVar 4) (mCons (mVar 5) mNil)))) mNoP (mPart (mC (.int 4)))) mNil)))) (mRet (mC (.bl false))) mNext)))))
theorem law_turn (ns : List Int) (i : Nat) (hn : ns.length ≤ 63) (sc x2 x3 x4 x5 : Option LV) : ∃ y3 y4 y5 i', lwB [sc, some (.ref 0), x2, x3, x4, x5] (Dr ns i) = .ok (.nx, [sc, some (.ref 0), x2, y3, y4, y5]) (Dr ns i') := by
  obtain ⟨A0, i1, hA0, eA⟩ := d_way ns i 3 hn (by decide)
  obtain ⟨B0, i2, hB0, eB⟩ := d_way ns i1 3 hn (by decide)
  obtain ⟨r, hr, er⟩ := d_take ns i2 2 hn (by decide)
  have s1 : mPar 3 4 (mCons (mCallS 2 m__law_way (mCons (mVar 1) (mCons (mC (.int 3)) mNil))) (mCons (mCallS 2 m__law_way (mCons (mVar 1) (mCons (mC (.int 3)) mNil))) mNil)) [sc, some (.ref 0), x2, x3, x4, x5] (Dr ns i) = .ok (.nx, [sc, some (.ref 0), x2, some (wL A0), some (wL B0), x5]) (Dr ns i2) :=
    ev_par (v := wL A0) (w := wL B0) (h1 := Dr ns i2) (ev_cons (v := wL A0) (h1 := Dr ns i1) (ev_callS (vs := [.ref 0, .int ((3 : Nat) : Int)]) (h1 := Dr ns i) (ev_cons rfl (ev_cons rfl rfl)) eA rfl) (ev_cons (v := wL B0) (h1 := Dr ns i2) (ev_callS (vs := [.ref 0, .int ((3 : Nat) : Int)]) (h1 := Dr ns i1) (ev_cons rfl (ev_cons rfl rfl)) eB rfl) rfl))
  have s2 : ∃ A B i3, A.length ≤ 3 ∧ B.length ≤ 3 ∧ mIfS (mB (mOp (fEq false) (mCallS 2 m__law_take (mCons (mVar 1) (mCons (mC (.int 2)) mNil))) (mC (.int 0)))) (mAsg (mCallS 2 m__law_pick (mCons (mVar 1) (mCons (mLst (mCons (mTup (mCons (mTup (mCons (mC (.str [112, 97, 105, 114, 115])) (mCons (mC (.str [97, 108, 108])) mNil))) (mCons (mTup (mCons (mC (.str [99, 97, 114, 101])) mNil)) mNil))) (mCons (mTup (mCons (mTup (mCons (mC (.str [98, 111, 116, 104])) mNil)) (mCons (mTup (mCons (mC (.str [112, 97, 105, 114, 115])) (mCons (mC (.str [108, 111, 110, 101, 115])) mNil))) mNil))) (mCons (mTup (mCons (mVar 3) (mCons (mVar 3) mNil))) mNil)))) mNil))) (mGTup 2 (mGCons (mName 3) (mGCons (mName 4) mGNil)))) mNext [sc, some (.ref 0), x2, some (wL A0), some (wL B0), x5] (Dr ns i2) = .ok (.nx, [sc, some (.ref 0), x2, some (wL A), some (wL B), x5]) (Dr ns i3) := by
    have et : mCallS 2 m__law_take (mCons (mVar 1) (mCons (mC (.int 2)) mNil)) [sc, some (.ref 0), x2, some (wL A0), some (wL B0), x5] (Dr ns i2) = .ok (.int r) (Dr ns (i2 + 1)) := ev_callS (vs := [.ref 0, .int ((2 : Nat) : Int)]) (h1 := Dr ns i2) (ev_cons rfl (ev_cons rfl rfl)) er rfl
    rcases (show r = 0 ∨ r = 1 by omega) with hr0 | hr0
    · rw [hr0] at et
      obtain ⟨x, hx, ex⟩ := d_pick ns (i2 + 1) [.tup [wL [.pairs, .all], wL [.care]], .tup [wL [.both], wL [.pairs, .lones]], .tup [wL A0, wL A0]] hn (by simp)
      obtain ⟨A, B, hA, hB, rfl⟩ : ∃ A B, A.length ≤ 3 ∧ B.length ≤ 3 ∧ x = .tup [wL A, wL B] := by
        simp only [List.mem_cons, List.not_mem_nil, or_false] at hx
        rcases hx with h | h | h
        · exact ⟨_, _, by decide, by decide, h⟩
        · exact ⟨_, _, by decide, by decide, h⟩
        · exact ⟨_, _, hA0, hA0, h⟩
      refine ⟨A, B, i2 + 1 + 1, hA, hB, ev_ifT (h1 := Dr ns (i2 + 1)) (ev_b (ev_op (v := .int 0) (w := .int 0) (h1 := Dr ns (i2 + 1)) (h2 := Dr ns (i2 + 1)) et rfl rfl)) (ev_asg (v := .tup [wL A, wL B]) (h1 := Dr ns (i2 + 1 + 1)) (ev_callS (vs := [.ref 0, .vl [.tup [wL [.pairs, .all], wL [.care]], .tup [wL [.both], wL [.pairs, .lones]], .tup [wL A0, wL A0]]]) (h1 := Dr ns (i2 + 1)) (ev_cons rfl (ev_cons rfl rfl)) ex rfl) rfl)⟩
    · rw [hr0] at et
      exact ⟨A0, B0, i2 + 1, hA0, hB0, ev_ifF (h1 := Dr ns (i2 + 1)) (ev_b (ev_op (v := .int 1) (w := .int 0) (h1 := Dr ns (i2 + 1)) (h2 := Dr ns (i2 + 1)) et rfl rfl)) rfl⟩
  obtain ⟨A, B, i3, hA, hB, s2⟩ := s2
  obtain ⟨x, hx, ex⟩ := d_pick ns i3 [kL .any, kL .bare, kL .lone, kL .paired] hn (by simp)
  obtain ⟨k, rfl⟩ : ∃ k, x = kL k := by
    simp only [List.mem_cons, List.not_mem_nil, or_false] at hx
    rcases hx with h | h | h | h <;> exact ⟨_, h⟩
  have s3 : mAsg (mCallS 2 m__law_pick (mCons (mVar 1) (mCons (mLst (mCons (mC (.str [97, 110, 121])) (mCons (mC (.str [98, 97, 114, 101])) (mCons (mC (.str [108, 111, 110, 101])) (mCons (mC (.str [112, 97, 105, 114, 101, 100])) mNil))))) mNil))) (mName 5) [sc, some (.ref 0), x2, some (wL A), some (wL B), x5] (Dr ns i3) = .ok (.nx, [sc, some (.ref 0), x2, some (wL A), some (wL B), some (kL k)]) (Dr ns (i3 + 1)) :=
    ev_asg (v := kL k) (h1 := Dr ns (i3 + 1)) (ev_callS (vs := [.ref 0, .vl [kL .any, kL .bare, kL .lone, kL .paired]]) (h1 := Dr ns i3) (ev_cons rfl (ev_cons rfl rfl)) ex rfl) rfl
  obtain ⟨i4, el⟩ := d_lists (k := k) hA hB ns hn (i3 + 1)
  obtain ⟨i5, et⟩ := d_texts (k := k) hA hB ns hn i4
  have s4 : mIfS (mOr (mNot (mTru (mCallS 4 m__law_lists_right (mCons (mVar 1) (mCons (mVar 3) (mCons (mVar 4) (mCons (mVar 5) mNil))))))) (mNot (mTru (mCallS 4 m__law_texts_right (mCons (mVar 1) (mCons (mVar 3) (mCons (mVar 4) (mCons (mVar 5) mNil)))))))) (mRet (mC (.bl false))) mNext [sc, some (.ref 0), x2, some (wL A), some (wL B), some (kL k)] (Dr ns (i3 + 1)) = .ok (.nx, [sc, some (.ref 0), x2, some (wL A), some (wL B), some (kL k)]) (Dr ns i5) :=
    ev_ifF (h1 := Dr ns i5) (ev_orS (h1 := Dr ns i4) (ev_not (c := true) (ev_truB (ev_callS (vs := [.ref 0, wL A, wL B, kL k]) (h1 := Dr ns (i3 + 1)) (ev_cons rfl (ev_cons rfl (ev_cons rfl (ev_cons rfl rfl)))) el rfl))) (ev_not (c := true) (ev_truB (ev_callS (vs := [.ref 0, wL A, wL B, kL k]) (h1 := Dr ns i4) (ev_cons rfl (ev_cons rfl (ev_cons rfl (ev_cons rfl rfl)))) et rfl)))) rfl
  obtain ⟨K, eK, k0, k1, kG⟩ := c_lwalk (A := A) (B := B) (k := k) hA hB
  obtain ⟨q, L, hK⟩ : ∃ q L, K.take 4 = q :: L := by
    cases K with
    | nil => exact absurd k0 (by simp)
    | cons q K => exact ⟨q, K.take 3, rfl⟩
  have ll : L.length ≤ 50 := by
    have : (K.take 4).length ≤ 4 := by rw [List.length_take]; omega
    rw [hK, List.length_cons] at this
    omega
  have hG : ∀ r ∈ q :: L, r.s1.length ≤ 12 ∧ r.s2.length ≤ 12 := fun r hr => by
    have := kG r (List.mem_of_mem_take (by rw [hK]; exact hr))
    have a := this.1.l1
    have b := this.1.l2
    omega
  have sl : mSl (mCall 3 m__law_walk (mCons (mVar 3) (mCons (mVar 4) (mCons (mVar 5) mNil)))) mNoP (mPart (mC (.int 4))) [sc, some (.ref 0), x2, some (wL A), some (wL B), some (kL k)] (Dr ns i5) = .ok (lV (q :: L)) (Dr ns i5) := by
    rw [← hK]
    exact ev_sl (h1 := Dr ns i5) (h2 := Dr ns i5) (h3 := Dr ns i5) (v := lV K) (lo := none) (hi := some ((4 : Nat) : Int)) (ev_call (h1 := Dr ns i5) (ev_cons rfl (ev_cons rfl (ev_cons rfl rfl))) eK rfl (pures_cons (pure_wL A) (pures_cons (pure_wL B) rfl))) rfl rfl (to_lV K 4 _)
  exact ⟨some (wL A), some (wL B), some (kL k), i5, ev_seq s1 (ev_seq s2 (ev_seq s3 (ev_seq s4 (ev_ifF (h1 := Dr ns i5) (ev_not (c := true) (ev_truB (ev_call (h1 := Dr ns i5) (ev_cons sl rfl) (c_lequal hG ll) rfl (pures_cons (pures_map pure_rowL _) rfl)))) rfl))))⟩
theorem law_loop (ns : List Int) (hn : ns.length ≤ 63) (sc : Option LV) : ∀ (m j fuel i : Nat) (x2 x3 x4 x5 : Option LV), j + m = 4 → m < fuel → ∃ ρ' i', Rm.forM (.rng 0 4) (mName 2) lwB fuel j [sc, some (.ref 0), x2, x3, x4, x5] (Dr ns i) = .ok (.nx, ρ') (Dr ns i')
  | 0, j, fuel, i, x2, x3, x4, x5, hm, hf => by
    obtain ⟨fuel, rfl⟩ : ∃ f, fuel = f + 1 := ⟨fuel - 1, by omega⟩
    exact ⟨_, i, ev_rngE (by omega)⟩
  | m + 1, j, fuel, i, x2, x3, x4, x5, hm, hf => by
    obtain ⟨fuel, rfl⟩ : ∃ f, fuel = f + 1 := ⟨fuel - 1, by omega⟩
    obtain ⟨y3, y4, y5, i', e⟩ := law_turn ns i hn sc (some (.int ((0 : Int) + (j : Int)))) x3 x4 x5
    obtain ⟨ρ', i'', ih⟩ := law_loop ns hn sc m (j + 1) fuel i' (some (.int ((0 : Int) + (j : Int)))) y3 y4 y5 (by omega) (by omega)
    exact ⟨ρ', i'', ev_rng (by omega) rfl e ih⟩
theorem tt (ns : List Int) (hn : ns.length ≤ 63) : ∃ h', m_law [.fz (ns.map .int)] [] = .ok (.bl true) h' := by
  obtain ⟨ρ', i', e⟩ := law_loop ns hn (some (.fz (ns.map .int))) 4 0 60000 0 none none none none (by omega) (by omega)
  exact ⟨Dr ns i', fn_rt (ev_seq (ev_asg (v := .ref 0) (h1 := Dr ns 0) (ev_lstM (vs := [.fz (ns.map .int), .int 0]) (h1 := []) (ev_cons rfl (ev_cons rfl rfl)) (by show 2 ≤ 60000; decide)) rfl) (ev_seq (ev_forR (n := 4) (ev_cons rfl rfl) (by decide) e) (ev_ret rfl)))⟩
end Sx
namespace K04
open PySem PySem.Spec PyProof.Rows L2 RZ PpSet Rm

theorem all_S {S : Se} {h : Heap} {mg : Str → Option Value} {fa : Addr} {fdL : FuncData} {q_CONVERSIONS q_KINDS q_SIGNS q__MADE_OF q_MADE_OF_any q_MADE_OF_bare q_MADE_OF_lone q__PLAIN q__HELD q_HELD_both q_HELD_lones q_HELD_pairs q__REPLACED q_REPLACED_all q_REPLACED_all0 q_REPLACED_both q_REPLACED_both0 q_REPLACED_both1 q_REPLACED_care q_REPLACED_care0 q_REPLACED_care1 q_REPLACED_lone q_REPLACED_lone0 q_REPLACED_lones q_REPLACED_lones0 q_REPLACED_lones1 q_REPLACED_lones2 q_REPLACED_pairs q_REPLACED_pairs0 : Addr}
    (hn0 : S.nm 0 = (["one", "other", "kind"] : List Str))
    (hn1 : S.nm 1 = (["rows"] : List Str))
    (hn2 : S.nm 2 = (["text"] : List Str))
    (tt : ∀ ns : List Int, ns.length ≤ 63 → ∃ h', m_law [.fz (ns.map .int)] [] = .ok (.bl true) h') (X : S.K.In h) (G : h.Ns mainGlobals mg) (FL : Fun S.K "law" "law" s_law fa fdL)
    (d__law_number : FnG S.K "_law_number" "_law_number" "_law_number" s__law_number)
    (d__law_take : FnG S.K "_law_take" "_law_take" "_law_take" s__law_take)
    (d__law_pick : FnG S.K "_law_pick" "_law_pick" "_law_pick" s__law_pick)
    (d__law_way : FnG S.K "_law_way" "_law_way" "_law_way" s__law_way)
    (d_Alike_init : MtG S.K (S.ct 1) "__init__" "Alike.__init__" s_Alike_init)
    (d_is_conversion : FnG S.K "is_conversion" "is_conversion" "is_conversion" s_is_conversion)
    (d_is_way : FnG S.K "is_way" "is_way" "is_way" s_is_way)
    (d_check_way : FnG S.K "check_way" "check_way" "check_way" s_check_way)
    (d_check_kind : FnG S.K "check_kind" "check_kind" "check_kind" s_check_kind)
    (d__check_comparing : FnG S.K "_check" "_check" "_check" s__check_comparing)
    (d_starting : FnG S.K "starting" "starting" "starting" s_starting)
    (d_RowWalk_first : MtG S.K (S.ct 0) "first" "RowWalk.first" s_RowWalk_first)
    (d_coming : FnG S.K "coming" "coming" "coming" s_coming)
    (d_RowWalk_signs : MtG S.K (S.ct 0) "signs" "RowWalk.signs" s_RowWalk_signs)
    (d__read_one : FnG S.K "_read_one" "_read_one" "_read_one" s__read_one)
    (d__read_all : FnG S.K "_read_all" "_read_all" "_read_all" s__read_all)
    (d_ending : FnG S.K "ending" "ending" "ending" s_ending)
    (d_RowWalk_is_fine : MtG S.K (S.ct 0) "is_fine" "RowWalk.is_fine" s_RowWalk_is_fine)
    (d_is_text : FnG S.K "is_text" "is_text" "is_text" s_is_text)
    (d_is_standing : FnG S.K "is_standing" "is_standing" "is_standing" s_is_standing)
    (d_RowWalk_is_node : MtG S.K (S.ct 0) "is_node" "RowWalk.is_node" s_RowWalk_is_node)
    (d_step : FnG S.K "step" "step" "step" s_step)
    (d_without_common : FnG S.K "without_common" "without_common" "without_common" s_without_common)
    (d_is_half : FnG S.K "is_half" "is_half" "is_half" s_is_half)
    (d_RowWalk_behind : MtG S.K (S.ct 0) "behind" "RowWalk.behind" s_RowWalk_behind)
    (d_is_closed : FnG S.K "is_closed" "is_closed" "is_closed" s_is_closed)
    (d_RowWalk_init : MtG S.K (S.ct 0) "__init__" "RowWalk.__init__" s_RowWalk_init)
    (d_are_rows : FnG S.K "are_rows" "are_rows" "are_rows" s_are_rows)
    (d_Alike_shows : MtG S.K (S.ct 1) "shows" "Alike.shows" s_Alike_shows)
    (d_Alike_eq : MtG S.K (S.ct 1) "__eq__" "Alike.__eq__" s_Alike_eq)
    (d_Parted_init : MtG S.K (S.ct 2) "__init__" "Parted.__init__" s_Parted_init)
    (d_fits : FnG S.K "fits" "fits" "fits" s_fits)
    (d_turn : FnG S.K "turn" "turn" "turn" s_turn)
    (d_is_parting : FnG S.K "is_parting" "is_parting" "is_parting" s_is_parting)
    (d_Parted_shows : MtG S.K (S.ct 2) "shows" "Parted.shows" s_Parted_shows)
    (d_Parted_eq : MtG S.K (S.ct 2) "__eq__" "Parted.__eq__" s_Parted_eq)
    (d__law_equal_right : FnG S.K "_law_equal_right" "_law_equal_right" "_law_equal_right" s__law_equal_right)
    (d__law_first : FnG S.K "_law_first" "_law_first" "_law_first" s__law_first)
    (d__law_sign : FnG S.K "_law_sign" "_law_sign" "_law_sign" s__law_sign)
    (d__law_read : FnG S.K "_law_read" "_law_read" "_law_read" s__law_read)
    (d__law_behind : FnG S.K "_law_behind" "_law_behind" "_law_behind" s__law_behind)
    (d__law_can : FnG S.K "_law_can" "_law_can" "_law_can" s__law_can)
    (d__law_walk : FnG S.K "_law_walk" "_law_walk" "_law_walk" s__law_walk)
    (d__law_end : FnG S.K "_law_end" "_law_end" "_law_end" s__law_end)
    (d__law_is_even : FnG S.K "_law_is_even" "_law_is_even" "_law_is_even" s__law_is_even)
    (d__law_are_rows : FnG S.K "_law_are_rows" "_law_are_rows" "_law_are_rows" s__law_are_rows)
    (d__law_lists_right : FnG S.K "_law_lists_right" "_law_lists_right" "_law_lists_right" s__law_lists_right)
    (d__law_text : FnG S.K "_law_text" "_law_text" "_law_text" s__law_text)
    (d__law_is_of : FnG S.K "_law_is_of" "_law_is_of" "_law_is_of" s__law_is_of)
    (d__law_by : FnG S.K "_law_by" "_law_by" "_law_by" s__law_by)
    (d__law_made : FnG S.K "_law_made" "_law_made" "_law_made" s__law_made)
    (d__law_texts_right : FnG S.K "_law_texts_right" "_law_texts_right" "_law_texts_right" s__law_texts_right)
    (e_RowWalk : ClG S.K "RowWalk" (S.ct 0))
    (e_Alike : ClG S.K "Alike" (S.ct 1))
    (e_Parted : ClG S.K "Parted" (S.ct 2))
    (a_1_rows : PySem.W.findIn S.K (.ref (S.ct 1)) "rows" = some none)
    (a_0_other : PySem.W.findIn S.K (.ref (S.ct 0)) "other" = some none)
    (a_0_one : PySem.W.findIn S.K (.ref (S.ct 0)) "one" = some none)
    (a_0_kind : PySem.W.findIn S.K (.ref (S.ct 0)) "kind" = some none)
    (a_2_text : PySem.W.findIn S.K (.ref (S.ct 2)) "text" = some none)
    (zc1 : PySem.W.specialIn S.K (.builtin "object.__class__") "__get__" = some (some (.builtin "getset_descriptor.__get__")))
    (zc2 : PySem.W.takesIn S.K (.builtin "object.__class__") = some true)
    (i_Alike_1 : PySem.W.kitOne S.K (.ref (S.ct 1)) (.ref (S.ct 1)) = some true)
    (i_Alike_2 : PySem.W.kitOne S.K (.ref (S.ct 2)) (.ref (S.ct 1)) = some false)
    (i_Alike_list : PySem.W.kitOne S.K (.type "list") (.ref (S.ct 1)) = some false)
    (i_Alike_int : PySem.W.kitOne S.K (.type "int") (.ref (S.ct 1)) = some false)
    (i_Parted_1 : PySem.W.kitOne S.K (.ref (S.ct 1)) (.ref (S.ct 2)) = some false)
    (i_Parted_2 : PySem.W.kitOne S.K (.ref (S.ct 2)) (.ref (S.ct 2)) = some true)
    (i_Parted_list : PySem.W.kitOne S.K (.type "list") (.ref (S.ct 2)) = some false)
    (i_Parted_int : PySem.W.kitOne S.K (.type "int") (.ref (S.ct 2)) = some false)
    (ne_Alike : PySem.W.findIn S.K (.ref (S.ct 1)) "__ne__" = some (some (.builtin "object.__ne__")))
    (nf_Alike_2 : PySem.W.notFirst S.K (S.ct 1) (.ref (S.ct 2)) = true)
    (ne_Parted : PySem.W.findIn S.K (.ref (S.ct 2)) "__ne__" = some (some (.builtin "object.__ne__")))
    (nf_Parted_1 : PySem.W.notFirst S.K (S.ct 2) (.ref (S.ct 1)) = true)
    (n_int : mg "int" = none)
    (n_len : mg "len" = none)
    (n_sum : mg "sum" = none)
    (n_tuple : mg "tuple" = none)
    (n_range : mg "range" = none)
    (n_list : mg "list" = none)
    (n_isinstance : mg "isinstance" = none)
    (n_str : mg "str" = none)
    (i_LONGEST : ∃ t, mg "LONGEST" = some (.int 6 t))
    (n_all : mg "all" = none)
    (n_zip : mg "zip" = none)
    (n_bool : mg "bool" = none)
    (n_dict : mg "dict" = none)
    (n_any : mg "any" = none)
    (n_enumerate : mg "enumerate" = none)
    (g_CONVERSIONS : mg "CONVERSIONS" = some (.ref q_CONVERSIONS))
    (l_CONVERSIONS : ∀ H, SqT S.K H q_CONVERSIONS [.str "all", .str "both", .str "care", .str "lone", .str "lones", .str "pairs"])
    (g_KINDS : mg "KINDS" = some (.ref q_KINDS))
    (l_KINDS : ∀ H, SqT S.K H q_KINDS [.str "any", .str "bare", .str "lone", .str "paired"])
    (g_SIGNS : mg "SIGNS" = some (.ref q_SIGNS))
    (l_SIGNS : ∀ H, SqT S.K H q_SIGNS [.str "a", .str "n", .str "r"])
    (g__MADE_OF : mg "_MADE_OF" = some (.ref q__MADE_OF))
    (Dt__MADE_OF : DictG S.K S.w q__MADE_OF)
    (k_MADE_OF_any : PySem.W.nsIn S.K q__MADE_OF "any" = some (some (.ref q_MADE_OF_any)))
    (lk_MADE_OF_any : ∀ H, SqT S.K H q_MADE_OF_any [.str "a", .str "n", .str "r"])
    (k_MADE_OF_bare : PySem.W.nsIn S.K q__MADE_OF "bare" = some (some (.ref q_MADE_OF_bare)))
    (lk_MADE_OF_bare : ∀ H, SqT S.K H q_MADE_OF_bare [.str "a", .str "n"])
    (k_MADE_OF_lone : PySem.W.nsIn S.K q__MADE_OF "lone" = some (some (.ref q_MADE_OF_lone)))
    (lk_MADE_OF_lone : ∀ H, SqT S.K H q_MADE_OF_lone [.str "a", .str "r"])
    (g__PLAIN : mg "_PLAIN" = some (.ref q__PLAIN))
    (Dt__PLAIN : DictG S.K S.w q__PLAIN)
    (k_PLAIN_all : ∃ tk, PySem.W.nsIn S.K q__PLAIN "all" = some (some (.str "rn" tk)))
    (k_PLAIN_both : PySem.W.nsIn S.K q__PLAIN "both" = some none)
    (k_PLAIN_care : PySem.W.nsIn S.K q__PLAIN "care" = some none)
    (k_PLAIN_lone : ∃ tk, PySem.W.nsIn S.K q__PLAIN "lone" = some (some (.str "r" tk)))
    (k_PLAIN_lones : PySem.W.nsIn S.K q__PLAIN "lones" = some none)
    (k_PLAIN_pairs : PySem.W.nsIn S.K q__PLAIN "pairs" = some none)
    (g__HELD : mg "_HELD" = some (.ref q__HELD))
    (Dt__HELD : DictG S.K S.w q__HELD)
    (k_HELD_all : PySem.W.nsIn S.K q__HELD "all" = some none)
    (k_HELD_both : PySem.W.nsIn S.K q__HELD "both" = some (some (.ref q_HELD_both)))
    (lk_HELD_both : PairG S.K q_HELD_both "" "n")
    (k_HELD_care : PySem.W.nsIn S.K q__HELD "care" = some none)
    (k_HELD_lone : PySem.W.nsIn S.K q__HELD "lone" = some none)
    (k_HELD_lones : PySem.W.nsIn S.K q__HELD "lones" = some (some (.ref q_HELD_lones)))
    (lk_HELD_lones : PairG S.K q_HELD_lones "r" "n")
    (k_HELD_pairs : PySem.W.nsIn S.K q__HELD "pairs" = some (some (.ref q_HELD_pairs)))
    (lk_HELD_pairs : PairG S.K q_HELD_pairs "" "r")
    (g__REPLACED : mg "_REPLACED" = some (.ref q__REPLACED))
    (Dr__REPLACED : DictG S.K S.w q__REPLACED)
    (r_REPLACED_all : PySem.W.nsIn S.K q__REPLACED "all" = some (some (.ref q_REPLACED_all)))
    (lr_REPLACED_all : ∀ H, SqT S.K H q_REPLACED_all [.ref q_REPLACED_all0])
    (pr_REPLACED_all0 : PairG S.K q_REPLACED_all0 "n" "rn")
    (r_REPLACED_both : PySem.W.nsIn S.K q__REPLACED "both" = some (some (.ref q_REPLACED_both)))
    (lr_REPLACED_both : ∀ H, SqT S.K H q_REPLACED_both [.ref q_REPLACED_both0, .ref q_REPLACED_both1])
    (pr_REPLACED_both0 : PairG S.K q_REPLACED_both0 "rn" "n")
    (pr_REPLACED_both1 : PairG S.K q_REPLACED_both1 "r" "n")
    (r_REPLACED_care : PySem.W.nsIn S.K q__REPLACED "care" = some (some (.ref q_REPLACED_care)))
    (lr_REPLACED_care : ∀ H, SqT S.K H q_REPLACED_care [.ref q_REPLACED_care0, .ref q_REPLACED_care1])
    (pr_REPLACED_care0 : PairG S.K q_REPLACED_care0 "rn" "n")
    (pr_REPLACED_care1 : PairG S.K q_REPLACED_care1 "n" "rn")
    (r_REPLACED_lone : PySem.W.nsIn S.K q__REPLACED "lone" = some (some (.ref q_REPLACED_lone)))
    (lr_REPLACED_lone : ∀ H, SqT S.K H q_REPLACED_lone [.ref q_REPLACED_lone0])
    (pr_REPLACED_lone0 : PairG S.K q_REPLACED_lone0 "n" "r")
    (r_REPLACED_lones : PySem.W.nsIn S.K q__REPLACED "lones" = some (some (.ref q_REPLACED_lones)))
    (lr_REPLACED_lones : ∀ H, SqT S.K H q_REPLACED_lones [.ref q_REPLACED_lones0, .ref q_REPLACED_lones1, .ref q_REPLACED_lones2])
    (pr_REPLACED_lones0 : PairG S.K q_REPLACED_lones0 "rn" "x")
    (pr_REPLACED_lones1 : PairG S.K q_REPLACED_lones1 "r" "n")
    (pr_REPLACED_lones2 : PairG S.K q_REPLACED_lones2 "x" "rn")
    (r_REPLACED_pairs : PySem.W.nsIn S.K q__REPLACED "pairs" = some (some (.ref q_REPLACED_pairs)))
    (lr_REPLACED_pairs : ∀ H, SqT S.K H q_REPLACED_pairs [.ref q_REPLACED_pairs0])
    (pr_REPLACED_pairs0 : PairG S.K q_REPLACED_pairs0 "rn" "n") :
    ∀ base : Heap, FnOk S.P S.w S.K mg base CX0 9 fa fdL ["script"] (spLawR S.K) := by
  obtain ⟨f__law_number, fd__law_number, F__law_number, m__law_number⟩ := d__law_number.go X G
  obtain ⟨f__law_take, fd__law_take, F__law_take, m__law_take⟩ := d__law_take.go X G
  obtain ⟨f__law_pick, fd__law_pick, F__law_pick, m__law_pick⟩ := d__law_pick.go X G
  obtain ⟨f__law_way, fd__law_way, F__law_way, m__law_way⟩ := d__law_way.go X G
  obtain ⟨f_Alike_init, fd_Alike_init, F_Alike_init, m_Alike_init, j_Alike_init, l_Alike_init⟩ := d_Alike_init
  obtain ⟨f_is_conversion, fd_is_conversion, F_is_conversion, m_is_conversion⟩ := d_is_conversion.go X G
  obtain ⟨f_is_way, fd_is_way, F_is_way, m_is_way⟩ := d_is_way.go X G
  obtain ⟨f_check_way, fd_check_way, F_check_way, m_check_way⟩ := d_check_way.go X G
  obtain ⟨f_check_kind, fd_check_kind, F_check_kind, m_check_kind⟩ := d_check_kind.go X G
  obtain ⟨f__check_comparing, fd__check_comparing, F__check_comparing, m__check_comparing⟩ := d__check_comparing.go X G
  obtain ⟨f_starting, fd_starting, F_starting, m_starting⟩ := d_starting.go X G
  obtain ⟨f_RowWalk_first, fd_RowWalk_first, F_RowWalk_first, m_RowWalk_first, j_RowWalk_first, l_RowWalk_first⟩ := d_RowWalk_first
  obtain ⟨f_coming, fd_coming, F_coming, m_coming⟩ := d_coming.go X G
  obtain ⟨f_RowWalk_signs, fd_RowWalk_signs, F_RowWalk_signs, m_RowWalk_signs, j_RowWalk_signs, l_RowWalk_signs⟩ := d_RowWalk_signs
  obtain ⟨f__read_one, fd__read_one, F__read_one, m__read_one⟩ := d__read_one.go X G
  obtain ⟨f__read_all, fd__read_all, F__read_all, m__read_all⟩ := d__read_all.go X G
  obtain ⟨f_ending, fd_ending, F_ending, m_ending⟩ := d_ending.go X G
  obtain ⟨f_RowWalk_is_fine, fd_RowWalk_is_fine, F_RowWalk_is_fine, m_RowWalk_is_fine, j_RowWalk_is_fine, l_RowWalk_is_fine⟩ := d_RowWalk_is_fine
  obtain ⟨f_is_text, fd_is_text, F_is_text, m_is_text⟩ := d_is_text.go X G
  obtain ⟨f_is_standing, fd_is_standing, F_is_standing, m_is_standing⟩ := d_is_standing.go X G
  obtain ⟨f_RowWalk_is_node, fd_RowWalk_is_node, F_RowWalk_is_node, m_RowWalk_is_node, j_RowWalk_is_node, l_RowWalk_is_node⟩ := d_RowWalk_is_node
  obtain ⟨f_step, fd_step, F_step, m_step⟩ := d_step.go X G
  obtain ⟨f_without_common, fd_without_common, F_without_common, m_without_common⟩ := d_without_common.go X G
  obtain ⟨f_is_half, fd_is_half, F_is_half, m_is_half⟩ := d_is_half.go X G
  obtain ⟨f_RowWalk_behind, fd_RowWalk_behind, F_RowWalk_behind, m_RowWalk_behind, j_RowWalk_behind, l_RowWalk_behind⟩ := d_RowWalk_behind
  obtain ⟨f_is_closed, fd_is_closed, F_is_closed, m_is_closed⟩ := d_is_closed.go X G
  obtain ⟨f_RowWalk_init, fd_RowWalk_init, F_RowWalk_init, m_RowWalk_init, j_RowWalk_init, l_RowWalk_init⟩ := d_RowWalk_init
  obtain ⟨f_are_rows, fd_are_rows, F_are_rows, m_are_rows⟩ := d_are_rows.go X G
  obtain ⟨f_Alike_shows, fd_Alike_shows, F_Alike_shows, m_Alike_shows, j_Alike_shows, l_Alike_shows⟩ := d_Alike_shows
  obtain ⟨f_Alike_eq, fd_Alike_eq, F_Alike_eq, m_Alike_eq, j_Alike_eq, l_Alike_eq⟩ := d_Alike_eq
  obtain ⟨f_Parted_init, fd_Parted_init, F_Parted_init, m_Parted_init, j_Parted_init, l_Parted_init⟩ := d_Parted_init
  obtain ⟨f_fits, fd_fits, F_fits, m_fits⟩ := d_fits.go X G
  obtain ⟨f_turn, fd_turn, F_turn, m_turn⟩ := d_turn.go X G
  obtain ⟨f_is_parting, fd_is_parting, F_is_parting, m_is_parting⟩ := d_is_parting.go X G
  obtain ⟨f_Parted_shows, fd_Parted_shows, F_Parted_shows, m_Parted_shows, j_Parted_shows, l_Parted_shows⟩ := d_Parted_shows
  obtain ⟨f_Parted_eq, fd_Parted_eq, F_Parted_eq, m_Parted_eq, j_Parted_eq, l_Parted_eq⟩ := d_Parted_eq
  obtain ⟨f__law_equal_right, fd__law_equal_right, F__law_equal_right, m__law_equal_right⟩ := d__law_equal_right.go X G
  obtain ⟨f__law_first, fd__law_first, F__law_first, m__law_first⟩ := d__law_first.go X G
  obtain ⟨f__law_sign, fd__law_sign, F__law_sign, m__law_sign⟩ := d__law_sign.go X G
  obtain ⟨f__law_read, fd__law_read, F__law_read, m__law_read⟩ := d__law_read.go X G
  obtain ⟨f__law_behind, fd__law_behind, F__law_behind, m__law_behind⟩ := d__law_behind.go X G
  obtain ⟨f__law_can, fd__law_can, F__law_can, m__law_can⟩ := d__law_can.go X G
  obtain ⟨f__law_walk, fd__law_walk, F__law_walk, m__law_walk⟩ := d__law_walk.go X G
  obtain ⟨f__law_end, fd__law_end, F__law_end, m__law_end⟩ := d__law_end.go X G
  obtain ⟨f__law_is_even, fd__law_is_even, F__law_is_even, m__law_is_even⟩ := d__law_is_even.go X G
  obtain ⟨f__law_are_rows, fd__law_are_rows, F__law_are_rows, m__law_are_rows⟩ := d__law_are_rows.go X G
  obtain ⟨f__law_lists_right, fd__law_lists_right, F__law_lists_right, m__law_lists_right⟩ := d__law_lists_right.go X G
  obtain ⟨f__law_text, fd__law_text, F__law_text, m__law_text⟩ := d__law_text.go X G
  obtain ⟨f__law_is_of, fd__law_is_of, F__law_is_of, m__law_is_of⟩ := d__law_is_of.go X G
  obtain ⟨f__law_by, fd__law_by, F__law_by, m__law_by⟩ := d__law_by.go X G
  obtain ⟨f__law_made, fd__law_made, F__law_made, m__law_made⟩ := d__law_made.go X G
  obtain ⟨f__law_texts_right, fd__law_texts_right, F__law_texts_right, m__law_texts_right⟩ := d__law_texts_right.go X G
  have z_CONVERSIONS := fun F ι H => rv_strs (S := S.toSg) (us := ["all", "both", "care", "lone", "lones", "pairs"]) (ls := [[97, 108, 108], [98, 111, 116, 104], [99, 97, 114, 101], [108, 111, 110, 101], [108, 111, 110, 101, 115], [112, 97, 105, 114, 115]]) l_CONVERSIONS (by rfl) F ι H
  have z_KINDS := fun F ι H => rv_strs (S := S.toSg) (us := ["any", "bare", "lone", "paired"]) (ls := [[97, 110, 121], [98, 97, 114, 101], [108, 111, 110, 101], [112, 97, 105, 114, 101, 100]]) l_KINDS (by rfl) F ι H
  have z_SIGNS := fun F ι H => rv_strs (S := S.toSg) (us := ["a", "n", "r"]) (ls := [[97], [110], [114]]) l_SIGNS (by rfl) F ι H
  have t__MADE_OF : KTab S.toSg q__MADE_OF kt__MADE_OF := (kTab_cons (kEnt_ref Dt__MADE_OF k_MADE_OF_any (by rfl) (rv_strs (us := ["a", "n", "r"]) (ls := [[97], [110], [114]]) lk_MADE_OF_any (by rfl))) (kTab_cons (kEnt_ref Dt__MADE_OF k_MADE_OF_bare (by rfl) (rv_strs (us := ["a", "n"]) (ls := [[97], [110]]) lk_MADE_OF_bare (by rfl))) (kTab_cons (kEnt_ref Dt__MADE_OF k_MADE_OF_lone (by rfl) (rv_strs (us := ["a", "r"]) (ls := [[97], [114]]) lk_MADE_OF_lone (by rfl))) kTab_nil)))
  have t__PLAIN : KTab S.toSg q__PLAIN kt__PLAIN := (kTab_cons (kEnt_str Dt__PLAIN k_PLAIN_all (by rfl) (by rfl)) (kTab_cons (kEnt_none Dt__PLAIN k_PLAIN_both (by rfl)) (kTab_cons (kEnt_none Dt__PLAIN k_PLAIN_care (by rfl)) (kTab_cons (kEnt_str Dt__PLAIN k_PLAIN_lone (by rfl) (by rfl)) (kTab_cons (kEnt_none Dt__PLAIN k_PLAIN_lones (by rfl)) (kTab_cons (kEnt_none Dt__PLAIN k_PLAIN_pairs (by rfl)) kTab_nil))))))
  have t__HELD : KTab S.toSg q__HELD kt__HELD := (kTab_cons (kEnt_none Dt__HELD k_HELD_all (by rfl)) (kTab_cons (kEnt_ref Dt__HELD k_HELD_both (by rfl) (lk_HELD_both.rv (by rfl) (by rfl))) (kTab_cons (kEnt_none Dt__HELD k_HELD_care (by rfl)) (kTab_cons (kEnt_none Dt__HELD k_HELD_lone (by rfl)) (kTab_cons (kEnt_ref Dt__HELD k_HELD_lones (by rfl) (lk_HELD_lones.rv (by rfl) (by rfl))) (kTab_cons (kEnt_ref Dt__HELD k_HELD_pairs (by rfl) (lk_HELD_pairs.rv (by rfl) (by rfl))) kTab_nil))))))
  have r__REPLACED : RTab S.toSg q__REPLACED rt__REPLACED := (rTab_cons (rEnt (as := [q_REPLACED_all0]) Dr__REPLACED r_REPLACED_all (by rfl) lr_REPLACED_all (pairsG_cons pr_REPLACED_all0 (by decide +kernel) (by rfl) (by rfl) (by decide) pairsG_nil)) (rTab_cons (rEnt (as := [q_REPLACED_both0, q_REPLACED_both1]) Dr__REPLACED r_REPLACED_both (by rfl) lr_REPLACED_both (pairsG_cons pr_REPLACED_both0 (by decide +kernel) (by rfl) (by rfl) (by decide) (pairsG_cons pr_REPLACED_both1 (by decide +kernel) (by rfl) (by rfl) (by decide) pairsG_nil))) (rTab_cons (rEnt (as := [q_REPLACED_care0, q_REPLACED_care1]) Dr__REPLACED r_REPLACED_care (by rfl) lr_REPLACED_care (pairsG_cons pr_REPLACED_care0 (by decide +kernel) (by rfl) (by rfl) (by decide) (pairsG_cons pr_REPLACED_care1 (by decide +kernel) (by rfl) (by rfl) (by decide) pairsG_nil))) (rTab_cons (rEnt (as := [q_REPLACED_lone0]) Dr__REPLACED r_REPLACED_lone (by rfl) lr_REPLACED_lone (pairsG_cons pr_REPLACED_lone0 (by decide +kernel) (by rfl) (by rfl) (by decide) pairsG_nil)) (rTab_cons (rEnt (as := [q_REPLACED_lones0, q_REPLACED_lones1, q_REPLACED_lones2]) Dr__REPLACED r_REPLACED_lones (by rfl) lr_REPLACED_lones (pairsG_cons pr_REPLACED_lones0 (by decide +kernel) (by rfl) (by rfl) (by decide) (pairsG_cons pr_REPLACED_lones1 (by decide +kernel) (by rfl) (by rfl) (by decide) (pairsG_cons pr_REPLACED_lones2 (by decide +kernel) (by rfl) (by rfl) (by decide) pairsG_nil)))) (rTab_cons (rEnt (as := [q_REPLACED_pairs0]) Dr__REPLACED r_REPLACED_pairs (by rfl) lr_REPLACED_pairs (pairsG_cons pr_REPLACED_pairs0 (by decide +kernel) (by rfl) (by rfl) (by decide) pairsG_nil)) rTab_nil))))))
  have o_RowWalk : ObjC S 0 := ⟨e_RowWalk.cl, e_RowWalk.ha, zc1, zc2, e_RowWalk.hm⟩
  have w_RowWalk := PySem.W.mg_of X G e_RowWalk.g
  have o_Alike : ObjC S 1 := ⟨e_Alike.cl, e_Alike.ha, zc1, zc2, e_Alike.hm⟩
  have w_Alike := PySem.W.mg_of X G e_Alike.g
  have o_Parted : ObjC S 2 := ⟨e_Parted.cl, e_Parted.ha, zc1, zc2, e_Parted.hm⟩
  have w_Parted := PySem.W.mg_of X G e_Parted.g
  have f_rows : Fld S "rows" [(1, 0)] := (fld1 (fldP (l := ["rows"]) e_Alike.cl a_1_rows hn1 (by decide +kernel)))
  have f_other : Fld S "other" [(0, 1)] := (fld1 (fldP (l := ["one", "other", "kind"]) e_RowWalk.cl a_0_other hn0 (by decide +kernel)))
  have f_one : Fld S "one" [(0, 0)] := (fld1 (fldP (l := ["one", "other", "kind"]) e_RowWalk.cl a_0_one hn0 (by decide +kernel)))
  have f_kind : Fld S "kind" [(0, 2)] := (fld1 (fldP (l := ["one", "other", "kind"]) e_RowWalk.cl a_0_kind hn0 (by decide +kernel)))
  have f_text : Fld S "text" [(2, 0)] := (fld1 (fldP (l := ["text"]) e_Parted.cl a_2_text hn2 (by decide +kernel)))
  have vx_Alike : IsT S (.ref (S.ct 1)) (tbOwnX [(1, true), (2, false)] ["list", "int"]) := isT2X o_Alike o_Parted i_Alike_1 i_Alike_2 i_Alike_list i_Alike_int
  have vx_Parted : IsT S (.ref (S.ct 2)) (tbOwnX [(1, false), (2, true)] ["list", "int"]) := isT2X o_Alike o_Parted i_Parted_1 i_Parted_2 i_Parted_list i_Parted_int
  have y_Alike : EqC S 1 f_Alike_eq [1, 2] := eqC2 m_Alike_eq j_Alike_eq ne_Alike o_Alike o_Parted nf_Alike_2
  have y_Parted : EqC S 2 f_Parted_eq [2, 1] := eqC2 m_Parted_eq j_Parted_eq ne_Parted o_Parted o_Alike nf_Parted_1
  intro base
  have c__law_number : Cal S mg base "_law_number" 1 ["script", "index"] 2 K04.m__law_number f__law_number fd__law_number := ⟨ok__law_number (S := S) (mg := mg) (base := base) F__law_number n_int n_len n_sum, F__law_number.kp, bd__law_number F__law_number, m__law_number⟩
  have c__law_take : Cal S mg base "_law_take" 2 ["draw", "many"] 2 K04.m__law_take f__law_take fd__law_take := ⟨ok__law_take (S := S) (mg := mg) (base := base) F__law_take n_int c__law_number, F__law_take.kp, bd__law_take F__law_take, m__law_take⟩
  have c__law_pick : Cal S mg base "_law_pick" 3 ["draw", "things"] 2 K04.m__law_pick f__law_pick fd__law_pick := ⟨ok__law_pick (S := S) (mg := mg) (base := base) F__law_pick c__law_take n_len, F__law_pick.kp, bd__law_pick F__law_pick, m__law_pick⟩
  have c__law_way : Cal S mg base "_law_way" 4 ["draw", "most"] 2 K04.m__law_way f__law_way fd__law_way := ⟨ok__law_way (S := S) (mg := mg) (base := base) F__law_way n_tuple n_range c__law_take c__law_pick, F__law_way.kp, bd__law_way F__law_way, m__law_way⟩
  have q_Alike : Mak S mg base 1 "Alike" 1 ["self", "rows"] 2 K04.m_Alike_init f_Alike_init fd_Alike_init 1 := ⟨ok_Alike_init (S := S) (mg := mg) (base := base) F_Alike_init f_rows n_list, ⟨e_Alike.mks, m_Alike_init, j_Alike_init, e_Alike.kp⟩, bd_Alike_init F_Alike_init, w_Alike, by rw [hn1]; rfl⟩
  have c_is_conversion : Cal S mg base "is_conversion" 1 ["word"] 1 K04.m_is_conversion f_is_conversion fd_is_conversion := ⟨ok_is_conversion (S := S) (mg := mg) (base := base) F_is_conversion n_isinstance n_str g_CONVERSIONS z_CONVERSIONS, F_is_conversion.kp, bd_is_conversion F_is_conversion, m_is_conversion⟩
  have c_is_way : Cal S mg base "is_way" 2 ["way"] 1 K04.m_is_way f_is_way fd_is_way := ⟨ok_is_way (S := S) (mg := mg) (base := base) F_is_way n_isinstance n_tuple n_len i_LONGEST n_all c_is_conversion, F_is_way.kp, bd_is_way F_is_way, m_is_way⟩
  have c_check_way : Cal S mg base "check_way" 3 ["way"] 1 K04.m_check_way f_check_way fd_check_way := ⟨ok_check_way (S := S) (mg := mg) (base := base) F_check_way c_is_way, F_check_way.kp, bd_check_way F_check_way, m_check_way⟩
  have c_check_kind : Cal S mg base "check_kind" 1 ["kind"] 1 K04.m_check_kind f_check_kind fd_check_kind := ⟨ok_check_kind (S := S) (mg := mg) (base := base) F_check_kind n_isinstance n_str g_KINDS z_KINDS, F_check_kind.kp, bd_check_kind F_check_kind, m_check_kind⟩
  have c__check : Cal S mg base "_check" 4 ["one", "other", "kind"] 3 K04.m__check_comparing f__check_comparing fd__check_comparing := ⟨ok__check_comparing (S := S) (mg := mg) (base := base) F__check_comparing c_check_way c_check_kind, F__check_comparing.kp, bd__check_comparing F__check_comparing, m__check_comparing⟩
  have c_starting : Cal S mg base "starting" 1 ["way"] 1 K04.m_starting f_starting fd_starting := ⟨ok_starting (S := S) (mg := mg) (base := base) F_starting n_len, F_starting.kp, bd_starting F_starting, m_starting⟩
  have k_RowWalk_first : Met S mg base 0 "first" 2 ["self"] 1 K04.m_RowWalk_first f_RowWalk_first fd_RowWalk_first := ⟨ok_RowWalk_first (S := S) (mg := mg) (base := base) F_RowWalk_first c_starting f_other f_one, e_RowWalk.cl, ⟨m_RowWalk_first, j_RowWalk_first, l_RowWalk_first⟩, bd_RowWalk_first F_RowWalk_first, by rw [hn0]; decide +kernel⟩
  have c_coming : Cal S mg base "coming" 1 ["kind", "waits"] 2 K04.m_coming f_coming fd_coming := ⟨ok_coming (S := S) (mg := mg) (base := base) F_coming g__MADE_OF t__MADE_OF, F_coming.kp, bd_coming F_coming, m_coming⟩
  have k_RowWalk_signs : Met S mg base 0 "signs" 2 ["self", "node"] 2 K04.m_RowWalk_signs f_RowWalk_signs fd_RowWalk_signs := ⟨ok_RowWalk_signs (S := S) (mg := mg) (base := base) F_RowWalk_signs c_coming f_kind, e_RowWalk.cl, ⟨m_RowWalk_signs, j_RowWalk_signs, l_RowWalk_signs⟩, bd_RowWalk_signs F_RowWalk_signs, by rw [hn0]; decide +kernel⟩
  have c__read_one : Cal S mg base "_read_one" 1 ["word", "flag", "sign"] 3 K04.m__read_one f__read_one fd__read_one := ⟨ok__read_one (S := S) (mg := mg) (base := base) F__read_one g__PLAIN t__PLAIN g__HELD t__HELD, F__read_one.kp, bd__read_one F__read_one, m__read_one⟩
  have c__read_all : Cal S mg base "_read_all" 2 ["word", "flag", "text"] 3 K04.m__read_all f__read_all fd__read_all := ⟨ok__read_all (S := S) (mg := mg) (base := base) F__read_all c__read_one, F__read_all.kp, bd__read_all F__read_all, m__read_all⟩
  have c_ending : Cal S mg base "ending" 3 ["way", "standing"] 2 K04.m_ending f_ending fd_ending := ⟨ok_ending (S := S) (mg := mg) (base := base) F_ending n_zip c__read_all g__HELD t__HELD, F_ending.kp, bd_ending F_ending, m_ending⟩
  have k_RowWalk_is_fine : Met S mg base 0 "is_fine" 4 ["self", "node"] 2 K04.m_RowWalk_is_fine f_RowWalk_is_fine fd_RowWalk_is_fine := ⟨ok_RowWalk_is_fine (S := S) (mg := mg) (base := base) F_RowWalk_is_fine c_ending f_one f_other, e_RowWalk.cl, ⟨m_RowWalk_is_fine, j_RowWalk_is_fine, l_RowWalk_is_fine⟩, bd_RowWalk_is_fine F_RowWalk_is_fine, by rw [hn0]; decide +kernel⟩
  have c_is_text : Cal S mg base "is_text" 1 ["text"] 1 K04.m_is_text f_is_text fd_is_text := ⟨ok_is_text (S := S) (mg := mg) (base := base) F_is_text n_isinstance n_str n_all g_SIGNS z_SIGNS, F_is_text.kp, bd_is_text F_is_text, m_is_text⟩
  have c_is_standing : Cal S mg base "is_standing" 1 ["way", "standing"] 2 K04.m_is_standing f_is_standing fd_is_standing := ⟨ok_is_standing (S := S) (mg := mg) (base := base) F_is_standing n_isinstance n_tuple n_len n_all n_zip n_bool g__PLAIN t__PLAIN, F_is_standing.kp, bd_is_standing F_is_standing, m_is_standing⟩
  have k_RowWalk_is_node : Met S mg base 0 "is_node" 2 ["self", "node"] 2 K04.m_RowWalk_is_node f_RowWalk_is_node fd_RowWalk_is_node := ⟨ok_RowWalk_is_node (S := S) (mg := mg) (base := base) F_RowWalk_is_node n_isinstance n_tuple n_len c_is_standing f_one f_other n_bool c_is_text, e_RowWalk.cl, ⟨m_RowWalk_is_node, j_RowWalk_is_node, l_RowWalk_is_node⟩, bd_RowWalk_is_node F_RowWalk_is_node, by rw [hn0]; decide +kernel⟩
  have c_step : Cal S mg base "step" 3 ["way", "standing", "sign"] 3 K04.m_step f_step fd_step := ⟨ok_step (S := S) (mg := mg) (base := base) F_step n_zip c__read_all n_tuple, F_step.kp, bd_step F_step, m_step⟩
  have c_without_common : Cal S mg base "without_common" 1 ["first", "second"] 2 K04.m_without_common f_without_common fd_without_common := ⟨ok_without_common (S := S) (mg := mg) (base := base) F_without_common n_len, F_without_common.kp, bd_without_common F_without_common, m_without_common⟩
  have c_is_half : Cal S mg base "is_half" 1 ["kind", "sign"] 2 K04.m_is_half f_is_half fd_is_half := ⟨ok_is_half (S := S) (mg := mg) (base := base) F_is_half , F_is_half.kp, bd_is_half F_is_half, m_is_half⟩
  have k_RowWalk_behind : Met S mg base 0 "behind" 4 ["self", "node", "sign"] 3 K04.m_RowWalk_behind f_RowWalk_behind fd_RowWalk_behind := ⟨ok_RowWalk_behind (S := S) (mg := mg) (base := base) F_RowWalk_behind c_step f_one f_other c_without_common c_is_half f_kind, e_RowWalk.cl, ⟨m_RowWalk_behind, j_RowWalk_behind, l_RowWalk_behind⟩, bd_RowWalk_behind F_RowWalk_behind, by rw [hn0]; decide +kernel⟩
  have c_is_closed : Cal S mg base "is_closed" 5 ["walk", "nodes"] 2 K04.m_is_closed f_is_closed fd_is_closed := ⟨ok_is_closed (S := S) (mg := mg) (base := base) F_is_closed n_all k_RowWalk_is_node k_RowWalk_first k_RowWalk_is_fine k_RowWalk_signs k_RowWalk_behind, F_is_closed.kp, bd_is_closed F_is_closed, m_is_closed⟩
  have q_RowWalk : Mak S mg base 0 "RowWalk" 1 ["self", "one", "other", "kind"] 4 K04.m_RowWalk_init f_RowWalk_init fd_RowWalk_init 3 := ⟨ok_RowWalk_init (S := S) (mg := mg) (base := base) F_RowWalk_init f_one f_other f_kind, ⟨e_RowWalk.mks, m_RowWalk_init, j_RowWalk_init, e_RowWalk.kp⟩, bd_RowWalk_init F_RowWalk_init, w_RowWalk, by rw [hn0]; rfl⟩
  have c_are_rows : Cal S mg base "are_rows" 6 ["one", "other", "kind", "rows"] 4 K04.m_are_rows f_are_rows fd_are_rows := ⟨ok_are_rows (S := S) (mg := mg) (base := base) F_are_rows c_is_closed q_RowWalk, F_are_rows.kp, bd_are_rows F_are_rows, m_are_rows⟩
  have k_Alike_shows : Met S mg base 1 "shows" 7 ["self", "one", "other", "kind"] 4 K04.m_Alike_shows f_Alike_shows fd_Alike_shows := ⟨ok_Alike_shows (S := S) (mg := mg) (base := base) F_Alike_shows c__check c_are_rows f_rows, e_Alike.cl, ⟨m_Alike_shows, j_Alike_shows, l_Alike_shows⟩, bd_Alike_shows F_Alike_shows, by rw [hn1]; decide +kernel⟩
  have k_Alike___eq__ : Met S mg base 1 "__eq__" 1 ["self", "other"] 2 K04.m_Alike_eq f_Alike_eq fd_Alike_eq := ⟨ok_Alike_eq (S := S) (mg := mg) (base := base) F_Alike_eq n_isinstance w_Alike vx_Alike f_rows, e_Alike.cl, ⟨m_Alike_eq, j_Alike_eq, l_Alike_eq⟩, bd_Alike_eq F_Alike_eq, by rw [hn1]; decide +kernel⟩
  have q_Parted : Mak S mg base 2 "Parted" 1 ["self", "text"] 2 K04.m_Parted_init f_Parted_init fd_Parted_init 1 := ⟨ok_Parted_init (S := S) (mg := mg) (base := base) F_Parted_init f_text, ⟨e_Parted.mks, m_Parted_init, j_Parted_init, e_Parted.kp⟩, bd_Parted_init F_Parted_init, w_Parted, by rw [hn2]; rfl⟩
  have c_fits : Cal S mg base "fits" 1 ["text", "kind"] 2 K04.m_fits f_fits fd_fits := ⟨ok_fits (S := S) (mg := mg) (base := base) F_fits , F_fits.kp, bd_fits F_fits, m_fits⟩
  have c_turn : Cal S mg base "turn" 1 ["way", "text"] 2 K04.m_turn f_turn fd_turn := ⟨ok_turn (S := S) (mg := mg) (base := base) F_turn g__REPLACED r__REPLACED, F_turn.kp, bd_turn F_turn, m_turn⟩
  have c_is_parting : Cal S mg base "is_parting" 2 ["one", "other", "kind", "text"] 4 K04.m_is_parting f_is_parting fd_is_parting := ⟨ok_is_parting (S := S) (mg := mg) (base := base) F_is_parting c_is_text c_fits c_turn, F_is_parting.kp, bd_is_parting F_is_parting, m_is_parting⟩
  have k_Parted_shows : Met S mg base 2 "shows" 5 ["self", "one", "other", "kind"] 4 K04.m_Parted_shows f_Parted_shows fd_Parted_shows := ⟨ok_Parted_shows (S := S) (mg := mg) (base := base) F_Parted_shows c__check c_is_parting f_text, e_Parted.cl, ⟨m_Parted_shows, j_Parted_shows, l_Parted_shows⟩, bd_Parted_shows F_Parted_shows, by rw [hn2]; decide +kernel⟩
  have k_Parted___eq__ : Met S mg base 2 "__eq__" 1 ["self", "other"] 2 K04.m_Parted_eq f_Parted_eq fd_Parted_eq := ⟨ok_Parted_eq (S := S) (mg := mg) (base := base) F_Parted_eq n_isinstance w_Parted vx_Parted f_text, e_Parted.cl, ⟨m_Parted_eq, j_Parted_eq, l_Parted_eq⟩, bd_Parted_eq F_Parted_eq, by rw [hn2]; decide +kernel⟩
  have c__law_equal_right : Cal S mg base "_law_equal_right" 3 ["rows"] 1 K04.m__law_equal_right f__law_equal_right fd__law_equal_right := ⟨ok__law_equal_right (S := S) (mg := mg) (base := base) F__law_equal_right n_list q_Alike f_rows k_Alike___eq__ y_Alike q_Parted k_Parted___eq__ y_Parted f_text, F__law_equal_right.kp, bd__law_equal_right F__law_equal_right, m__law_equal_right⟩
  have c__law_first : Cal S mg base "_law_first" 1 ["way"] 1 K04.m__law_first f__law_first fd__law_first := ⟨ok__law_first (S := S) (mg := mg) (base := base) F__law_first n_len, F__law_first.kp, bd__law_first F__law_first, m__law_first⟩
  have c__law_sign : Cal S mg base "_law_sign" 1 ["word", "is_held", "sign"] 3 K04.m__law_sign f__law_sign fd__law_sign := ⟨ok__law_sign (S := S) (mg := mg) (base := base) F__law_sign , F__law_sign.kp, bd__law_sign F__law_sign, m__law_sign⟩
  have c__law_read : Cal S mg base "_law_read" 2 ["way", "standing", "text"] 3 K04.m__law_read f__law_read fd__law_read := ⟨ok__law_read (S := S) (mg := mg) (base := base) F__law_read n_zip c__law_sign n_tuple, F__law_read.kp, bd__law_read F__law_read, m__law_read⟩
  have c__law_behind : Cal S mg base "_law_behind" 3 ["one", "other", "kind", "row", "sign"] 5 K04.m__law_behind f__law_behind fd__law_behind := ⟨ok__law_behind (S := S) (mg := mg) (base := base) F__law_behind c__law_read, F__law_behind.kp, bd__law_behind F__law_behind, m__law_behind⟩
  have c__law_can : Cal S mg base "_law_can" 1 ["kind", "is_open", "sign"] 3 K04.m__law_can f__law_can fd__law_can := ⟨ok__law_can (S := S) (mg := mg) (base := base) F__law_can , F__law_can.kp, bd__law_can F__law_can, m__law_can⟩
  have c__law_walk : Cal S mg base "_law_walk" 4 ["one", "other", "kind"] 3 K04.m__law_walk f__law_walk fd__law_walk := ⟨ok__law_walk (S := S) (mg := mg) (base := base) F__law_walk c__law_first n_dict n_len c__law_can c__law_behind n_list, F__law_walk.kp, bd__law_walk F__law_walk, m__law_walk⟩
  have c__law_end : Cal S mg base "_law_end" 2 ["way", "standing"] 2 K04.m__law_end f__law_end fd__law_end := ⟨ok__law_end (S := S) (mg := mg) (base := base) F__law_end n_zip c__law_sign, F__law_end.kp, bd__law_end F__law_end, m__law_end⟩
  have c__law_is_even : Cal S mg base "_law_is_even" 3 ["one", "other", "row"] 3 K04.m__law_is_even f__law_is_even fd__law_is_even := ⟨ok__law_is_even (S := S) (mg := mg) (base := base) F__law_is_even c__law_end, F__law_is_even.kp, bd__law_is_even F__law_is_even, m__law_is_even⟩
  have c__law_are_rows : Cal S mg base "_law_are_rows" 4 ["one", "other", "kind", "rows"] 4 K04.m__law_are_rows f__law_are_rows fd__law_are_rows := ⟨ok__law_are_rows (S := S) (mg := mg) (base := base) F__law_are_rows n_dict c__law_first c__law_is_even c__law_can c__law_behind, F__law_are_rows.kp, bd__law_are_rows F__law_are_rows, m__law_are_rows⟩
  have c__law_lists_right : Cal S mg base "_law_lists_right" 8 ["draw", "one", "other", "kind"] 4 K04.m__law_lists_right f__law_lists_right fd__law_lists_right := ⟨ok__law_lists_right (S := S) (mg := mg) (base := base) F__law_lists_right c__law_walk c__law_take n_len k_Alike_shows q_Alike c__law_are_rows, F__law_lists_right.kp, bd__law_lists_right F__law_lists_right, m__law_lists_right⟩
  have c__law_text : Cal S mg base "_law_text" 4 ["draw", "most"] 2 K04.m__law_text f__law_text fd__law_text := ⟨ok__law_text (S := S) (mg := mg) (base := base) F__law_text n_range c__law_take c__law_pick, F__law_text.kp, bd__law_text F__law_text, m__law_text⟩
  have c__law_is_of : Cal S mg base "_law_is_of" 1 ["text", "kind"] 2 K04.m__law_is_of f__law_is_of fd__law_is_of := ⟨ok__law_is_of (S := S) (mg := mg) (base := base) F__law_is_of n_list n_any, F__law_is_of.kp, bd__law_is_of F__law_is_of, m__law_is_of⟩
  have c__law_by : Cal S mg base "_law_by" 1 ["word", "text"] 2 K04.m__law_by f__law_by fd__law_by := ⟨ok__law_by (S := S) (mg := mg) (base := base) F__law_by n_enumerate, F__law_by.kp, bd__law_by F__law_by, m__law_by⟩
  have c__law_made : Cal S mg base "_law_made" 2 ["way", "text"] 2 K04.m__law_made f__law_made fd__law_made := ⟨ok__law_made (S := S) (mg := mg) (base := base) F__law_made c__law_by, F__law_made.kp, bd__law_made F__law_made, m__law_made⟩
  have c__law_texts_right : Cal S mg base "_law_texts_right" 6 ["draw", "one", "other", "kind"] 4 K04.m__law_texts_right f__law_texts_right fd__law_texts_right := ⟨ok__law_texts_right (S := S) (mg := mg) (base := base) F__law_texts_right n_range c__law_pick c__law_text n_all n_list c__law_is_of c__law_made k_Parted_shows q_Parted, F__law_texts_right.kp, bd__law_texts_right F__law_texts_right, m__law_texts_right⟩
  exact (ok_law (S := S) (mg := mg) (base := base) FL n_range c__law_way c__law_take c__law_pick c__law_lists_right c__law_texts_right c__law_equal_right c__law_walk).imp (law_imp tt)
end K04
namespace K04
open PySem PySem.Spec PyProof.Rows L2 RZ PpSet Rm

def mkS (P : Program) (w : World) (K : PySem.W.Frag) (C0 C1 C2 : Addr) : Se := ⟨⟨P, w, K, fun n => match n with | 0 => C0 | 1 => C1 | 2 => C2 | _ => 0, fun n => match n with | 0 => ["one", "other", "kind"] | 1 => ["rows"] | 2 => ["text"] | _ => []⟩, fun _ => 0⟩
theorem hfacts {P : Program} {w : World} {K : PySem.W.Frag} {h h0 : Heap} {mg : Str → Option Value} {f : Addr} (X : K.In h) (G : h.Ns mainGlobals mg) (hfa : mg ("law" : Str) = some (.ref f)) (c : He.SaysX h_fa h_fn h_ts [] h_ex w h0 K) :
    ∃ fd : FuncData, (∀ (s : Shared) (v : Value), BindsTo s fd ⟨[v], []⟩ [("script", v)]) ∧ ∀ base : Heap, K.In base → base.Ns mainGlobals mg → FnOk P w K mg base CX0 9 f fd ["script"] (spLawR K) := by
  obtain ⟨fd, F⟩ := c.t.d.def_ 52 (d := dfn "law" none "law" "law" s_law) (by rfl)
  have e := hfa.symm.trans (He.glo_ok X G (c.t.d.fact 52 (f := .glo "law") (by rfl)))
  cases e
  have b := FunD.bindsA (ps := ["script"]) F fun _ _ _ _ _ _ us hl => match us, hl with | [_], _ => rfl
  refine ⟨fd, fun s v => b s [v] rfl, fun base _ _ => ?_⟩
  exact all_S (S := mkS P w K (He.ga K "RowWalk") (He.ga K "Alike") (He.ga K "Parted")) (q_CONVERSIONS := (He.ga K "CONVERSIONS")) (q_KINDS := (He.ga K "KINDS")) (q_SIGNS := (He.ga K "SIGNS")) (q__MADE_OF := (He.ga K "_MADE_OF")) (q_MADE_OF_any := (va K (He.ga K "_MADE_OF") "any")) (q_MADE_OF_bare := (va K (He.ga K "_MADE_OF") "bare")) (q_MADE_OF_lone := (va K (He.ga K "_MADE_OF") "lone")) (q__PLAIN := (He.ga K "_PLAIN")) (q__HELD := (He.ga K "_HELD")) (q_HELD_both := (va K (He.ga K "_HELD") "both")) (q_HELD_lones := (va K (He.ga K "_HELD") "lones")) (q_HELD_pairs := (va K (He.ga K "_HELD") "pairs")) (q__REPLACED := (He.ga K "_REPLACED")) (q_REPLACED_all := (va K (He.ga K "_REPLACED") "all")) (q_REPLACED_all0 := (ia K (va K (He.ga K "_REPLACED") "all") 0)) (q_REPLACED_both := (va K (He.ga K "_REPLACED") "both")) (q_REPLACED_both0 := (ia K (va K (He.ga K "_REPLACED") "both") 0)) (q_REPLACED_both1 := (ia K (va K (He.ga K "_REPLACED") "both") 1)) (q_REPLACED_care := (va K (He.ga K "_REPLACED") "care")) (q_REPLACED_care0 := (ia K (va K (He.ga K "_REPLACED") "care") 0)) (q_REPLACED_care1 := (ia K (va K (He.ga K "_REPLACED") "care") 1)) (q_REPLACED_lone := (va K (He.ga K "_REPLACED") "lone")) (q_REPLACED_lone0 := (ia K (va K (He.ga K "_REPLACED") "lone") 0)) (q_REPLACED_lones := (va K (He.ga K "_REPLACED") "lones")) (q_REPLACED_lones0 := (ia K (va K (He.ga K "_REPLACED") "lones") 0)) (q_REPLACED_lones1 := (ia K (va K (He.ga K "_REPLACED") "lones") 1)) (q_REPLACED_lones2 := (ia K (va K (He.ga K "_REPLACED") "lones") 2)) (q_REPLACED_pairs := (va K (He.ga K "_REPLACED") "pairs")) (q_REPLACED_pairs0 := (ia K (va K (He.ga K "_REPLACED") "pairs") 0)) rfl rfl rfl Sx.tt X G (fun_ofD F)
    (fnG_of c.t.d 0 0 (by rfl) (by rfl))
    (fnG_of c.t.d 1 1 (by rfl) (by rfl))
    (fnG_of c.t.d 2 2 (by rfl) (by rfl))
    (fnG_of c.t.d 3 3 (by rfl) (by rfl))
    (mtG_of (x := "Alike") c.t.d 4 4 (by rfl) (by rfl))
    (fnG_of c.t.d 5 5 (by rfl) (by rfl))
    (fnG_of c.t.d 6 6 (by rfl) (by rfl))
    (fnG_of c.t.d 7 7 (by rfl) (by rfl))
    (fnG_of c.t.d 8 8 (by rfl) (by rfl))
    (fnG_of c.t.d 9 9 (by rfl) (by rfl))
    (fnG_of c.t.d 10 10 (by rfl) (by rfl))
    (mtG_of (x := "RowWalk") c.t.d 11 11 (by rfl) (by rfl))
    (fnG_of c.t.d 12 12 (by rfl) (by rfl))
    (mtG_of (x := "RowWalk") c.t.d 13 13 (by rfl) (by rfl))
    (fnG_of c.t.d 14 14 (by rfl) (by rfl))
    (fnG_of c.t.d 15 15 (by rfl) (by rfl))
    (fnG_of c.t.d 16 16 (by rfl) (by rfl))
    (mtG_of (x := "RowWalk") c.t.d 17 17 (by rfl) (by rfl))
    (fnG_of c.t.d 18 18 (by rfl) (by rfl))
    (fnG_of c.t.d 19 19 (by rfl) (by rfl))
    (mtG_of (x := "RowWalk") c.t.d 20 20 (by rfl) (by rfl))
    (fnG_of c.t.d 21 21 (by rfl) (by rfl))
    (fnG_of c.t.d 22 22 (by rfl) (by rfl))
    (fnG_of c.t.d 23 23 (by rfl) (by rfl))
    (mtG_of (x := "RowWalk") c.t.d 24 24 (by rfl) (by rfl))
    (fnG_of c.t.d 25 25 (by rfl) (by rfl))
    (mtG_of (x := "RowWalk") c.t.d 26 26 (by rfl) (by rfl))
    (fnG_of c.t.d 27 27 (by rfl) (by rfl))
    (mtG_of (x := "Alike") c.t.d 28 28 (by rfl) (by rfl))
    (mtG_of (x := "Alike") c.t.d 29 29 (by rfl) (by rfl))
    (mtG_of (x := "Parted") c.t.d 30 30 (by rfl) (by rfl))
    (fnG_of c.t.d 31 31 (by rfl) (by rfl))
    (fnG_of c.t.d 32 32 (by rfl) (by rfl))
    (fnG_of c.t.d 33 33 (by rfl) (by rfl))
    (mtG_of (x := "Parted") c.t.d 34 34 (by rfl) (by rfl))
    (mtG_of (x := "Parted") c.t.d 35 35 (by rfl) (by rfl))
    (fnG_of c.t.d 36 36 (by rfl) (by rfl))
    (fnG_of c.t.d 37 37 (by rfl) (by rfl))
    (fnG_of c.t.d 38 38 (by rfl) (by rfl))
    (fnG_of c.t.d 39 39 (by rfl) (by rfl))
    (fnG_of c.t.d 40 40 (by rfl) (by rfl))
    (fnG_of c.t.d 41 41 (by rfl) (by rfl))
    (fnG_of c.t.d 42 42 (by rfl) (by rfl))
    (fnG_of c.t.d 43 43 (by rfl) (by rfl))
    (fnG_of c.t.d 44 44 (by rfl) (by rfl))
    (fnG_of c.t.d 45 45 (by rfl) (by rfl))
    (fnG_of c.t.d 46 46 (by rfl) (by rfl))
    (fnG_of c.t.d 47 47 (by rfl) (by rfl))
    (fnG_of c.t.d 48 48 (by rfl) (by rfl))
    (fnG_of c.t.d 49 49 (by rfl) (by rfl))
    (fnG_of c.t.d 50 50 (by rfl) (by rfl))
    (fnG_of c.t.d 51 51 (by rfl) (by rfl))
    (clG_of c.t.d 53 54 55 (by rfl) (by rfl) (by rfl) (all_at c.more 0 (by rfl)) (all_at c.more 1 (by rfl)))
    (clG_of c.t.d 56 57 58 (by rfl) (by rfl) (by rfl) (all_at c.more 2 (by rfl)) (all_at c.more 3 (by rfl)))
    (clG_of c.t.d 59 60 61 (by rfl) (by rfl) (by rfl) (all_at c.more 4 (by rfl)) (all_at c.more 5 (by rfl)))
    (He.noat_ok (c.t.d.fact 62 (by rfl)))
    (He.noat_ok (c.t.d.fact 63 (by rfl)))
    (He.noat_ok (c.t.d.fact 64 (by rfl)))
    (He.noat_ok (c.t.d.fact 65 (by rfl)))
    (He.noat_ok (c.t.d.fact 66 (by rfl)))
    (He.eqO_ok (all_at c.more 6 (by rfl)))
    (of_decide_eq_true (all_at c.more 7 (by rfl)))
    (of_decide_eq_true (all_at c.more 8 (by rfl)))
    (of_decide_eq_true (all_at c.more 9 (by rfl)))
    (of_decide_eq_true (all_at c.more 10 (by rfl)))
    (of_decide_eq_true (all_at c.more 11 (by rfl)))
    (of_decide_eq_true (all_at c.more 12 (by rfl)))
    (of_decide_eq_true (all_at c.more 13 (by rfl)))
    (of_decide_eq_true (all_at c.more 14 (by rfl)))
    (of_decide_eq_true (all_at c.more 15 (by rfl)))
    (He.eqO_ok (all_at c.more 16 (by rfl)))
    (all_at c.more 17 (by rfl))
    (He.eqO_ok (all_at c.more 18 (by rfl)))
    (all_at c.more 19 (by rfl))
    (He.free_ok X G (c.t.d.fact 67 (by rfl)))
    (He.free_ok X G (c.t.d.fact 68 (by rfl)))
    (He.free_ok X G (c.t.d.fact 69 (by rfl)))
    (He.free_ok X G (c.t.d.fact 70 (by rfl)))
    (He.free_ok X G (c.t.d.fact 71 (by rfl)))
    (He.free_ok X G (c.t.d.fact 72 (by rfl)))
    (He.free_ok X G (c.t.d.fact 73 (by rfl)))
    (He.free_ok X G (c.t.d.fact 74 (by rfl)))
    (He.int_ok X G (c.t.d.fact 75 (by rfl)))
    (He.free_ok X G (c.t.d.fact 76 (by rfl)))
    (He.free_ok X G (c.t.d.fact 77 (by rfl)))
    (He.free_ok X G (c.t.d.fact 78 (by rfl)))
    (He.free_ok X G (c.t.d.fact 79 (by rfl)))
    (He.free_ok X G (c.t.d.fact 80 (by rfl)))
    (He.free_ok X G (c.t.d.fact 81 (by rfl)))
    (He.glo_ok X G (c.t.d.fact 82 (by rfl)))
    (seqB_ok (all_at c.more 20 (by rfl)))
    (He.glo_ok X G (c.t.d.fact 83 (by rfl)))
    (seqB_ok (all_at c.more 21 (by rfl)))
    (He.glo_ok X G (c.t.d.fact 84 (by rfl)))
    (seqB_ok (all_at c.more 22 (by rfl)))
    (He.glo_ok X G (c.t.d.fact 85 (by rfl)))
    (dictG_of (c.t.tab 0 (t := (fun K => He.ga K "_MADE_OF", ["any", "bare", "lone"])) (by rfl)))
    (He.eqO_ok (all_at c.more 23 (by rfl)))
    (seqB_ok (all_at c.more 24 (by rfl)))
    (He.eqO_ok (all_at c.more 25 (by rfl)))
    (seqB_ok (all_at c.more 26 (by rfl)))
    (He.eqO_ok (all_at c.more 27 (by rfl)))
    (seqB_ok (all_at c.more 28 (by rfl)))
    (He.glo_ok X G (c.t.d.fact 86 (by rfl)))
    (dictG_of (c.t.tab 1 (t := (fun K => He.ga K "_PLAIN", ["all", "lone"])) (by rfl)))
    (nsB_ok (all_at c.more 29 (by rfl)))
    (He.eqO_ok (all_at c.more 30 (by rfl)))
    (He.eqO_ok (all_at c.more 31 (by rfl)))
    (nsB_ok (all_at c.more 32 (by rfl)))
    (He.eqO_ok (all_at c.more 33 (by rfl)))
    (He.eqO_ok (all_at c.more 34 (by rfl)))
    (He.glo_ok X G (c.t.d.fact 87 (by rfl)))
    (dictG_of (c.t.tab 2 (t := (fun K => He.ga K "_HELD", ["both", "lones", "pairs"])) (by rfl)))
    (He.eqO_ok (all_at c.more 35 (by rfl)))
    (He.eqO_ok (all_at c.more 36 (by rfl)))
    (pairB_ok (all_at c.more 37 (by rfl)))
    (He.eqO_ok (all_at c.more 38 (by rfl)))
    (He.eqO_ok (all_at c.more 39 (by rfl)))
    (He.eqO_ok (all_at c.more 40 (by rfl)))
    (pairB_ok (all_at c.more 41 (by rfl)))
    (He.eqO_ok (all_at c.more 42 (by rfl)))
    (pairB_ok (all_at c.more 43 (by rfl)))
    (He.glo_ok X G (c.t.d.fact 88 (by rfl)))
    (dictG_of (c.t.tab 3 (t := (fun K => He.ga K "_REPLACED", ["all", "both", "care", "lone", "lones", "pairs"])) (by rfl)))
    (He.eqO_ok (all_at c.more 44 (by rfl)))
    (seqB_ok (all_at c.more 45 (by rfl)))
    (pairB_ok (all_at c.more 46 (by rfl)))
    (He.eqO_ok (all_at c.more 47 (by rfl)))
    (seqB_ok (all_at c.more 48 (by rfl)))
    (pairB_ok (all_at c.more 49 (by rfl)))
    (pairB_ok (all_at c.more 50 (by rfl)))
    (He.eqO_ok (all_at c.more 51 (by rfl)))
    (seqB_ok (all_at c.more 52 (by rfl)))
    (pairB_ok (all_at c.more 53 (by rfl)))
    (pairB_ok (all_at c.more 54 (by rfl)))
    (He.eqO_ok (all_at c.more 55 (by rfl)))
    (seqB_ok (all_at c.more 56 (by rfl)))
    (pairB_ok (all_at c.more 57 (by rfl)))
    (He.eqO_ok (all_at c.more 58 (by rfl)))
    (seqB_ok (all_at c.more 59 (by rfl)))
    (pairB_ok (all_at c.more 60 (by rfl)))
    (pairB_ok (all_at c.more 61 (by rfl)))
    (pairB_ok (all_at c.more 62 (by rfl)))
    (He.eqO_ok (all_at c.more 63 (by rfl)))
    (seqB_ok (all_at c.more 64 (by rfl)))
    (pairB_ok (all_at c.more 65 (by rfl)))
    base
end K04
open PySem PySem.W PySem.Calls PyProof.Rows
theorem PySem.Challenge.cw_turnedends_k04_whole_alike_shown_holds : PySem.Challenge.rw_turnedends_k04_whole_alike_shown.Holds := by
  w_on; o_law
  refine HandSHeadRun.head_any (r := OpenLaw.row PySem.Challenge.rw_turnedends_k04_whole_alike_shown) (q := view (OpenLaw.row PySem.Challenge.rw_turnedends_k04_whole_alike_shown).prog [62]) (H := K04.hk) (ob := K04.hob) (M := 30000) (loose := K04.h_lo) (d := HandSHeadRun.topDef (OpenLaw.row PySem.Challenge.rw_turnedends_k04_whole_alike_shown).prog 62) (kwd := []) K04.hob_eq
    (by kernel_rfl) (fun s => by kernel_rfl) K04.hrun (by kernel_rfl) (by kernel_rfl) (by kernel_rfl) (by rfl) (by first | assumption | decide +kernel) (by decide +kernel) ⟨rfl, rfl, rfl, rfl, rfl, by decide +kernel⟩ ?hw ?hc
  case hw => w_witness2
  case hc =>
    refine L2.walk_ofE (l := PySem.Challenge.rw_turnedends_k04_whole_alike_shown) (n := 63) (k := 9) (x := "script") (CX := L2.CX0) rfl (by decide) (by kernel_rfl) ⟨rfl, by decide, by decide⟩ ?F (fun _ _ _ _ z => z)
    intro w mg fa h Y G hmg0
    obtain ⟨K, KX, c⟩ := Y
    have hmg : mg ("law" : PySem.Str) = some (.ref fa) := by
      have e : (HandSHeadRun.topDef (OpenLaw.row PySem.Challenge.rw_turnedends_k04_whole_alike_shown).prog 62).name = ("law" : PySem.Str) := by kernel_rfl
      rw [← e]
      exact hmg0
    obtain ⟨fd, hb, hF⟩ := K04.hfacts (P := (PySem.Challenge.rw_turnedends_k04_whole_alike_shown).prog) (w := w) KX G hmg c
    exact ⟨K, fd, Rm.spLawR K, KX, hb, fun H a ns hl hO hS => ⟨a, ns, rfl, hS, hl, hO, fun _ => rfl⟩, hF⟩
