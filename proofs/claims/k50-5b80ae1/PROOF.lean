import PyProof.Rows.All
import Wide.All
import OpenK.AllK
import Wide.FinOn
import HandS.ForMost
import HandS.Evl
import HandS.IsInst
import HandS.WrittenGet
import HandS.Replace
import HandS.TupMul
import HandS.Zip
import HandS.SetBool
import HandS.Conv
import KE.KDictDisplayH
import KE.KeyNested
import HandS.Style
import HandS.TupAny
import HandS.Text
import HandS.DictComp
import HandS.ReplaceList
import HandS.SortRule
import PyProof.Rows.RuleB_bool
import HandS.Head0
import HandS.Head1
import HandS.Head2
import HandS.HeadEnd
import HandS.HeadHook1
import HandS.HeadHook2
import HandS.HeadHook3
import HandS.HeadHook4
import HandS.Deep
import KE.KDictPairs
import PyProof.Draws
import PyProof.ListStr
import HandS.ReplaceLit
import HandS.OwnEq
import HandS.More
import HandS.TupLen
import KE.SortData
import HandS.StrMore
import HandS.Gcd
import HandS.Flt
import KE.KDictWalk
import HandS.Defaults
import HandS.MakeKwOnly
import OpenK.KMore
import HandS.Head3
import PySem.Challenge.RW_turnedends_k50_known_longer
set_option Elab.async false
set_option linter.all false
set_option maxRecDepth 100000
set_option maxHeartbeats 4000000
namespace Rm
open PySem PySem.Spec PyProof.Rows L2
/-! ### values of a run: tuples, lists and instances that stay are values; `ref n` is the n-th changing object -/
inductive LV where
  | non | bl (b : Bool) | int (i : Int) | str (x : List Nat)
  | tup (xs : List LV) | vl (xs : List LV) | fz (xs : List LV) | vd (ks : List LV) (vs : List LV) | sd (ks : List (List Nat)) (vs : List LV) | obj (C : Nat) (fs : List LV) | ref (n : Nat)
inductive LO where
  | lst (xs : List LV) | dic (ks : List LV) (vs : List LV) | ins (C : Nat) (k : Nat) (fs : List LV)
/-- what is fixed: the written part, the addresses of the classes, the names of their fields, the errors' classes -/
structure Sg where
  P : Program
  w : World
  K : PySem.W.Frag
  ct : Nat → Addr
  nm : Nat → List Str
/-- a list that nobody changes: the caller's, or one that the text has written -/
def FzL (K : PySem.W.Frag) (H : Hp) (a : Addr) (xs : List V) : Prop := (∃ o, H a = some (.frz o (.lst xs))) ∨ ∃ (o : Obj) (its : Array Value) (n : Nat), K.lookup a = some o ∧ o.cls = .type "list" ∧ o.dict = none ∧ o.data = .seq its n ∧ its.size ≤ sizeLine ∧ Vals xs its.toList
theorem FzL.sq {K : PySem.W.Frag} {H : Hp} {a : Addr} {xs : List V} (h : FzL K H a xs) : SqL K H a xs := h.imp (fun ⟨o, e⟩ => .inr ⟨o, e⟩) id
theorem FzL.mono {K : PySem.W.Frag} {H H' : Hp} {a : Addr} {xs : List V} (h : FzL K H a xs) (k : ∀ o, H a = some (.frz o (.lst xs)) → H' a = some (.frz o (.lst xs))) : FzL K H' a xs := h.imp (fun ⟨o, e⟩ => ⟨o, k o e⟩) id
/-- keys of dicts: tuples of any depth -/
abbrev tkN (P : Program) (w : World) := nestedKind P w
mutual
def LV.key : LV → Option NestedKey
  | .non => some .none
  | .bl b => some (.num (if b then 1 else 0))
  | .int i => some (.num i)
  | .str x => some (.text ⟨x.toArray⟩)
  | .tup xs => (LV.keys xs).map .tup
  | _ => none
def LV.keys : List LV → Option (List NestedKey)
  | [] => some []
  | x :: xs => match LV.key x, LV.keys xs with
    | some k, some ks => some (k :: ks)
    | _, _ => none
end
def dvF (P : Program) (w : World) (d : Addr) (o : Obj) (ks : List (NestedKey × Addr)) (vs : List V) : Heap → Prop := fun h =>
  h.get? d = some o ∧ ∃ es ep us, o.ExactDict ∧ o.data = .dict es ep ∧ Vals vs us ∧ es.toList = (List.zipWith (fun (x : NestedKey × Addr) (u : Value) => (x.1, x.2, u)) ks us).map (entryOfKey (tkN P w))
def keysOk (ks : List (NestedKey × Addr)) (vs : List V) : Prop := (ks.map (·.1)).Nodup ∧ ks.length = vs.length ∧ ks.length ≤ 60000 ∧ ∀ k ∈ ks, k.1.depth ≤ 8
section
variable (S : Sg) (F : Addr → Prop) (ι : List Addr) (H : Hp)
mutual
inductive RV : LV → V → Prop
  | non : RV .non .non
  | bl (b : Bool) : RV (.bl b) (.bl b)
  | int (i : Int) : RV (.int i) (.int i)
  | str (x : List Nat) : RV (.str x) (.str ⟨x.toArray⟩)
  | tup {a : Addr} {xs : List LV} {vs : List V} : SqT S.K H a vs → RVs xs vs → RV (.tup xs) (.ref a)
  | vl {a : Addr} {xs : List LV} {vs : List V} : H a = some (.lst vs) → ¬ F a → RVs xs vs → RV (.vl xs) (.ref a)
  | fz {a : Addr} {xs : List LV} {vs : List V} : FzL S.K H a vs → RVs xs vs → RV (.fz xs) (.ref a)
  | vd {a : Addr} {ks vs : List LV} {o : Obj} {kas : List (NestedKey × Addr)} {xs : List V} : H a = some (.ext (dvF S.P S.w a o kas xs)) → ¬ F a → (a == sysModules) = false → keysOk kas xs → LV.keys ks = some (kas.map (·.1)) → RVs ks (kas.map fun k => V.ref k.2) → RVs vs xs → RV (.vd ks vs) (.ref a)
  | sd {a : Addr} {ks : List Str} {kc : List (List Nat)} {vs : List LV} {xs : List V} : H a = some (.dK (mergeK [] (List.zipWith (fun k x => ((.inr k : Key), x)) ks xs))) → ¬ F a → (ks.map fun k => k.cps.toList) = kc → RVs vs xs → RV (.sd kc vs) (.ref a)
  | obj {a : Addr} {C : Nat} {dx : Addr} {fs : List (Str × V)} {xs : List LV} : H a = some (.ins (S.ct C) dx fs) → ¬ F a → fs.map (·.1) = S.nm C → RVs xs (fs.map (·.2)) → RV (.obj C xs) (.ref a)
  | ref {a : Addr} {n : Nat} : ι[n]? = some a → RV (.ref n) (.ref a)
inductive RVs : List LV → List V → Prop
  | nil : RVs [] []
  | cons {x : LV} {xs : List LV} {v : V} {vs : List V} : RV x v → RVs xs vs → RVs (x :: xs) (v :: vs)
end
end
section
variable {S : Sg} {F F' F1 F2 : Addr → Prop} {ι ι' ι1 ι2 : List Addr} {H H' H1 H2 : Hp}
/-- how the heap goes on -/
structure EX (S : Sg) (F : Addr → Prop) (ι : List Addr) (H : Hp) (F' : Addr → Prop) (ι' : List Addr) (H' : Hp) : Prop where
  tup : ∀ a vs, SqT S.K H a vs → SqT S.K H' a vs
  keep : ∀ a o, a ∉ ι → H a = some o → H' a = some o
  grow : ∃ more, ι' = ι ++ more ∧ ∀ a ∈ more, H a = none
  more : ∀ a, F a → F' a
  fresh : ∀ a, F' a → ¬ F a → H a = none
  dom : ∀ a, H' a = none → H a = none
theorem EX.refl : EX S F ι H F ι H := ⟨fun _ _ h => h, fun _ _ _ h => h, ⟨[], by simp, fun _ h => nomatch h⟩, fun _ h => h, fun _ h n => absurd h n, fun _ h => h⟩
theorem EX.trans (e : EX S F ι H F1 ι1 H1) (f : EX S F1 ι1 H1 F2 ι2 H2) : EX S F ι H F2 ι2 H2 := by
  obtain ⟨m1, rfl, n1⟩ := e.grow
  obtain ⟨m2, rfl, n2⟩ := f.grow
  refine ⟨fun a vs h => f.tup a vs (e.tup a vs h), fun a o n h => f.keep a o ?_ (e.keep a o n h), ⟨m1 ++ m2, by rw [List.append_assoc], ?_⟩, fun a h => f.more a (e.more a h), fun a h n => ?_, fun a h => e.dom a (f.dom a h)⟩
  · intro hm
    rcases List.mem_append.mp hm with z | z
    · exact n z
    · rw [n1 a z] at h; cases h
  · intro a ha
    rcases List.mem_append.mp ha with z | z
    · exact n1 a z
    · exact e.dom a (n2 a z)
  · cases q : H a with
    | none => rfl
    | some o =>
      by_cases h1 : F1 a
      · have := e.fresh a h1 n
        rw [q] at this; cases this
      · have := e.dom a (f.fresh a h h1)
        rw [q] at this; cases this
/-- the changing objects -/
inductive RO (S : Sg) (F : Addr → Prop) (ι : List Addr) (H : Hp) : LO → Addr → Prop
  | lst {a : Addr} {xs : List LV} {vs : List V} : H a = some (.lst vs) → RVs S F ι H xs vs → RO S F ι H (.lst xs) a
  | dic {a : Addr} {ks vs : List LV} {o : Obj} {kas : List (NestedKey × Addr)} {xs : List V} : H a = some (.ext (dvF S.P S.w a o kas xs)) → (a == sysModules) = false → keysOk kas xs → LV.keys ks = some (kas.map (·.1)) → RVs S F ι H ks (kas.map fun k => V.ref k.2) → RVs S F ι H vs xs → RO S F ι H (.dic ks vs) a
  | ins {a : Addr} {C k : Nat} {dx : Addr} {fs : List (Str × V)} {xs : List LV} : H a = some (.ins (S.ct C) dx fs) → k = (S.nm C).length → fs.map (·.1) = (S.nm C).take xs.length → RVs S F ι H xs (fs.map (·.2)) → RO S F ι H (.ins C k xs) a
structure Rep (S : Sg) (F : Addr → Prop) (ι : List Addr) (h : List LO) (H : Hp) : Prop where
  len : ι.length = h.length
  nd : ι.Nodup
  inF : ∀ a ∈ ι, F a
  dom : ∀ a, F a → H a ≠ none
  obj : ∀ (n : Nat) (o : LO) (a : Addr), h[n]? = some o → ι[n]? = some a → RO S F ι H o a
theorem RVs.length : ∀ {xs : List LV} {vs : List V}, RVs S F ι H xs vs → xs.length = vs.length
  | [], _, h => by cases h; rfl
  | _ :: xs, _, h => by cases h with | cons a b => exact congrArg (· + 1) (RVs.length b)
/-- how relations are carried on -/
structure Fwd (S : Sg) (F : Addr → Prop) (ι : List Addr) (H : Hp) (F' : Addr → Prop) (ι' : List Addr) (H' : Hp) : Prop where
  tup : ∀ a vs, SqT S.K H a vs → SqT S.K H' a vs
  keep : ∀ a o, ¬ F a → H a = some o → H' a = some o
  frz : ∀ a o vs, H a = some (.frz o (.lst vs)) → H' a = some (.frz o (.lst vs))
  nf : ∀ a o, ¬ F a → H a = some o → ¬ F' a
  ix : ∀ (n : Nat) a, ι[n]? = some a → ι'[n]? = some a
mutual
theorem RV.fwd (f : Fwd S F ι H F' ι' H') : ∀ (x : LV) (v : V), RV S F ι H x v → RV S F' ι' H' x v
  | .non, _, h => by cases h; exact .non
  | .bl _, _, h => by cases h; exact .bl _
  | .int _, _, h => by cases h; exact .int _
  | .str _, _, h => by cases h; exact .str _
  | .tup xs, _, h => by cases h with | tup a b => exact .tup (f.tup _ _ a) (RVs.fwd f xs _ b)
  | .vl xs, _, h => by cases h with | vl a n b => exact .vl (f.keep _ _ n a) (f.nf _ _ n a) (RVs.fwd f xs _ b)
  | .fz xs, _, h => by cases h with | fz a b => exact .fz (a.mono fun o e => f.frz _ _ _ e) (RVs.fwd f xs _ b)
  | .vd ks vs, _, h => by cases h with | vd a n c d e g i => exact .vd (f.keep _ _ n a) (f.nf _ _ n a) c d e (RVs.fwd f ks _ g) (RVs.fwd f vs _ i)
  | .sd kc vs, _, h => by cases h with | sd a n c i => exact .sd (f.keep _ _ n a) (f.nf _ _ n a) c (RVs.fwd f vs _ i)
  | .obj C xs, _, h => by cases h with | obj a n c d => exact .obj (f.keep _ _ n a) (f.nf _ _ n a) c (RVs.fwd f xs _ d)
  | .ref _, _, h => by cases h with | ref a => exact .ref (f.ix _ _ a)
theorem RVs.fwd (f : Fwd S F ι H F' ι' H') : ∀ (xs : List LV) (vs : List V), RVs S F ι H xs vs → RVs S F' ι' H' xs vs
  | [], _, h => by cases h; exact .nil
  | x :: xs, _, h => by cases h with | cons a b => exact .cons (RV.fwd f x _ a) (RVs.fwd f xs _ b)
end
theorem Rep.nfr {h : List LO} (r : Rep S F ι h H) {a : Addr} {o : Obj} {u : HO} (e : H a = some (.frz o u)) : a ∉ ι := fun ha => by
  obtain ⟨n, hn⟩ := List.mem_iff_getElem?.mp ha
  have hlt : n < h.length := by rw [← r.len]; exact (List.getElem?_eq_some_iff.mp hn).1
  have z := r.obj n _ a (List.getElem?_eq_getElem hlt) hn
  generalize h[n] = oo at z
  cases z with
  | lst q => rw [e] at q; cases q
  | dic q => rw [e] at q; cases q
  | ins q => rw [e] at q; cases q
theorem EX.fwd {h : List LO} (e : EX S F ι H F' ι' H') (r : Rep S F ι h H) : Fwd S F ι H F' ι' H' := by
  refine ⟨e.tup, fun a o n q => e.keep a o (fun z => n (r.inF a z)) q, fun a o vs q => e.keep a _ (r.nfr q) q, fun a o n q z => ?_, fun n a q => ?_⟩
  · rw [e.fresh a z n] at q; cases q
  · obtain ⟨m, rfl, _⟩ := e.grow
    rw [List.getElem?_append_left (List.getElem?_eq_some_iff.mp q).1]
    exact q
theorem RV.ext {h : List LO} {x : LV} {v : V} (z : RV S F ι H x v) (r : Rep S F ι h H) (e : EX S F ι H F' ι' H') : RV S F' ι' H' x v := z.fwd (e.fwd r) x v
theorem RVs.ext {h : List LO} {x : List LV} {v : List V} (z : RVs S F ι H x v) (r : Rep S F ι h H) (e : EX S F ι H F' ι' H') : RVs S F' ι' H' x v := z.fwd (e.fwd r) x v
/-! ### values with no changing object -/
mutual
def LV.pure : LV → Bool
  | .ref _ => false
  | .tup xs => LV.pures xs
  | .vl xs => LV.pures xs
  | .fz xs => LV.pures xs
  | .vd ks vs => LV.pures ks && LV.pures vs
  | .sd _ vs => LV.pures vs
  | .obj _ xs => LV.pures xs
  | _ => true
def LV.pures : List LV → Bool
  | [] => true
  | x :: xs => LV.pure x && LV.pures xs
end
mutual
theorem RV.pure (ι' : List Addr) : ∀ (x : LV) (v : V), x.pure = true → RV S F ι H x v → RV S F ι' H x v
  | .non, _, _, h => by cases h; exact .non
  | .bl _, _, _, h => by cases h; exact .bl _
  | .int _, _, _, h => by cases h; exact .int _
  | .str _, _, _, h => by cases h; exact .str _
  | .tup xs, _, p, h => by cases h with | tup a b => exact .tup a (RVs.pure ι' xs _ (by simpa [LV.pure] using p) b)
  | .vl xs, _, p, h => by cases h with | vl a n b => exact .vl a n (RVs.pure ι' xs _ (by simpa [LV.pure] using p) b)
  | .fz xs, _, p, h => by cases h with | fz a b => exact .fz a (RVs.pure ι' xs _ (by simpa [LV.pure] using p) b)
  | .vd ks vs, _, p, h => by
    have p' : LV.pures ks = true ∧ LV.pures vs = true := by simpa [LV.pure] using p
    cases h with | vd a n c d e g i => exact .vd a n c d e (RVs.pure ι' ks _ p'.1 g) (RVs.pure ι' vs _ p'.2 i)
  | .sd kc vs, _, p, h => by cases h with | sd a n c i => exact .sd a n c (RVs.pure ι' vs _ (by simpa [LV.pure] using p) i)
  | .obj C xs, _, p, h => by cases h with | obj a n c d => exact .obj a n c (RVs.pure ι' xs _ (by simpa [LV.pure] using p) d)
  | .ref _, _, p, _ => by simp [LV.pure] at p
theorem RVs.pure (ι' : List Addr) : ∀ (xs : List LV) (vs : List V), LV.pures xs = true → RVs S F ι H xs vs → RVs S F ι' H xs vs
  | [], _, _, h => by cases h; exact .nil
  | x :: xs, _, p, h => by
    have p' : x.pure = true ∧ LV.pures xs = true := by simpa [LV.pures] using p
    cases h with | cons a b => exact .cons (RV.pure ι' x _ p'.1 a) (RVs.pure ι' xs _ p'.2 b)
end
/-! ### a value that leaves its run: the changing objects that it has stay from now on -/
mutual
def LV.deep (h : List LO) : Nat → LV → Option LV
  | 0, _ => none
  | n + 1, .ref i => match h[i]? with
    | some (.lst xs) => (LV.deeps h n xs).map .vl
    | some (.ins C k xs) => if xs.length = k then (LV.deeps h n xs).map (.obj C) else none
    | some (.dic ks vs) => match LV.deeps h n ks, LV.deeps h n vs with
      | some ks, some vs => some (.vd ks vs)
      | _, _ => none
    | none => none
  | n + 1, .tup xs => (LV.deeps h n xs).map .tup
  | n + 1, .vl xs => (LV.deeps h n xs).map .vl
  | n + 1, .fz xs => (LV.deeps h n xs).map .fz
  | n + 1, .vd ks vs => match LV.deeps h n ks, LV.deeps h n vs with
      | some ks, some vs => some (.vd ks vs)
      | _, _ => none
  | n + 1, .sd kc vs => (LV.deeps h n vs).map (.sd kc)
  | n + 1, .obj C xs => (LV.deeps h n xs).map (.obj C)
  | _ + 1, x => some x
def LV.deeps (h : List LO) : Nat → List LV → Option (List LV)
  | 0, _ => none
  | _ + 1, [] => some []
  | n + 1, x :: xs => match LV.deep h n x, LV.deeps h n xs with
    | some x, some xs => some (x :: xs)
    | _, _ => none
end
mutual
theorem LV.key_deep {h : List LO} : ∀ {n : Nat} {x y : LV} {k : NestedKey}, LV.deep h n x = some y → x.key = some k → y.key = x.key
  | 0, _, _, _, e, _ => by simp [LV.deep] at e
  | n + 1, .tup xs, y, k, e, q => by
    simp only [LV.deep, Option.map_eq_some_iff] at e
    obtain ⟨ys, e1, rfl⟩ := e
    simp only [LV.key, Option.map_eq_some_iff] at q
    obtain ⟨k2, q1, rfl⟩ := q
    show (LV.keys ys).map NestedKey.tup = (LV.keys xs).map NestedKey.tup
    rw [LV.keys_deep e1 q1]
  | n + 1, .non, y, _, e, _ => by simp only [LV.deep] at e; cases e; rfl
  | n + 1, .bl _, y, _, e, _ => by simp only [LV.deep] at e; cases e; rfl
  | n + 1, .int _, y, _, e, _ => by simp only [LV.deep] at e; cases e; rfl
  | n + 1, .str _, y, _, e, _ => by simp only [LV.deep] at e; cases e; rfl
  | n + 1, .ref _, y, _, _, q => by simp [LV.key] at q
  | n + 1, .vl _, y, _, _, q => by simp [LV.key] at q
  | n + 1, .fz _, y, _, _, q => by simp [LV.key] at q
  | n + 1, .vd _ _, y, _, _, q => by simp [LV.key] at q
  | n + 1, .sd _ _, y, _, _, q => by simp [LV.key] at q
  | n + 1, .obj _ _, y, _, _, q => by simp [LV.key] at q
theorem LV.keys_deep {h : List LO} : ∀ {n : Nat} {x y : List LV} {k : List NestedKey}, LV.deeps h n x = some y → LV.keys x = some k → LV.keys y = LV.keys x
  | 0, _, _, _, e, _ => by simp [LV.deeps] at e
  | n + 1, [], y, _, e, _ => by simp only [LV.deeps] at e; cases e; rfl
  | n + 1, x :: xs, y, k, e, q => by
    simp only [LV.deeps] at e
    split at e
    · rename_i x' xs' h1 h2
      cases e
      simp only [LV.keys] at q ⊢
      split at q
      · rename_i k1 ks1 q1 q2
        rw [LV.key_deep h1 q1, LV.keys_deep h2 q2, q1, q2]
      · cases q
    · cases e
end
mutual
theorem RV.deep {h : List LO} (r : Rep S F' ι' h H) (nf : ∀ a ∈ ι', ¬ F a) (hF : ∀ a, F a → F' a) : ∀ (n : Nat) (x y : LV) (v : V), LV.deep h n x = some y → RV S F' ι' H x v → RV S F ι H y v
  | 0, _, _, _, e, _ => by simp [LV.deep] at e
  | n + 1, .ref i, y, _, e, z => by
    cases z with
    | ref q =>
      have hlt : i < h.length := by rw [← r.len]; exact (List.getElem?_eq_some_iff.mp q).1
      have g := r.obj i _ _ (List.getElem?_eq_getElem hlt) q
      have na := nf _ (List.mem_of_getElem? q)
      simp only [LV.deep, List.getElem?_eq_getElem hlt] at e
      generalize h[i] = oo at g e
      cases g with
      | lst a b =>
        simp only [Option.map_eq_some_iff] at e
        obtain ⟨ys, e1, rfl⟩ := e
        exact .vl a na (RVs.deep r nf hF n _ _ _ e1 b)
      | dic a c d e2 g2 i2 =>
        dsimp only at e
        split at e
        · rename_i ks' vs' h1 h2
          cases e
          have gk := RVs.deep r nf hF n _ _ _ h1 g2
          have gv := RVs.deep r nf hF n _ _ _ h2 i2
          refine .vd a na c d ?_ gk gv
          rw [← e2]
          exact LV.keys_deep h1 e2
        · cases e
      | ins a k b c =>
        dsimp only at e
        split at e
        · rename_i hk
          simp only [Option.map_eq_some_iff] at e
          obtain ⟨ys, e1, rfl⟩ := e
          refine .obj a na ?_ (RVs.deep r nf hF n _ _ _ e1 c)
          rw [b, hk, k, List.take_length]
        · cases e
  | n + 1, .tup xs, y, _, e, z => by
    simp only [LV.deep, Option.map_eq_some_iff] at e
    obtain ⟨ys, e1, rfl⟩ := e
    cases z with | tup a b => exact .tup a (RVs.deep r nf hF n _ _ _ e1 b)
  | n + 1, .vl xs, y, _, e, z => by
    simp only [LV.deep, Option.map_eq_some_iff] at e
    obtain ⟨ys, e1, rfl⟩ := e
    cases z with | vl a c b => exact .vl a (fun q => c (hF _ q)) (RVs.deep r nf hF n _ _ _ e1 b)
  | n + 1, .fz xs, y, _, e, z => by
    simp only [LV.deep, Option.map_eq_some_iff] at e
    obtain ⟨ys, e1, rfl⟩ := e
    cases z with | fz a b => exact .fz a (RVs.deep r nf hF n _ _ _ e1 b)
  | n + 1, .vd ks vs, y, _, e, z => by
    simp only [LV.deep] at e
    split at e
    · rename_i ks' vs' h1 h2
      cases e
      cases z with
      | vd a n2 c d e2 g i =>
        refine .vd a (fun q => n2 (hF _ q)) c d ?_ (RVs.deep r nf hF n _ _ _ h1 g) (RVs.deep r nf hF n _ _ _ h2 i)
        rw [← e2]
        exact LV.keys_deep h1 e2
    · cases e
  | n + 1, .sd kc xs, y, _, e, z => by
    simp only [LV.deep, Option.map_eq_some_iff] at e
    obtain ⟨ys, e1, rfl⟩ := e
    cases z with | sd a c b d => exact .sd a (fun q => c (hF _ q)) b (RVs.deep r nf hF n _ _ _ e1 d)
  | n + 1, .obj C xs, y, _, e, z => by
    simp only [LV.deep, Option.map_eq_some_iff] at e
    obtain ⟨ys, e1, rfl⟩ := e
    cases z with | obj a c b d => exact .obj a (fun q => c (hF _ q)) b (RVs.deep r nf hF n _ _ _ e1 d)
  | n + 1, .non, y, _, e, z => by simp only [LV.deep] at e; cases e; cases z; exact .non
  | n + 1, .bl _, y, _, e, z => by simp only [LV.deep] at e; cases e; cases z; exact .bl _
  | n + 1, .int _, y, _, e, z => by simp only [LV.deep] at e; cases e; cases z; exact .int _
  | n + 1, .str _, y, _, e, z => by simp only [LV.deep] at e; cases e; cases z; exact .str _
theorem RVs.deep {h : List LO} (r : Rep S F' ι' h H) (nf : ∀ a ∈ ι', ¬ F a) (hF : ∀ a, F a → F' a) : ∀ (n : Nat) (x y : List LV) (v : List V), LV.deeps h n x = some y → RVs S F' ι' H x v → RVs S F ι H y v
  | 0, _, _, _, e, _ => by simp [LV.deeps] at e
  | n + 1, [], y, _, e, z => by simp only [LV.deeps] at e; cases e; cases z; exact .nil
  | n + 1, x :: xs, y, _, e, z => by
    simp only [LV.deeps] at e
    split at e
    · rename_i x' xs' h1 h2
      cases e
      cases z with | cons a b => exact .cons (RV.deep r nf hF n _ _ _ h1 a) (RVs.deep r nf hF n _ _ _ h2 b)
    · cases e
end
end
end Rm
namespace Rm
open PySem PySem.Spec PyProof.Rows L2
/-! ### runs -/
inductive R (α : Type) where
  | ok (a : α) (h : List LO) | er (c : Nat) (h : List LO) | bad
def R.bind {α β : Type} : R α → (α → List LO → R β) → R β
  | .ok a h, k => k a h
  | .er c h, _ => .er c h
  | .bad, _ => .bad
abbrev Rho := List (Option LV)
abbrev ME := Rho → List LO → R LV
abbrev MA := Rho → List LO → R (List LV)
abbrev MT := Rho → List LO → R Bool
abbrev MO := Rho → List LO → R (Option Int)
inductive Fl where
  | nx | rt (v : LV) | bk | ct
abbrev MS := Rho → List LO → R (Fl × Rho)
abbrev MF := List LV → List LO → R LV
/-- the errors' classes -/
structure Se extends Sg where
  ec : Nat → Addr
def Ok {α β : Type} (rel : (Addr → Prop) → List Addr → Hp → α → β → Prop) (S : Se) (E : XK) (F : Addr → Prop) (ι : List Addr) (H : Hp) (r : R α) (Q : β → Hp → Prop) : Prop :=
  match r with
  | .ok v h' => ∀ F' ι' H' x, EX S.toSg F ι H F' ι' H' → Rep S.toSg F' ι' h' H' → rel F' ι' H' v x → Q x H'
  | .er c h' => ∀ F' ι' H', EX S.toSg F ι H F' ι' H' → Rep S.toSg F' ι' h' H' → E (.ref (S.ec c)) none H'
  | .bad => False
structure RS (S : Se) (F : Addr → Prop) (ι : List Addr) (H : Hp) (ρ : Rho) (σ : L2.St) : Prop where
  len : ρ.length = σ.length
  get : ∀ (i : Nat) (v : LV), ρ[i]? = some (some v) → ∃ x, σ[i]? = some (some x) ∧ RV S.toSg F ι H v x
def SE (S : Se) (E : XK) (te : TE) (m : ME) : Prop := ∀ F ι h H ρ σ Q, Rep S.toSg F ι h H → RS S F ι H ρ σ → Ok (RV S.toSg) S E F ι H (m ρ h) Q → te σ H Q
def SA (S : Se) (E : XK) (ta : TA) (m : MA) : Prop := ∀ F ι h H ρ σ Q, Rep S.toSg F ι h H → RS S F ι H ρ σ → Ok (RVs S.toSg) S E F ι H (m ρ h) Q → ta σ H Q
def eqB {β : Type} (_ : Addr → Prop) (_ : List Addr) (_ : Hp) (a b : β) : Prop := a = b
def ST (S : Se) (E : XK) (tt : TT) (m : MT) : Prop := ∀ F ι h H ρ σ Q, Rep S.toSg F ι h H → RS S F ι H ρ σ → Ok eqB S E F ι H (m ρ h) Q → tt σ H Q
def SO (S : Se) (E : XK) (tt : TO) (m : MO) : Prop := ∀ F ι h H ρ σ Q, Rep S.toSg F ι h H → RS S F ι H ρ σ → Ok eqB S E F ι H (m ρ h) Q → tt σ H Q
section
variable {S : Se} {E : XK} {F F1 : Addr → Prop} {ι ι1 : List Addr} {H H1 : Hp} {h h1 : List LO} {ρ : Rho} {σ : L2.St} {α β γ δ : Type}
  {rel : (Addr → Prop) → List Addr → Hp → α → β → Prop} {rel' : (Addr → Prop) → List Addr → Hp → γ → δ → Prop}
theorem Ok.shift {r : R α} {Q : β → Hp → Prop} (o : Ok rel S E F ι H r Q) (e : EX S.toSg F ι H F1 ι1 H1) : Ok rel S E F1 ι1 H1 r Q := by
  cases r with
  | ok v h' => exact fun F' ι' H' x e2 r2 q => o F' ι' H' x (e.trans e2) r2 q
  | er c h' => exact fun F' ι' H' e2 r2 => o F' ι' H' (e.trans e2) r2
  | bad => exact o
theorem Ok.seq {r : R α} {k : α → List LO → R γ} {Q : δ → Hp → Prop} {Q' : β → Hp → Prop} (o : Ok rel' S E F ι H (r.bind k) Q)
    (st : ∀ F1 ι1 H1 h1 v x, r = .ok v h1 → EX S.toSg F ι H F1 ι1 H1 → Rep S.toSg F1 ι1 h1 H1 → rel F1 ι1 H1 v x → Ok rel' S E F1 ι1 H1 (k v h1) Q → Q' x H1) : Ok rel S E F ι H r Q' := by
  cases r with
  | ok v h' => exact fun F' ι' H' x e2 r2 q => st F' ι' H' h' v x rfl e2 r2 q (Ok.shift (r := k v h') o e2)
  | er c h' => exact o
  | bad => exact o
theorem Ok.mono {r : R α} {Q Q' : β → Hp → Prop} (o : Ok rel S E F ι H r Q) (q : ∀ x H', Q x H' → Q' x H') : Ok rel S E F ι H r Q' := by
  cases r with
  | ok v h' => exact fun F' ι' H' x e2 r2 z => q _ _ (o F' ι' H' x e2 r2 z)
  | er c h' => exact o
  | bad => exact o
/-- a value now -/
theorem Ok.now {v : α} {x : β} {Q : β → Hp → Prop} (o : Ok rel S E F ι H (.ok v h) Q) (r : Rep S.toSg F ι h H) (z : rel F ι H v x) : Q x H := o F ι H x .refl r z
theorem RS.ext (s : RS S F ι H ρ σ) (r : Rep S.toSg F ι h H) (e : EX S.toSg F ι H F1 ι1 H1) : RS S F1 ι1 H1 ρ σ :=
  ⟨s.len, fun i v q => let ⟨x, a, b⟩ := s.get i v q; ⟨x, a, b.ext r e⟩⟩
/-! ### what may be new -/
/-- an untracked object is laid -/
theorem EX.new {p : Addr} {o : HO} (h : H p = none) : EX S.toSg F ι H F ι (upd H p o) := by
  refine ⟨fun a vs q => ?_, fun a u _ q => by rw [upd_ne (ne_of_none q h)]; exact q, ⟨[], by simp, fun _ z => nomatch z⟩, fun _ z => z, fun _ z n => absurd z n, fun a q => ?_⟩
  · exact Evl.ex_t (Evl.Ex.new h) q
  · by_cases e : a = p
    · subst e; exact h
    · rw [upd_ne e] at q; exact q
theorem RO.fwd {F' : Addr → Prop} {ι' : List Addr} {H' : Hp} (f : Fwd S.toSg F ι H F' ι' H') {o : LO} {a : Addr} (z : RO S.toSg F ι H o a) (k : ∀ u, H a = some u → H' a = some u) : RO S.toSg F' ι' H' o a := by
  cases z with
  | lst q b => exact .lst (k _ q) (b.fwd f _ _)
  | dic q b c d e g => exact .dic (k _ q) b c d (e.fwd f _ _) (g.fwd f _ _)
  | ins q k2 b c => exact .ins (k _ q) k2 b (c.fwd f _ _)
theorem Fwd.new (r : Rep S.toSg F ι h H) {p : Addr} {o : HO} (n : H p = none) : Fwd S.toSg F ι H F ι (upd H p o) := (EX.new (S := S) n).fwd r
theorem Rep.new (r : Rep S.toSg F ι h H) {p : Addr} {o : HO} (n : H p = none) : Rep S.toSg F ι h (upd H p o) := by
  refine ⟨r.len, r.nd, r.inF, fun a z q => ?_, fun i o a h1 h2 => ?_⟩
  · by_cases e : a = p
    · subst e; rw [upd_same] at q; cases q
    · rw [upd_ne e] at q; exact r.dom a z q
  · have z := r.obj i o a h1 h2
    refine z.fwd (Fwd.new r n) fun u q => ?_
    rw [upd_ne (ne_of_none q n)]; exact q
theorem nF_of_none (r : Rep S.toSg F ι h H) {p : Addr} (n : H p = none) : ¬ F p := fun z => r.dom p z n
end
end Rm
namespace Rm
open PySem PySem.Spec PyProof.Rows L2
/-! ### reading values -/
def LV.lst (h : List LO) : LV → Option (List LV)
  | .vl xs => some xs
  | .ref n => match h[n]? with
    | some (.lst xs) => some xs
    | _ => none
  | _ => none
def LV.lsf (h : List LO) : LV → Option (List LV)
  | .fz xs => some xs
  | x => x.lst h
section
variable {S : Sg} {F : Addr → Prop} {ι : List Addr} {H : Hp} {h : List LO}
theorem Rep.at {n : Nat} {o : LO} {a : Addr} (r : Rep S F ι h H) (e : h[n]? = some o) (q : ι[n]? = some a) : RO S F ι H o a := r.obj n o a e q
theorem lst_of (r : Rep S F ι h H) {v : LV} {x : V} {xs : List LV} (z : RV S F ι H v x) (e : v.lst h = some xs) : ∃ a vs, x = .ref a ∧ H a = some (.lst vs) ∧ RVs S F ι H xs vs := by
  cases z with
  | vl a n b => cases e; exact ⟨_, _, rfl, a, b⟩
  | @ref a n q =>
    simp only [LV.lst] at e
    split at e
    · rename_i ys hy
      cases e
      have g := r.at hy q
      cases g with
      | lst a b => exact ⟨_, _, rfl, a, b⟩
    · cases e
  | _ => cases e
theorem lsf_of (r : Rep S F ι h H) {v : LV} {x : V} {xs : List LV} (z : RV S F ι H v x) (e : v.lsf h = some xs) : ∃ a vs, x = .ref a ∧ SqL S.K H a vs ∧ RVs S F ι H xs vs := by
  cases z with
  | fz a b => cases e; exact ⟨_, _, rfl, a.sq, b⟩
  | vl a n b => cases e; exact ⟨_, _, rfl, .of a, b⟩
  | ref q =>
    obtain ⟨a, vs, e1, e2, e3⟩ := lst_of r (.ref q) (show LV.lst h _ = some xs from e)
    exact ⟨a, vs, e1, .of e2, e3⟩
  | _ => cases e
theorem RVs.at : ∀ {xs : List LV} {vs : List V} {i : Nat} {x : LV}, RVs S F ι H xs vs → xs[i]? = some x → ∃ v, vs[i]? = some v ∧ RV S F ι H x v
  | [], _, _, _, h, e => by simp at e
  | y :: xs, _, 0, x, h, e => by cases h with | cons a b => simp at e; subst e; exact ⟨_, rfl, a⟩
  | y :: xs, _, i + 1, x, h, e => by
    cases h with
    | cons a b =>
      obtain ⟨v, e1, e2⟩ := RVs.at (i := i) b (by simpa using e)
      exact ⟨v, by simpa using e1, e2⟩
theorem RVs.append : ∀ {xs ys : List LV} {vs ws : List V}, RVs S F ι H xs vs → RVs S F ι H ys ws → RVs S F ι H (xs ++ ys) (vs ++ ws)
  | [], _, _, _, a, b => by cases a; exact b
  | x :: xs, _, _, _, a, b => by cases a with | cons c d => exact .cons c (RVs.append d b)
theorem RVs.take : ∀ (n : Nat) {xs : List LV} {vs : List V}, RVs S F ι H xs vs → RVs S F ι H (xs.take n) (vs.take n)
  | 0, _, _, _ => .nil
  | _ + 1, [], _, a => by cases a; exact .nil
  | n + 1, x :: xs, _, a => by cases a with | cons c d => exact .cons c (RVs.take n d)
theorem RVs.drop : ∀ (n : Nat) {xs : List LV} {vs : List V}, RVs S F ι H xs vs → RVs S F ι H (xs.drop n) (vs.drop n)
  | 0, _, _, a => a
  | _ + 1, [], _, a => by cases a; exact .nil
  | n + 1, x :: xs, _, a => by cases a with | cons c d => exact RVs.drop n d
theorem RVs.rep {xs : List LV} {vs : List V} (a : RVs S F ι H xs vs) : ∀ k : Nat, RVs S F ι H (List.replicate k xs).flatten (List.replicate k vs).flatten
  | 0 => .nil
  | k + 1 => by
    rw [List.replicate_succ, List.replicate_succ, List.flatten_cons, List.flatten_cons]
    exact a.append (RVs.rep a k)
theorem RVs.set {v : LV} {x : V} (z : RV S F ι H v x) : ∀ (n : Nat) {xs : List LV} {vs : List V}, RVs S F ι H xs vs → RVs S F ι H (xs.set n v) (vs.set n x)
  | _, [], _, a => by cases a; exact .nil
  | 0, y :: xs, _, a => by cases a with | cons c d => exact .cons z d
  | n + 1, y :: xs, _, a => by cases a with | cons c d => exact .cons c (RVs.set z n d)
theorem RVs.strs : ∀ {zs : List (List Nat)} {vs : List V}, RVs S F ι H (zs.map LV.str) vs → vs = (zs.map fun z => (⟨z.toArray⟩ : Str)).map V.str
  | [], _, a => by cases a; rfl
  | z :: zs, _, a => by
    cases a with
    | cons c d =>
      cases c
      rw [RVs.strs d]
      rfl
theorem RVs.bls : ∀ {zs : List Bool} {vs : List V}, RVs S F ι H (zs.map LV.bl) vs → vs = zs.map V.bl
  | [], _, a => by cases a; rfl
  | z :: zs, _, a => by
    cases a with
    | cons c d =>
      cases c
      rw [RVs.bls d]
      rfl
theorem RVs.ints : ∀ {zs : List Int} {vs : List V}, RVs S F ι H (zs.map LV.int) vs → vs = zs.map V.int
  | [], _, a => by cases a; rfl
  | z :: zs, _, a => by
    cases a with
    | cons c d =>
      cases c
      rw [RVs.ints d]
      rfl
end
def LV.asStrs : List LV → Option (List (List Nat))
  | [] => some []
  | .str x :: xs => (LV.asStrs xs).map (x :: ·)
  | _ => none
def LV.asBls : List LV → Option (List Bool)
  | [] => some []
  | .bl x :: xs => (LV.asBls xs).map (x :: ·)
  | _ => none
def LV.asInts : List LV → Option (List Int)
  | [] => some []
  | .int x :: xs => (LV.asInts xs).map (x :: ·)
  | _ => none
theorem asStrs_eq : ∀ {xs : List LV} {zs : List (List Nat)}, LV.asStrs xs = some zs → xs = zs.map LV.str
  | [], _, e => by cases e; rfl
  | x :: xs, zs, e => by
    cases x <;> try (simp [LV.asStrs] at e; done)
    simp only [LV.asStrs, Option.map_eq_some_iff] at e
    obtain ⟨ys, e1, rfl⟩ := e
    rw [asStrs_eq e1]
    rfl
theorem asBls_eq : ∀ {xs : List LV} {zs : List Bool}, LV.asBls xs = some zs → xs = zs.map LV.bl
  | [], _, e => by cases e; rfl
  | x :: xs, zs, e => by
    cases x <;> try (simp [LV.asBls] at e; done)
    simp only [LV.asBls, Option.map_eq_some_iff] at e
    obtain ⟨ys, e1, rfl⟩ := e
    rw [asBls_eq e1]
    rfl
theorem asInts_eq : ∀ {xs : List LV} {zs : List Int}, LV.asInts xs = some zs → xs = zs.map LV.int
  | [], _, e => by cases e; rfl
  | x :: xs, zs, e => by
    cases x <;> try (simp [LV.asInts] at e; done)
    simp only [LV.asInts, Option.map_eq_some_iff] at e
    obtain ⟨ys, e1, rfl⟩ := e
    rw [asInts_eq e1]
    rfl
/-! ### expressions -/
def mVar (i : Nat) : ME := fun ρ h => match ρ[i]? with
  | some (some v) => .ok v h
  | _ => .bad
def mC (v : LV) : ME := fun _ h => .ok v h
def lift2 (f : LV → LV → Option LV) : LV → LV → List LO → R LV := fun v w h => match f v w with
  | some u => .ok u h
  | none => .bad
def mOp (f : LV → LV → List LO → R LV) (ma mb : ME) : ME := fun ρ h => (ma ρ h).bind fun v h1 => (mb ρ h1).bind fun w h2 => f v w h2
def mUn (f : LV → List LO → R LV) (ma : ME) : ME := fun ρ h => (ma ρ h).bind fun v h1 => f v h1
def mNil : MA := fun _ h => .ok [] h
def mCons (ma : ME) (mr : MA) : MA := fun ρ h => (ma ρ h).bind fun v h1 => (mr ρ h1).bind fun vs h2 => .ok (v :: vs) h2
def mTup (ma : MA) : ME := fun ρ h => (ma ρ h).bind fun vs h1 => if vs.length ≤ 60000 then .ok (.tup vs) h1 else .bad
def mLst (ma : MA) : ME := fun ρ h => (ma ρ h).bind fun vs h1 => if vs.length ≤ 60000 then .ok (.vl vs) h1 else .bad
/-- a list that will change -/
def mLstM (ma : MA) : ME := fun ρ h => (ma ρ h).bind fun vs h1 => if vs.length ≤ 60000 then .ok (.ref h1.length) (h1 ++ [.lst vs]) else .bad
def mB (ma : ME) : MT := fun ρ h => (ma ρ h).bind fun v h1 => match v with
  | .bl b => .ok b h1
  | _ => .bad
def mNot (mt : MT) : MT := fun ρ h => (mt ρ h).bind fun b h1 => .ok (!b) h1
def mAnd (ma mb : MT) : MT := fun ρ h => (ma ρ h).bind fun b h1 => if b = true then mb ρ h1 else .ok false h1
def mOr (ma mb : MT) : MT := fun ρ h => (ma ρ h).bind fun b h1 => if b = true then .ok true h1 else mb ρ h1
def mAndV (ma mb : ME) : ME := fun ρ h => (ma ρ h).bind fun v h1 => match v with
  | .bl b => if b = true then mb ρ h1 else .ok (.bl false) h1
  | _ => .bad
def mOrV (ma mb : ME) : ME := fun ρ h => (ma ρ h).bind fun v h1 => match v with
  | .bl b => if b = true then .ok (.bl true) h1 else mb ρ h1
  | _ => .bad
def mNotV (ma : ME) : ME := fun ρ h => (ma ρ h).bind fun v h1 => match v with
  | .bl b => .ok (.bl (!b)) h1
  | _ => .bad
def mIf (mt : MT) (ma mb : ME) : ME := fun ρ h => (mt ρ h).bind fun b h1 => if b = true then ma ρ h1 else mb ρ h1
def mChain (f g : LV → LV → List LO → R LV) (ma mb mc : ME) : ME := fun ρ h => (ma ρ h).bind fun v h1 => (mb ρ h1).bind fun w h2 => (f v w h2).bind fun u h3 => match u with
  | .bl b => if b = true then (mc ρ h3).bind fun y h4 => g w y h4 else .ok (.bl false) h3
  | _ => .bad
/-- operations by values -/
def VO (S : Se) (E : XK) (r : R2) (f : LV → LV → List LO → R LV) : Prop := ∀ F ι h H x y v w Q, Rep S.toSg F ι h H → RV S.toSg F ι H v x → RV S.toSg F ι H w y → Ok (RV S.toSg) S E F ι H (f v w h) Q → r x y H Q
def VU (S : Se) (E : XK) (r : V → Hp → VK → Prop) (f : LV → List LO → R LV) : Prop := ∀ F ι h H x v Q, Rep S.toSg F ι h H → RV S.toSg F ι H v x → Ok (RV S.toSg) S E F ι H (f v h) Q → r x H Q
section
variable {S : Se} {E : XK} {ta tb tc : TE} {ma mb mc : ME} {t u : TT} {mt mu : MT} {tA tR : TA} {mA mR : MA} {r r' : R2} {f g : LV → LV → List LO → R LV}
theorem se_var {i : Nat} : SE S E (tVar i) (mVar i) := fun F ι h H ρ σ Q rp rs o => by
  unfold mVar at o
  split at o
  · rename_i v hv
    obtain ⟨x, e1, e2⟩ := rs.get i v hv
    exact ⟨x, e1, o.now rp e2⟩
  · exact o.elim
theorem se_c {x : V} {v : LV} (z : ∀ F ι H, RV S.toSg F ι H v x) : SE S E (tC x) (mC v) := fun F ι h H ρ σ Q rp rs o => Ok.now (v := v) o rp (z F ι H)
theorem se_int {i : Int} : SE S E (tC (.int i)) (mC (.int i)) := se_c fun _ _ _ => .int i
theorem se_bl {b : Bool} : SE S E (tC (.bl b)) (mC (.bl b)) := se_c fun _ _ _ => .bl b
theorem se_non : SE S E (tC .non) (mC .non) := se_c fun _ _ _ => .non
theorem se_str {x : Str} : SE S E (tC (.str x)) (mC (.str x.cps.toList)) := se_c fun _ _ _ => RV.str x.cps.toList
theorem se_op (hr : VO S E r f) (ha : SE S E ta ma) (hb : SE S E tb mb) : SE S E (tOp r ta tb) (mOp f ma mb) := fun F ι h H ρ σ Q rp rs o =>
  ha F ι h H ρ σ _ rp rs (o.seq fun F1 ι1 H1 h1 v x _ e1 rp1 zx o1 => hb F1 ι1 h1 H1 ρ σ _ rp1 (rs.ext rp e1) (o1.seq fun F2 ι2 H2 h2 w y _ e2 rp2 zy o2 => hr F2 ι2 h2 H2 x y v w Q rp2 (zx.ext rp1 e2) zy o2))
theorem se_un {r : V → Hp → VK → Prop} {f : LV → List LO → R LV} (hr : VU S E r f) (ha : SE S E ta ma) : SE S E (tUn r ta) (mUn f ma) := fun F ι h H ρ σ Q rp rs o =>
  ha F ι h H ρ σ _ rp rs (o.seq fun F1 ι1 H1 h1 v x _ e1 rp1 zx o1 => hr F1 ι1 h1 H1 x v Q rp1 zx o1)
theorem sa_nil : SA S E tNil mNil := fun F ι h H ρ σ Q rp rs o => Ok.now (v := []) o rp .nil
theorem sa_cons (ha : SE S E ta ma) (hb : SA S E tR mR) : SA S E (tCons ta tR) (mCons ma mR) := fun F ι h H ρ σ Q rp rs o =>
  ha F ι h H ρ σ _ rp rs (o.seq fun F1 ι1 H1 h1 v x _ e1 rp1 zx o1 => hb F1 ι1 h1 H1 ρ σ _ rp1 (rs.ext rp e1) (o1.seq fun F2 ι2 H2 h2 w y _ e2 rp2 zy o2 => Ok.now (v := v :: w) o2 rp2 (.cons (zx.ext rp1 e2) zy)))
theorem le_sz {n : Nat} (h : n ≤ 60000) : n ≤ sizeLine := Nat.le_trans h (by decide)
theorem ok_tup {F : Addr → Prop} {ι : List Addr} {H : Hp} {h : List LO} {vs : List LV} {xs : List V} {Q : VK} (rp : Rep S.toSg F ι h H) (z : RVs S.toSg F ι H vs xs) (o : Ok (RV S.toSg) S E F ι H (.ok (.tup vs) h) Q) {p : Addr} (hp : H p = none) : Q (.ref p) (upd H p (.tup xs)) :=
  o F ι _ _ (EX.new hp) (rp.new hp) (.tup (.of upd_same) (z.fwd (Fwd.new rp hp) _ _))
theorem ok_vl {F : Addr → Prop} {ι : List Addr} {H : Hp} {h : List LO} {vs : List LV} {xs : List V} {Q : VK} (rp : Rep S.toSg F ι h H) (z : RVs S.toSg F ι H vs xs) (o : Ok (RV S.toSg) S E F ι H (.ok (.vl vs) h) Q) {p : Addr} (hp : H p = none) : Q (.ref p) (upd H p (.lst xs)) :=
  o F ι _ _ (EX.new hp) (rp.new hp) (.vl upd_same (nF_of_none rp hp) (z.fwd (Fwd.new rp hp) _ _))
theorem se_tup (ha : SA S E tA mA) : SE S E (tTup tA) (mTup mA) := fun F ι h H ρ σ Q rp rs o =>
  ha F ι h H ρ σ _ rp rs (o.seq fun F1 ι1 H1 h1 vs xs _ e1 rp1 z o1 => by
    split at o1
    · rename_i hl
      exact ⟨le_sz (by rw [← z.length]; exact hl), fun p hp => ok_tup rp1 z o1 hp⟩
    · exact o1.elim)
theorem se_lst (ha : SA S E tA mA) : SE S E (tLst tA) (mLst mA) := fun F ι h H ρ σ Q rp rs o =>
  ha F ι h H ρ σ _ rp rs (o.seq fun F1 ι1 H1 h1 vs xs _ e1 rp1 z o1 => by
    split at o1
    · rename_i hl
      exact ⟨le_sz (by rw [← z.length]; exact hl), fun p hp => ok_vl rp1 z o1 hp⟩
    · exact o1.elim)
/-- a changing object is laid -/
theorem EX.newM {F : Addr → Prop} {ι : List Addr} {H : Hp} {p : Addr} {o : HO} (h : H p = none) : EX S.toSg F ι H (fun a => F a ∨ a = p) (ι ++ [p]) (upd H p o) := by
  have e := EX.new (S := S) (F := F) (ι := ι) (o := o) h
  exact ⟨e.tup, e.keep, ⟨[p], rfl, fun a ha => by rw [List.mem_singleton.mp ha]; exact h⟩, fun a z => .inl z, fun a z n => z.elim (fun q => absurd q n) fun q => by rw [q]; exact h, e.dom⟩
theorem Rep.newM {F : Addr → Prop} {ι : List Addr} {H : Hp} {h : List LO} {p : Addr} {o : HO} {q : LO} (rp : Rep S.toSg F ι h H) (n : H p = none) (z : RO S.toSg (fun a => F a ∨ a = p) (ι ++ [p]) (upd H p o) q p) : Rep S.toSg (fun a => F a ∨ a = p) (ι ++ [p]) (h ++ [q]) (upd H p o) := by
  have nm : p ∉ ι := fun z => rp.dom p (rp.inF p z) n
  refine ⟨by rw [List.length_append, List.length_append, rp.len]; rfl, ?_, ?_, ?_, ?_⟩
  · rw [List.nodup_append]
    refine ⟨rp.nd, by simp, fun a ha b hb => ?_⟩
    rw [List.mem_singleton.mp hb]
    rintro rfl
    exact nm ha
  · intro a ha
    rcases List.mem_append.mp ha with z | z
    · exact .inl (rp.inF a z)
    · exact .inr (List.mem_singleton.mp z)
  · intro a ha e
    by_cases q : a = p
    · subst q; rw [upd_same] at e; cases e
    · rw [upd_ne q] at e
      exact ha.elim (fun z => rp.dom a z e) q
  · intro i u a h1 h2
    by_cases hi : i < h.length
    · rw [List.getElem?_append_left hi] at h1
      rw [List.getElem?_append_left (by rw [rp.len]; exact hi)] at h2
      refine (rp.obj i u a h1 h2).fwd ((EX.newM (S := S) n).fwd rp) fun u q => ?_
      rw [upd_ne (ne_of_none q n)]; exact q
    · have e : i = h.length := by
        have := (List.getElem?_eq_some_iff.mp h1).1
        rw [List.length_append] at this
        simp at this
        omega
      subst e
      rw [List.getElem?_append_right (Nat.le_refl _)] at h1
      rw [← rp.len, List.getElem?_append_right (Nat.le_refl _)] at h2
      simp at h1 h2
      subst h1 h2
      exact z
theorem se_lstM (ha : SA S E tA mA) : SE S E (tLst tA) (mLstM mA) := fun F ι h H ρ σ Q rp rs o =>
  ha F ι h H ρ σ _ rp rs (o.seq fun F1 ι1 H1 h1 vs xs _ e1 rp1 z o1 => by
    split at o1
    · rename_i hl
      refine ⟨le_sz (by rw [← z.length]; exact hl), fun p hp => o1 _ _ _ _ (EX.newM hp) (rp1.newM hp (.lst upd_same (z.fwd ((EX.newM (S := S) hp).fwd rp1) _ _))) (.ref ?_)⟩
      rw [← rp1.len, List.getElem?_append_right (Nat.le_refl _)]
      simp
    · exact o1.elim)
theorem st_b (ha : SE S E ta ma) : ST S E (tB ta) (mB ma) := fun F ι h H ρ σ Q rp rs o =>
  ha F ι h H ρ σ _ rp rs (o.seq fun F1 ι1 H1 h1 v x _ e1 rp1 z o1 => by
    cases z with
    | bl b => exact ⟨b, rfl, Ok.now (v := b) o1 rp1 rfl⟩
    | _ => exact o1.elim)
theorem st_test (ha : SE S E ta ma) : ST S E (tTest ta) (mB ma) := st_b ha
theorem st_not (ha : ST S E t mt) : ST S E (tNot t) (mNot mt) := fun F ι h H ρ σ Q rp rs o =>
  ha F ι h H ρ σ _ rp rs (o.seq fun F1 ι1 H1 h1 v x _ e1 rp1 z o1 => by cases z; exact Ok.now (v := !v) o1 rp1 rfl)
theorem st_and (ha : ST S E t mt) (hb : ST S E u mu) : ST S E (tAnd t u) (mAnd mt mu) := fun F ι h H ρ σ Q rp rs o =>
  ha F ι h H ρ σ _ rp rs (o.seq fun F1 ι1 H1 h1 v x _ e1 rp1 z o1 => by
    cases z
    cases v with
    | true => exact hb F1 ι1 h1 H1 ρ σ Q rp1 (rs.ext rp e1) o1
    | false => exact Ok.now (v := false) o1 rp1 rfl)
theorem st_or (ha : ST S E t mt) (hb : ST S E u mu) : ST S E (tOr t u) (mOr mt mu) := fun F ι h H ρ σ Q rp rs o =>
  ha F ι h H ρ σ _ rp rs (o.seq fun F1 ι1 H1 h1 v x _ e1 rp1 z o1 => by
    cases z
    cases v with
    | false => exact hb F1 ι1 h1 H1 ρ σ Q rp1 (rs.ext rp e1) o1
    | true => exact Ok.now (v := true) o1 rp1 rfl)
theorem se_andV (ha : SE S E ta ma) (hb : SE S E tb mb) : SE S E (tAndV ta tb) (mAndV ma mb) := fun F ι h H ρ σ Q rp rs o =>
  ha F ι h H ρ σ _ rp rs (o.seq fun F1 ι1 H1 h1 v x _ e1 rp1 z o1 => by
    cases z with
    | bl b =>
      refine ⟨b, rfl, ?_⟩
      cases b with
      | true => exact hb F1 ι1 h1 H1 ρ σ Q rp1 (rs.ext rp e1) o1
      | false => exact Ok.now (rel := RV S.toSg) (v := LV.bl false) o1 rp1 (.bl false)
    | _ => exact o1.elim)
theorem se_orV (ha : SE S E ta ma) (hb : SE S E tb mb) : SE S E (tOrV ta tb) (mOrV ma mb) := fun F ι h H ρ σ Q rp rs o =>
  ha F ι h H ρ σ _ rp rs (o.seq fun F1 ι1 H1 h1 v x _ e1 rp1 z o1 => by
    cases z with
    | bl b =>
      refine ⟨b, rfl, ?_⟩
      cases b with
      | false => exact hb F1 ι1 h1 H1 ρ σ Q rp1 (rs.ext rp e1) o1
      | true => exact Ok.now (rel := RV S.toSg) (v := LV.bl true) o1 rp1 (.bl true)
    | _ => exact o1.elim)
theorem se_notV (ha : SE S E ta ma) : SE S E (tNotV ta) (mNotV ma) := fun F ι h H ρ σ Q rp rs o =>
  ha F ι h H ρ σ _ rp rs (o.seq fun F1 ι1 H1 h1 v x _ e1 rp1 z o1 => by
    cases z with
    | bl b => exact ⟨b, rfl, Ok.now (rel := RV S.toSg) (v := LV.bl (!b)) o1 rp1 (.bl (!b))⟩
    | _ => exact o1.elim)
theorem se_if (ht : ST S E t mt) (ha : SE S E ta ma) (hb : SE S E tb mb) : SE S E (tIf t ta tb) (mIf mt ma mb) := fun F ι h H ρ σ Q rp rs o =>
  ht F ι h H ρ σ _ rp rs (o.seq fun F1 ι1 H1 h1 v x _ e1 rp1 z o1 => by
    cases z
    cases v with
    | true => exact ha F1 ι1 h1 H1 ρ σ Q rp1 (rs.ext rp e1) o1
    | false => exact hb F1 ι1 h1 H1 ρ σ Q rp1 (rs.ext rp e1) o1)
theorem se_chain (hr : VO S E r f) (hr' : VO S E r' g) (ha : SE S E ta ma) (hb : SE S E tb mb) (hc : SE S E tc mc) : SE S E (tChain r r' ta tb tc) (mChain f g ma mb mc) := fun F ι h H ρ σ Q rp rs o =>
  ha F ι h H ρ σ _ rp rs (o.seq fun F1 ι1 H1 h1 v x _ e1 rp1 zx o1 => hb F1 ι1 h1 H1 ρ σ _ rp1 (rs.ext rp e1) (o1.seq fun F2 ι2 H2 h2 w y _ e2 rp2 zy o2 =>
    hr F2 ι2 h2 H2 x y v w _ rp2 (zx.ext rp1 e2) zy (o2.seq fun F3 ι3 H3 h3 u z _ e3 rp3 zz o3 => by
      cases zz with
      | bl b =>
        refine ⟨b, rfl, ?_⟩
        cases b with
        | true => exact hc F3 ι3 h3 H3 ρ σ _ rp3 (((rs.ext rp e1).ext rp1 e2).ext rp2 e3) (Ok.seq (rel := RV S.toSg) o3 fun F4 ι4 H4 h4 y2 w2 _ e4 rp4 z4 o4 => hr' F4 ι4 h4 H4 y w2 w y2 Q rp4 ((zy.ext rp2 e3).ext rp3 e4) z4 o4)
        | false => exact Ok.now (rel := RV S.toSg) (v := LV.bl false) o3 rp3 (.bl false)
      | _ => exact o3.elim)))
theorem VO.or {f1 f2 : LV → LV → List LO → R LV} (d : LV → LV → Bool) (h1 : VO S E r f1) (h2 : VO S E r' f2) : VO S E (fun x y H Q => r x y H Q ∨ r' x y H Q) (fun v w h => if d v w = true then f1 v w h else f2 v w h) := fun F ι h H x y v w Q rp zx zy o => by
  dsimp only at o ⊢
  by_cases e : d v w = true
  · rw [if_pos e] at o; exact .inl (h1 F ι h H x y v w Q rp zx zy o)
  · rw [if_neg e] at o; exact .inr (h2 F ι h H x y v w Q rp zx zy o)
end
end Rm
namespace Rm
open PySem PySem.Spec PyProof.Rows L2
theorem ofl_app (x y : List Nat) : ((⟨x.toArray⟩ : Str) ++ (⟨y.toArray⟩ : Str)) = ⟨(x ++ y).toArray⟩ := by
  show (⟨x.toArray ++ y.toArray⟩ : Str) = ⟨(x ++ y).toArray⟩
  rw [List.append_toArray]
theorem ofl_len (l : List Nat) : (⟨l.toArray⟩ : Str).length = l.length := by
  show l.toArray.size = l.length
  exact List.size_toArray ..
theorem ofl_inj {x y : List Nat} : (⟨x.toArray⟩ : Str) = ⟨y.toArray⟩ ↔ x = y :=
  ⟨fun h => congrArg (fun z : Str => z.cps.toList) h, fun h => by rw [h]⟩
/-! ### numbers, sums -/
def fAdd (v w : LV) (h : List LO) : R LV := match v, w with
  | .int i, .int j => .ok (.int (i + j)) h
  | .str x, .str y => if x.length + y.length ≤ 60000 then .ok (.str (x ++ y)) h else .bad
  | .tup x, .tup y => if x.length + y.length ≤ 60000 then .ok (.tup (x ++ y)) h else .bad
  | v, w => match v.lst h, w.lst h with
    | some xs, some ys => if xs.length + ys.length ≤ 60000 then .ok (.vl (xs ++ ys)) h else .bad
    | _, _ => .bad
def fSub (v w : LV) (h : List LO) : R LV := match v, w with
  | .int i, .int j => .ok (.int (i - j)) h
  | _, _ => .bad
def fMul (v w : LV) (h : List LO) : R LV := match v, w with
  | .int i, .int j => if -(2 ^ 64) < i ∧ i < 2 ^ 64 ∨ -(2 ^ 64) < j ∧ j < 2 ^ 64 then .ok (.int (i * j)) h else .bad
  | .tup x, .int j => if 0 ≤ j ∧ j ≤ 1000 ∧ x.length ≤ 1000 then .ok (.tup (List.replicate j.toNat x).flatten) h else .bad
  | v, .int j => match v.lst h with
    | some xs => if 0 ≤ j ∧ j ≤ 1000 ∧ xs.length * j.toNat ≤ 60000 then .ok (.vl (List.replicate j.toNat xs).flatten) h else .bad
    | none => .bad
  | _, _ => .bad
def fMod (v w : LV) (h : List LO) : R LV := match v, w with
  | .int i, .int j => if 0 < j then .ok (.int (i % j)) h else .bad
  | _, _ => .bad
def fDiv (v w : LV) (h : List LO) : R LV := match v, w with
  | .int i, .int j => if 0 < j ∧ j < 1073741824 then .ok (.int (i / j)) h else .bad
  | _, _ => .bad
def fCmp (g : Int → Int → Bool) (v w : LV) (h : List LO) : R LV := match v, w with
  | .int i, .int j => .ok (.bl (g i j)) h
  | _, _ => .bad
/-- the library lacks t * k where nothing is doubled: a tuple, times 0 or 1 (proved below) -/
def rAddAll (K : PySem.W.Frag) : R2 := fun x y H Q => (rI0 fun i j => .int (i + j)) x y H Q ∨ (∃ i j, x = .str i ∧ y = .str j ∧ i.length + j.length ≤ sizeLine ∧ Q (.str (i ++ j)) H) ∨ rCat x y H Q ∨ rCatA K x y H Q
theorem op_addAll {X : Cx} : OpR X (binaryOp .Add) (rAddAll X.K) := op_add.or (op_add_str.or (op_cat.or op_catA))
section
variable {S : Se} {E : XK}
theorem vo_add : VO S E (rAddAll S.K) fAdd := fun F ι h H x y v w Q rp zx zy o => by
  unfold fAdd at o
  split at o
  · cases zx; cases zy
    exact .inl ⟨_, _, rfl, rfl, Ok.now (rel := RV S.toSg) o rp (.int _)⟩
  · cases zx; cases zy
    split at o
    · rename_i hl
      refine .inr (.inl ⟨_, _, rfl, rfl, le_sz (by rw [ofl_len, ofl_len]; exact hl), ?_⟩)
      rw [ofl_app]
      exact Ok.now (rel := RV S.toSg) o rp (.str _)
    · exact o.elim
  · split at o
    · rename_i hl
      cases zx with
      | tup a b =>
        cases zy with
        | tup c d =>
          refine .inr (.inr (.inr ⟨_, _, _, _, rfl, rfl, a, c, le_sz (by rw [← b.length, ← d.length]; exact hl), fun e => ?_, fun _ e => ?_, fun _ _ p hp => ok_tup rp (b.append d) o hp⟩))
          · have q := b.length
            rw [e] at q
            have e2 := List.eq_nil_of_length_eq_zero q
            subst e2
            exact Ok.now (rel := RV S.toSg) o rp (.tup c d)
          · have q := d.length
            rw [e] at q
            have e2 := List.eq_nil_of_length_eq_zero q
            subst e2
            rw [List.append_nil] at o
            exact Ok.now (rel := RV S.toSg) o rp (.tup a b)
    · exact o.elim
  · split at o
    · rename_i xs ys e1 e2
      split at o
      · rename_i hl
        obtain ⟨a, vs, rfl, h1, z1⟩ := lst_of rp zx e1
        obtain ⟨b, ws, rfl, h2, z2⟩ := lst_of rp zy e2
        exact .inr (.inr (.inl ⟨_, _, _, _, rfl, rfl, h1, h2, le_sz (by rw [← z1.length, ← z2.length]; exact hl), fun p hp => ok_vl rp (z1.append z2) o hp⟩))
      · exact o.elim
    · exact o.elim
theorem vo_sub : VO S E (rI0 fun i j => V.int (i - j)) fSub := fun F ι h H x y v w Q rp zx zy o => by
  unfold fSub at o
  split at o
  · cases zx; cases zy
    exact ⟨_, _, rfl, rfl, Ok.now (rel := RV S.toSg) o rp (.int _)⟩
  · exact o.elim
theorem vo_mod : VO S E (rI (fun _ j => 0 < j) fun i j => V.int (i % j)) fMod := fun F ι h H x y v w Q rp zx zy o => by
  unfold fMod at o
  split at o
  · cases zx; cases zy
    split at o
    · rename_i hl
      exact ⟨_, _, rfl, rfl, hl, Ok.now (rel := RV S.toSg) o rp (.int _)⟩
    · exact o.elim
  · exact o.elim
theorem vo_div : VO S E (rI CDiv fun i j => V.int (i / j)) fDiv := fun F ι h H x y v w Q rp zx zy o => by
  unfold fDiv at o
  split at o
  · cases zx; cases zy
    split at o
    · rename_i hl
      exact ⟨_, _, rfl, rfl, hl, Ok.now (rel := RV S.toSg) o rp (.int _)⟩
    · exact o.elim
  · exact o.elim
theorem vo_cmp {g : Int → Int → Bool} : VO S E (rI0 fun i j => V.bl (g i j)) (fCmp g) := fun F ι h H x y v w Q rp zx zy o => by
  unfold fCmp at o
  split at o
  · cases zx; cases zy
    exact ⟨_, _, rfl, rfl, Ok.now (rel := RV S.toSg) o rp (.bl _)⟩
  · exact o.elim
end
/-! ### t * k for every k -/
theorem tuple_mulA1 (l : Addr) (items : Array Value) (n : Nat) (dd : Option Addr) (sl : Array (Option Value)) (x : Int) (u : Tok) (c0 : (decide (x < -(2 ^ 63)) || decide (x ≥ 2 ^ 63)) = false) (c1 : (items.isEmpty || x == 1) = true) :
    Meets (Builtin.«tuple.__mul__» ⟨[.ref l, .int x u], []⟩) (fun _ R s => s.heap.get? l = some { cls := .type "tuple", dict := dd, data := .seq items n, slots := sl } ∧
      R (.ok (.ret (Value.ref l))) s) :=
  .of_wp fun prog w A R s h => by
    obtain ⟨hp, g, d, tk, os⟩ := s
    obtain ⟨hl, h⟩ := h
    have f1 := AutoSeq1.idx_int
    wp_walk using wpAny_loadPart' hl
    repeat (first
      | (refine wpAny_ite_false (decide_eq_false (by rw [c0]; exact Bool.false_ne_true)) ?_; wp_walk using wpAny_loadPart' hl)
      | (refine wpAny_ite_true (decide_eq_true c1) ?_; wp_walk using wpAny_loadPart' hl))
    exact ⟨_, rfl, h⟩
theorem tuple_mulA0 (l : Addr) (items : Array Value) (n : Nat) (dd : Option Addr) (sl : Array (Option Value)) (u : Tok) (c1 : (items.isEmpty || (0 : Int) == 1) = false) :
    Meets (Builtin.«tuple.__mul__» ⟨[.ref l, .int 0 u], []⟩) (fun _ R s => s.heap.get? l = some { cls := .type "tuple", dict := dd, data := .seq items n, slots := sl } ∧
      R (.ok (.ret (Value.ref s.heap.objs.size))) { s with heap := s.heap.push { cls := Value.type "tuple", data := Data.seq #[] }, toks := s.toks }) :=
  .of_wp fun prog w A R s h => by
    obtain ⟨hp, g, d, tk, os⟩ := s
    obtain ⟨hl, h⟩ := h
    have f1 := AutoSeq1.idx_int
    wp_walk using wpAny_loadPart' hl
    repeat (first
      | (refine wpAny_ite_false (decide_eq_false (by rw [c1]; exact Bool.false_ne_true)) ?_; wp_walk using wpAny_loadPart' hl))
    exact ⟨_, rfl, h⟩
def rRepA (K : PySem.W.Frag) : R2 := fun x y H Q => ∃ (l : Addr) (k : Nat) (xs : List V), x = .ref l ∧ y = .int (k : Int) ∧ SqT K H l xs ∧ k ≤ 1000 ∧ xs.length ≤ 1000 ∧
  ((xs = [] ∨ k = 1) → Q (.ref l) H) ∧ (¬ (xs = [] ∨ k = 1) → ∀ p, H p = none → Q (.ref p) (upd H p (.tup (List.replicate k xs).flatten)))
theorem op_repA {X : Cx} : OpR X (binaryOp .Mult) (rRepA X.K) := by
  intro pins s σ H x y v u Q I rx ry h
  obtain ⟨l, k, xs, rfl, rfl, hT, h2, h3, q1, q2⟩ := h
  by_cases hq : xs = [] ∨ k = 1
  · have q := q1 hq
    cases rx
    obtain ⟨t, rfl⟩ := ry
    obtain ⟨its, r, ⟨⟨cls, dd, data, sl⟩, ho, hc, n, hd⟩, hs⟩ := I.tuple hT
    simp only at hc hd
    subst hc hd
    refine wpAny_binaryOp_repeat_ref (T := "tuple") (U := "int") (by decide) ⟨_, ho, rfl⟩ (fun s' => typeIs_int s' _ t) noFill_tuple_mul F.fills_int_mul F.slot_int_rmul repeat_tuple F.slot_int_index.lookup
        (call_meets F.slot_int_rmul (typeIs_int s _ t) F.entry_int_rmul (F.args_int_rmul_2 _ _) (int_rmul_tuple _ t l _ n dd sl)
          ⟨ho, rfl, ⟨_, ho, rfl⟩, call_meets F.slot_tuple_mul ⟨_, ho, rfl⟩ F.entry_tuple_mul (F.args_tuple_mul_2 _ _) (tuple_mulA1 l its.toArray n dd sl (k : Int) t ?_ ?_) ⟨ho, ?_⟩⟩)
    · rw [Bool.or_eq_false_iff, decide_eq_false_iff_not, decide_eq_false_iff_not]
      omega
    · rcases hq with e | e
      · have e2 := r.length
        rw [e] at e2
        have e3 := List.eq_nil_of_length_eq_zero e2.symm
        subst e3
        rfl
      · subst e
        simp
    · exact ⟨.ref l, H, I, rfl, q⟩
  · have q := q2 hq
    have hx : xs ≠ [] := fun e => hq (.inl e)
    have hk : k ≠ 1 := fun e => hq (.inr e)
    by_cases h1 : 2 ≤ k
    · refine op_repT (X := X) pins s σ H _ _ v u Q I rx ry ⟨l, (k : Int), xs, rfl, rfl, hT, hx, by omega, by omega, h3, fun p hp => ?_⟩
      rw [Int.toNat_natCast]
      exact q p hp
    · obtain rfl : k = 0 := by omega
      cases rx
      obtain ⟨t, rfl⟩ := ry
      obtain ⟨its, r, ⟨⟨cls, dd, data, sl⟩, ho, hc, n, hd⟩, hs⟩ := I.tuple hT
      simp only at hc hd
      subst hc hd
      refine wpAny_binaryOp_repeat_ref (T := "tuple") (U := "int") (by decide) ⟨_, ho, rfl⟩ (fun s' => typeIs_int s' _ t) noFill_tuple_mul F.fills_int_mul F.slot_int_rmul repeat_tuple F.slot_int_index.lookup
        (call_meets F.slot_int_rmul (typeIs_int s _ t) F.entry_int_rmul (F.args_int_rmul_2 _ _) (int_rmul_tuple _ t l _ n dd sl)
          ⟨ho, rfl, ⟨_, ho, rfl⟩, call_meets F.slot_tuple_mul ⟨_, ho, rfl⟩ F.entry_tuple_mul (F.args_tuple_mul_2 _ _) (tuple_mulA0 l its.toArray n dd sl t ?_) ⟨ho, ?_⟩⟩)
      · cases its with
        | nil =>
          have e2 := r.length
          exact absurd (List.eq_nil_of_length_eq_zero e2) hx
        | cons a b => rfl
      · refine ⟨.ref s.heap.objs.size, _, I.laid (t' := s.toks) (o := .tup []) (fun b ob q => Heap.get?_push_of_some _ q) (Nat.le_refl _) ?_, rfl, q _ (I.hok.fresh (Nat.le_refl _))⟩
        exact ⟨Nat.zero_le _, _, .nil, IsTup.new _ _⟩
def rMulAll (K : PySem.W.Frag) : R2 := fun x y H Q => (rI CMul fun i j => .int (i * j)) x y H Q ∨ rRep x y H Q ∨ rRepA K x y H Q
theorem op_mulAll {X : Cx} : OpR X (binaryOp .Mult) (rMulAll X.K) := op_mul.or (op_rep.or op_repA)
section
variable {S : Se} {E : XK}
theorem vo_mul : VO S E (rMulAll S.K) fMul := fun F ι h H x y v w Q rp zx zy o => by
  unfold fMul at o
  split at o
  · cases zx; cases zy
    split at o
    · rename_i hl
      exact .inl ⟨_, _, rfl, rfl, hl, Ok.now (rel := RV S.toSg) o rp (.int _)⟩
    · exact o.elim
  · rename_i xs j
    cases zx with
    | @tup a _ vs hT b =>
      cases zy
      refine .inr (.inr ?_)
      split at o
      · rename_i e
        obtain ⟨k, rfl⟩ : ∃ k : Nat, j = (k : Int) := ⟨j.toNat, by omega⟩
        rw [Int.toNat_natCast] at o
        refine ⟨a, k, vs, rfl, rfl, hT, by omega, by rw [← b.length]; omega, fun q => ?_, fun q p hp => ok_tup rp (b.rep k) o hp⟩
        refine Ok.now (rel := RV S.toSg) o rp (.tup hT ?_)
        rcases q with q | q
        · subst q
          have e2 := List.eq_nil_of_length_eq_zero b.length
          subst e2
          have e3 : ∀ n : Nat, (List.replicate n ([] : List LV)).flatten = [] := fun n => by simp
          rw [e3]
          exact .nil
        · subst q
          have e3 : (List.replicate 1 xs).flatten = xs := by simp [List.replicate]
          rw [e3]
          exact b
      · exact o.elim
  · split at o
    · rename_i xs e
      split at o
      · rename_i hj
        obtain ⟨a, vs, rfl, h1, z1⟩ := lst_of rp zx e
        cases zy
        exact .inr (.inl ⟨_, _, _, rfl, rfl, h1, by omega, by omega, le_sz (by rw [← z1.length]; omega), fun p hp => ok_vl rp (z1.rep _) o hp⟩)
      · exact o.elim
    · exact o.elim
  · exact o.elim
end
end Rm
namespace Rm
open PySem PySem.Spec PyProof.Rows L2
/-! ### equality -/
def scL : LV → LV → Option Bool
  | .non, .non => some true | .non, .int _ => some false | .int _, .non => some false | .non, .bl _ => some false | .bl _, .non => some false | .non, .str _ => some false | .str _, .non => some false
  | .int a, .int b => some (decide (a = b)) | .bl a, .bl b => some (decide (a = b)) | .str a, .str b => some (decide (a = b))
  | .int _, .str _ => some false | .str _, .int _ => some false | .bl _, .str _ => some false | .str _, .bl _ => some false
  | _, _ => none
mutual
def LV.dat (h : List LO) : Nat → LV → Option PyData
  | 0, _ => none
  | _ + 1, .non => some .none
  | _ + 1, .bl b => some (.bool b)
  | _ + 1, .int i => some (.int i)
  | _ + 1, .str x => some (.str ⟨x.toArray⟩)
  | n + 1, .tup xs => (LV.dats h n xs).map .tuple
  | n + 1, .vl xs => (LV.dats h n xs).map .list
  | n + 1, .fz xs => (LV.dats h n xs).map .list
  | n + 1, .ref i => match h[i]? with
    | some (.lst xs) => (LV.dats h n xs).map .list
    | _ => none
  | _ + 1, _ => none
def LV.dats (h : List LO) : Nat → List LV → Option (List PyData)
  | 0, _ => none
  | _ + 1, [] => some []
  | n + 1, x :: xs => match LV.dat h n x, LV.dats h n xs with
    | some d, some ds => some (d :: ds)
    | _, _ => none
end
section
variable {S : Sg} {F : Addr → Prop} {ι : List Addr} {H : Hp} {h : List LO}
mutual
theorem dat_of (r : Rep S F ι h H) : ∀ (n : Nat) (v : LV) (d : PyData) (x : V), LV.dat h n v = some d → RV S F ι H v x → Dp S.K H x d
  | 0, _, _, _, e, _ => by simp [LV.dat] at e
  | n + 1, .non, d, x, e, z => by simp only [LV.dat] at e; cases e; cases z; exact .non
  | n + 1, .bl _, d, x, e, z => by simp only [LV.dat] at e; cases e; cases z; exact .bl _
  | n + 1, .int _, d, x, e, z => by simp only [LV.dat] at e; cases e; cases z; exact .int _
  | n + 1, .str _, d, x, e, z => by simp only [LV.dat] at e; cases e; cases z; exact .str _
  | n + 1, .tup xs, d, x, e, z => by
    simp only [LV.dat, Option.map_eq_some_iff] at e
    obtain ⟨ds, e1, rfl⟩ := e
    cases z with | tup a b => exact .tup a (dats_of r n xs ds _ e1 b)
  | n + 1, .vl xs, d, x, e, z => by
    simp only [LV.dat, Option.map_eq_some_iff] at e
    obtain ⟨ds, e1, rfl⟩ := e
    cases z with | vl a _ b => exact .lst (.of a) (dats_of r n xs ds _ e1 b)
  | n + 1, .fz xs, d, x, e, z => by
    simp only [LV.dat, Option.map_eq_some_iff] at e
    obtain ⟨ds, e1, rfl⟩ := e
    cases z with | fz a b => exact .lst a.sq (dats_of r n xs ds _ e1 b)
  | n + 1, .ref i, d, x, e, z => by
    simp only [LV.dat] at e
    split at e
    · rename_i xs hi
      simp only [Option.map_eq_some_iff] at e
      obtain ⟨ds, e1, rfl⟩ := e
      cases z with
      | ref q =>
        have g := r.at hi q
        cases g with
        | lst a b => exact .lst (.of a) (dats_of r n xs ds _ e1 b)
    · cases e
  | n + 1, .vd _ _, d, x, e, _ => by simp [LV.dat] at e
  | n + 1, .sd _ _, d, x, e, _ => by simp [LV.dat] at e
  | n + 1, .obj _ _, d, x, e, _ => by simp [LV.dat] at e
theorem dats_of (r : Rep S F ι h H) : ∀ (n : Nat) (v : List LV) (d : List PyData) (x : List V), LV.dats h n v = some d → RVs S F ι H v x → DpAll S.K H x d
  | 0, _, _, _, e, _ => by simp [LV.dats] at e
  | n + 1, [], d, x, e, z => by simp only [LV.dats] at e; cases e; cases z; exact .nil
  | n + 1, v :: vs, d, x, e, z => by
    simp only [LV.dats] at e
    split at e
    · rename_i d1 ds1 h1 h2
      cases e
      cases z with | cons a b => exact .cons (dat_of r n v d1 _ h1 a) (dats_of r n vs ds1 _ h2 b)
    · cases e
end
end
def fEq (neg : Bool) (v w : LV) (h : List LO) : R LV := match scL v w with
  | some b => .ok (.bl (if neg then !b else b)) h
  | none => match LV.dat h 20000 v, LV.dat h 20000 w with
    | some d, some e => if SeqAt.shaped d && SeqAt.shaped e then .ok (.bl (if neg then !PyData.eqv d e else PyData.eqv d e)) h else .bad
    | _, _ => .bad
def rEqAll (K : PySem.W.Frag) : R2 := fun x y H Q => rEq x y H Q ∨ rEqD K x y H Q
def rNeAll (K : PySem.W.Frag) : R2 := fun x y H Q => rNe x y H Q ∨ rNeD K x y H Q
theorem op_eqAll {X : Cx} (hu : X.A.units + 64 < cLine) : OpR X (compareOp .Eq) (rEqAll X.K) := op_eq.or (op_eqD hu)
theorem op_neAll {X : Cx} (hu : X.A.units + 64 < cLine) : OpR X (compareOp .NotEq) (rNeAll X.K) := op_ne.or (op_neD hu)
theorem scL_of {S : Sg} {F : Addr → Prop} {ι : List Addr} {H : Hp} {v w : LV} {x y : V} {b : Bool} (zx : RV S F ι H v x) (zy : RV S F ι H w y) (e : scL v w = some b) : scal x y = true ∧ decide (x = y) = b := by
  cases zx <;> cases zy <;> first | (cases e; exact ⟨rfl, rfl⟩) | (cases e; refine ⟨rfl, ?_⟩; simp; done) | (simp [scL] at e; done) | skip
  all_goals (cases e; refine ⟨rfl, ?_⟩)
  all_goals (simp [ofl_inj])
section
variable {S : Se} {E : XK}
theorem vo_eq : VO S E (rEqAll S.K) (fEq false) := fun F ι h H x y v w Q rp zx zy o => by
  unfold fEq at o
  split at o
  · rename_i b e
    obtain ⟨h1, h2⟩ := scL_of zx zy e
    refine .inl ⟨h1, ?_⟩
    rw [h2]
    exact Ok.now (rel := RV S.toSg) o rp (.bl _)
  · split at o
    · rename_i d e h1 h2
      split at o
      · rename_i hs
        rw [Bool.and_eq_true] at hs
        exact .inr ⟨d, e, dat_of rp _ _ _ _ h1 zx, dat_of rp _ _ _ _ h2 zy, hs.1, hs.2, Ok.now (rel := RV S.toSg) o rp (.bl _)⟩
      · exact o.elim
    · exact o.elim
theorem vo_ne : VO S E (rNeAll S.K) (fEq true) := fun F ι h H x y v w Q rp zx zy o => by
  unfold fEq at o
  split at o
  · rename_i b e
    obtain ⟨h1, h2⟩ := scL_of zx zy e
    refine .inl ⟨h1, ?_⟩
    rw [h2]
    exact Ok.now (rel := RV S.toSg) o rp (.bl _)
  · split at o
    · rename_i d e h1 h2
      split at o
      · rename_i hs
        rw [Bool.and_eq_true] at hs
        exact .inr ⟨d, e, dat_of rp _ _ _ _ h1 zx, dat_of rp _ _ _ _ h2 zy, hs.1, hs.2, Ok.now (rel := RV S.toSg) o rp (.bl _)⟩
      · exact o.elim
    · exact o.elim
end
/-! ### is -/
def fIsN (neg : Bool) (v w : LV) (h : List LO) : R LV := match w with
  | .non => match v with
    | .non => .ok (.bl (!neg)) h
    | _ => .ok (.bl neg) h
  | .bl b => match v with
    | .bl a => .ok (.bl (if neg then !decide (a = b) else decide (a = b))) h
    | .non => .ok (.bl neg) h
    | _ => .bad
  | _ => .bad
def rIsAll : R2 := fun x y H Q => (y = .non ∧ Q (.bl (decide (x = .non))) H) ∨ rIsB x y H Q ∨ (x = .non ∧ (∃ b, y = .bl b) ∧ Q (.bl false) H)
def rNotAll : R2 := fun x y H Q => (y = .non ∧ Q (.bl (!decide (x = .non))) H) ∨ rNotB x y H Q ∨ (x = .non ∧ (∃ b, y = .bl b) ∧ Q (.bl true) H)
theorem op_isNB {X : Cx} : OpR X (compareOp .Is) (fun x y H Q => x = .non ∧ (∃ b, y = .bl b) ∧ Q (.bl false) H) := by
  rintro pins s σ H x y v u Q I rx ry ⟨rfl, ⟨b, rfl⟩, q⟩
  cases rx
  cases ry
  exact wpAny_is_other rfl (fun z => nomatch z) ⟨.bl false, H, I, rfl, q⟩
theorem op_notNB {X : Cx} : OpR X (compareOp .IsNot) (fun x y H Q => x = .non ∧ (∃ b, y = .bl b) ∧ Q (.bl true) H) := by
  rintro pins s σ H x y v u Q I rx ry ⟨rfl, ⟨b, rfl⟩, q⟩
  cases rx
  cases ry
  exact wpAny_isNot_other rfl (fun z => nomatch z) ⟨.bl true, H, I, rfl, q⟩
theorem op_isAll {X : Cx} : OpR X (compareOp .Is) rIsAll := op_isN.or (op_isBl.or op_isNB)
theorem op_notAll {X : Cx} : OpR X (compareOp .IsNot) rNotAll := op_notN.or (op_notBl.or op_notNB)
section
variable {S : Se} {E : XK}
theorem vo_is : VO S E rIsAll (fIsN false) := fun F ι h H x y v w Q rp zx zy o => by
  unfold fIsN at o
  cases zy with
  | non =>
    refine .inl ⟨rfl, ?_⟩
    cases zx <;> exact Ok.now (rel := RV S.toSg) o rp (.bl _)
  | bl b =>
    cases zx with
    | bl a => exact .inr (.inl ⟨a, b, rfl, rfl, Ok.now (rel := RV S.toSg) o rp (.bl _)⟩)
    | non => exact .inr (.inr ⟨rfl, ⟨b, rfl⟩, Ok.now (rel := RV S.toSg) o rp (.bl _)⟩)
    | _ => exact o.elim
  | _ => exact o.elim
theorem vo_not : VO S E rNotAll (fIsN true) := fun F ι h H x y v w Q rp zx zy o => by
  unfold fIsN at o
  cases zy with
  | non =>
    refine .inl ⟨rfl, ?_⟩
    cases zx <;> exact Ok.now (rel := RV S.toSg) o rp (.bl _)
  | bl b =>
    cases zx with
    | bl a => exact .inr (.inl ⟨a, b, rfl, rfl, Ok.now (rel := RV S.toSg) o rp (.bl _)⟩)
    | non => exact .inr (.inr ⟨rfl, ⟨b, rfl⟩, Ok.now (rel := RV S.toSg) o rp (.bl _)⟩)
    | _ => exact o.elim
  | _ => exact o.elim
end
/-! ### written dicts: by their place -/
def KIn (K : PySem.W.Frag) (w : World) (p : Addr) (x : Str) (b : Bool) : Prop :=
  ∃ es n r, K.lookup p = some ⟨.type "dict", none, .dict es n, #[]⟩ ∧ PySem.W.KeysLit w.params es.toList ∧ (p == sysModules) = false ∧ PySem.W.nsIn K p x = some r ∧ r.isSome = b
def rInK (K : PySem.W.Frag) (w : World) : R2 := fun x y H Q => ∃ p z b, x = .str z ∧ y = .ref p ∧ KIn K w p z b ∧ Q (.bl b) H
theorem op_in_kd {X : Cx} : OpR X (compareOp .In) (rInK X.K X.w) := by
  intro pins s σ H x y v u Q I rx ry h
  obtain ⟨p, z, b, rfl, rfl, ⟨es, n, r, hl, hk, lo, e, hb⟩, q⟩ := h
  obtain ⟨t, rfl⟩ := rx
  obtain rfl : u = Value.ref p := ry
  refine wpAny_in_of (strKind_is X.prog X.w z t) lo (PySem.W.mapOf_K (prog := X.prog) (w := X.w) I.kIn hl hk) ?_
  rw [PySem.W.find_K hl e]
  exact ⟨.bl b, H, I.tok _, by rw [hb]; rfl, q⟩
/-- a table: what a written dict has at those keys that are asked for -/
abbrev KT := List (List Nat × Option LV)
structure KTab (S : Sg) (p : Addr) (t : KT) : Prop where
  has : ∀ k o, t.lookup k = some o → KIn S.K S.w p ⟨k.toArray⟩ o.isSome
  get : ∀ k v, t.lookup k = some (some v) → ∃ x, KDct S.K S.w p ⟨k.toArray⟩ x ∧ ∀ F ι H, RV S F ι H v x
def mInK (t : KT) (ma : ME) : ME := fun ρ h => (ma ρ h).bind fun v h1 => match v with
  | .str k => match t.lookup k with
    | some o => .ok (.bl o.isSome) h1
    | none => .bad
  | _ => .bad
def mIxK (t : KT) (ma : ME) : ME := fun ρ h => (ma ρ h).bind fun v h1 => match v with
  | .str k => match t.lookup k with
    | some (some v) => .ok v h1
    | _ => .bad
  | _ => .bad
section
variable {S : Se} {E : XK} {ta tb : TE} {ma mb : ME}
theorem se_inK {p : Addr} {t : KT} (T : KTab S.toSg p t) (ha : SE S E ta ma) : SE S E (tOp (rInK S.K S.w) ta (tC (.ref p))) (mInK t ma) := fun F ι h H ρ σ Q rp rs o =>
  ha F ι h H ρ σ _ rp rs (o.seq fun F1 ι1 H1 h1 v x _ e1 rp1 zx o1 => by
    cases zx with
    | str k =>
      dsimp only at o1
      split at o1
      · rename_i ov e
        exact ⟨p, _, ov.isSome, rfl, rfl, T.has k ov e, Ok.now (rel := RV S.toSg) o1 rp1 (.bl _)⟩
      · exact o1.elim
    | _ => exact o1.elim)
theorem se_ixK {p : Addr} {t : KT} (T : KTab S.toSg p t) (hb : SE S E tb mb) : SE S E (tOp (rIxD S.K S.w) (tC (.ref p)) tb) (mIxK t mb) := fun F ι h H ρ σ Q rp rs o =>
  hb F ι h H ρ σ _ rp rs (o.seq fun F1 ι1 H1 h1 v x _ e1 rp1 zx o1 => by
    cases zx with
    | str k =>
      dsimp only at o1
      split at o1
      · rename_i lv e
        obtain ⟨y, hy, zy⟩ := T.get k lv e
        exact ⟨p, _, y, rfl, rfl, hy, Ok.now (rel := RV S.toSg) o1 rp1 (zy _ _ _)⟩
      · exact o1.elim
    | _ => exact o1.elim)
end
/-! ### x in a text, a list, a tuple -/
def flatL : LV → Bool
  | .non => true | .bl _ => true | .int _ => true | .str _ => true | _ => false
def eqF : LV → LV → Bool
  | .non, .non => true
  | .bl a, .bl b => a == b
  | .bl a, .int b => (if a then 1 else 0) == b
  | .int a, .bl b => a == (if b then 1 else 0)
  | .int a, .int b => a == b
  | .str a, .str b => a == b
  | _, _ => false
def LV.seq (h : List LO) : LV → Option (List LV)
  | .tup xs => some xs
  | x => x.lsf h
def fIn (neg : Bool) (v w : LV) (h : List LO) : R LV := match v, w with
  | .str [c], .str z => .ok (.bl (if neg then !decide (c ∈ z) else decide (c ∈ z))) h
  | v, w => match w.seq h with
    | some ys => if flatL v && ys.all flatL then .ok (.bl (if neg then !(ys.any fun y => eqF y v) else ys.any fun y => eqF y v)) h else .bad
    | none => .bad
def rInAll (K : PySem.W.Frag) : R2 := fun x y H Q => (∃ (c : Nat) (z : Str), x = .str ⟨#[c]⟩ ∧ y = .str z ∧ Q (.bl (decide (c ∈ z.cps.toList))) H) ∨ rIn K false x y H Q
def rNiAll (K : PySem.W.Frag) : R2 := fun x y H Q => (∃ (c : Nat) (z : Str), x = .str ⟨#[c]⟩ ∧ y = .str z ∧ Q (.bl (!decide (c ∈ z.cps.toList))) H) ∨ rIn K true x y H Q
theorem op_inAll {X : Cx} : OpR X (compareOp .In) (rInAll X.K) := op_in_sign.or op_in_seq
theorem op_niAll {X : Cx} : OpR X (compareOp .NotIn) (rNiAll X.K) := op_notIn_sign.or op_notIn_seq
section
variable {S : Sg} {F : Addr → Prop} {ι : List Addr} {H : Hp} {h : List LO}
theorem seq_of (r : Rep S F ι h H) {v : LV} {x : V} {xs : List LV} (z : RV S F ι H v x) (e : v.seq h = some xs) : ∃ a vs, x = .ref a ∧ (SqL S.K H a vs ∨ SqT S.K H a vs) ∧ RVs S F ι H xs vs := by
  cases z with
  | tup a b => cases e; exact ⟨_, _, rfl, .inr a, b⟩
  | fz a b => cases e; exact ⟨_, _, rfl, .inl a.sq, b⟩
  | vl a n b => cases e; exact ⟨_, _, rfl, .inl (.of a), b⟩
  | ref q =>
    obtain ⟨a, vs, e1, e2, e3⟩ := lst_of r (.ref q) (show LV.lst h _ = some xs from e)
    exact ⟨a, vs, e1, .inl (.of e2), e3⟩
  | _ => cases e
theorem flat_of {v : LV} {x : V} (z : RV S F ι H v x) (f : flatL v = true) : flatV x = true := by
  cases z <;> first | rfl | (simp [flatL] at f; done)
theorem eqF_of {v w : LV} {x y : V} (z : RV S F ι H v x) (z2 : RV S F ι H w y) (f : flatL v = true) (g : flatL w = true) : eqV x y = eqF v w := by
  cases z <;> first | (simp [flatL] at f; done) | skip
  all_goals (cases z2 <;> first | (simp [flatL] at g; done) | rfl | skip)
  rename_i a b
  show ((⟨a.toArray⟩ : Str) == ⟨b.toArray⟩) = (a == b)
  rw [Bool.eq_iff_iff, beq_iff_eq, beq_iff_eq]
  exact ofl_inj
theorem flats_of : ∀ {vs : List LV} {xs : List V}, RVs S F ι H vs xs → vs.all flatL = true → xs.all flatV = true
  | [], _, z, _ => by cases z; rfl
  | v :: vs, _, z, f => by
    rw [List.all_cons, Bool.and_eq_true] at f
    cases z with
    | cons a b => rw [List.all_cons, flat_of a f.1, flats_of b f.2]; rfl
theorem inV_of {v : LV} {x : V} (z : RV S F ι H v x) (f : flatL v = true) : ∀ {vs : List LV} {xs : List V}, RVs S F ι H vs xs → vs.all flatL = true → inV x xs = vs.any fun y => eqF y v
  | [], _, z2, _ => by cases z2; rfl
  | w :: vs, _, z2, g => by
    rw [List.all_cons, Bool.and_eq_true] at g
    cases z2 with
    | cons a b =>
      have ih := inV_of z f b g.2
      unfold inV at ih ⊢
      rw [List.any_cons, List.any_cons, ih, eqF_of a z g.1 f]
end
section
variable {S : Se} {E : XK}
theorem vo_in : VO S E (rInAll S.K) (fIn false) := fun F ι h H x y v w Q rp zx zy o => by
  unfold fIn at o
  split at o
  · cases zx; cases zy
    exact .inl ⟨_, _, rfl, rfl, Ok.now (rel := RV S.toSg) o rp (.bl _)⟩
  · split at o
    · rename_i ys e
      split at o
      · rename_i hf
        rw [Bool.and_eq_true] at hf
        obtain ⟨a, vs, rfl, hs, z⟩ := seq_of rp zy e
        refine .inr ⟨a, vs, rfl, hs, flat_of zx hf.1, flats_of z hf.2, ?_⟩
        rw [inV_of zx hf.1 z hf.2]
        exact Ok.now (rel := RV S.toSg) o rp (.bl _)
      · exact o.elim
    · exact o.elim
theorem vo_ni : VO S E (rNiAll S.K) (fIn true) := fun F ι h H x y v w Q rp zx zy o => by
  unfold fIn at o
  split at o
  · cases zx; cases zy
    exact .inl ⟨_, _, rfl, rfl, Ok.now (rel := RV S.toSg) o rp (.bl _)⟩
  · split at o
    · rename_i ys e
      split at o
      · rename_i hf
        rw [Bool.and_eq_true] at hf
        obtain ⟨a, vs, rfl, hs, z⟩ := seq_of rp zy e
        refine .inr ⟨a, vs, rfl, hs, flat_of zx hf.1, flats_of z hf.2, ?_⟩
        rw [inV_of zx hf.1 z hf.2]
        exact Ok.now (rel := RV S.toSg) o rp (.bl _)
      · exact o.elim
    · exact o.elim
end
/-! ### items, slices -/
def fIx (v w : LV) (h : List LO) : R LV := match v, w with
  | .str z, .int i => if z.length ≤ 60000 then match atI z i with
    | some c => .ok (.str [c]) h
    | none => .bad else .bad
  | v, .int i => match v.seq h with
    | some ys => match atI ys i with
      | some y => .ok y h
      | none => .bad
    | none => .bad
  | _, _ => .bad
def cutL {α : Type} (xs : List α) (lo hi : Option Int) : List α := (xs.drop (HT.sIx xs.length 0 lo)).take (HT.sIx xs.length xs.length hi - HT.sIx xs.length 0 lo)
def fSl (v : LV) (lo hi : Option Int) (h : List LO) : R LV := match v with
  | .str z => if z.length ≤ 60000 then .ok (.str (cutL z lo hi)) h else .bad
  | .tup xs => .ok (.tup (cutL xs lo hi)) h
  | v => match v.lsf h with
    | some xs => .ok (.vl (cutL xs lo hi)) h
    | none => .bad
def mNoP : MO := fun _ h => .ok none h
def mPart (ma : ME) : MO := fun ρ h => (ma ρ h).bind fun v h1 => match v with
  | .int i => .ok (some i) h1
  | _ => .bad
def mSl (ma : ME) (ml mh : MO) : ME := fun ρ h => (ma ρ h).bind fun v h1 => (ml ρ h1).bind fun lo h2 => (mh ρ h2).bind fun hi h3 => fSl v lo hi h3
def rSlAll (K : PySem.W.Frag) : V → Option Int → Option Int → Hp → VK → Prop := fun x lo hi H Q => rSlS x lo hi H Q ∨ rSlA K x lo hi H Q ∨ rSlL K x lo hi H Q
theorem sl_all {X : Cx} : SlR X (rSlAll X.K) := sl_str.or (sl_tupA.or sl_list)
section
variable {S : Sg} {F : Addr → Prop} {ι : List Addr} {H : Hp} {h : List LO}
theorem atI_of {vs : List LV} {xs : List V} {i : Int} {y : LV} (z : RVs S F ι H vs xs) (e : atI vs i = some y) : ∃ x, atI xs i = some x ∧ RV S F ι H y x := by
  unfold atI at e ⊢
  rw [← z.length]
  cases q : ixN vs.length i with
  | none => rw [q] at e; cases e
  | some j =>
    rw [q] at e
    exact z.at e
theorem cut_of {vs : List LV} {xs : List V} (z : RVs S F ι H vs xs) (lo hi : Option Int) : RVs S F ι H (cutL vs lo hi) (cutV xs lo hi) := by
  unfold cutL cutV
  rw [← z.length]
  exact (z.drop _).take _
theorem cut_all {xs : List LV} {lo hi : Option Int} (h1 : HT.sIx xs.length 0 lo = 0) (h2 : HT.sIx xs.length xs.length hi = xs.length) : cutL xs lo hi = xs := by
  unfold cutL
  rw [h1, h2, List.drop_zero, Nat.sub_zero, List.take_length]
end
section
variable {S : Se} {E : XK} {te : TE} {me : ME} {tl th : TO} {ml mh : MO}
theorem vo_ix : VO S E (rIx S.K) fIx := fun F ι h H x y v w Q rp zx zy o => by
  unfold fIx at o
  split at o
  · cases zx; cases zy
    split at o
    · rename_i hl
      split at o
      · rename_i c e
        refine .inr (.inr ⟨_, _, c, rfl, rfl, le_sz (by rw [ofl_len]; exact hl), e, Ok.now (rel := RV S.toSg) o rp (RV.str [c])⟩)
      · exact o.elim
    · exact o.elim
  · split at o
    · rename_i ys e
      split at o
      · rename_i y2 e2
        obtain ⟨a, vs, rfl, hs, z⟩ := seq_of rp zx e
        obtain ⟨x2, e3, z3⟩ := atI_of z e2
        cases zy
        rcases hs with hs | hs
        · exact .inl ⟨a, vs, _, x2, rfl, rfl, hs, e3, Ok.now (rel := RV S.toSg) o rp z3⟩
        · exact .inr (.inl ⟨a, vs, _, x2, rfl, rfl, hs, e3, Ok.now (rel := RV S.toSg) o rp z3⟩)
      · exact o.elim
    · exact o.elim
  · exact o.elim
theorem so_none : SO S E tNoPart mNoP := fun F ι h H ρ σ Q rp rs o => Ok.now (v := none) o rp rfl
theorem so_some (ha : SE S E te me) : SO S E (tPart te) (mPart me) := fun F ι h H ρ σ Q rp rs o =>
  ha F ι h H ρ σ _ rp rs (o.seq fun F1 ι1 H1 h1 v x _ e1 rp1 z o1 => by
    cases z with
    | int i => exact ⟨i, rfl, Ok.now (v := some i) o1 rp1 rfl⟩
    | _ => exact o1.elim)
theorem se_sl (ha : SE S E te me) (hl : SO S E tl ml) (hh : SO S E th mh) : SE S E (tSl (rSlAll S.K) te tl th) (mSl me ml mh) := fun F ι h H ρ σ Q rp rs o =>
  ha F ι h H ρ σ _ rp rs (o.seq fun F1 ι1 H1 h1 v x _ e1 rp1 zx o1 => hl F1 ι1 h1 H1 ρ σ _ rp1 (rs.ext rp e1) (o1.seq fun F2 ι2 H2 h2 lo lo' _ e2 rp2 zl o2 =>
    hh F2 ι2 h2 H2 ρ σ _ rp2 ((rs.ext rp e1).ext rp1 e2) (o2.seq fun F3 ι3 H3 h3 hi hi' _ e3 rp3 zh o3 => by
      cases zl
      cases zh
      have zx3 := (zx.ext rp1 e2).ext rp2 e3
      unfold fSl at o3
      split at o3
      · cases zx3
        split at o3
        · rename_i hz
          refine .inl ⟨_, rfl, le_sz (by rw [ofl_len]; exact hz), ?_⟩
          refine Ok.now (rel := RV S.toSg) o3 rp3 ?_
          rename_i z _
          have e : cutS (⟨z.toArray⟩ : Str) lo hi = ⟨(cutL z lo hi).toArray⟩ := by
            unfold cutS cutL
            rw [ofl_len]
          rw [e]
          exact .str _
        · exact o3.elim
      · cases zx3 with
        | tup a b =>
          refine .inr (.inl ⟨_, _, rfl, a, fun q => ?_, fun _ p hp => ok_tup rp3 (cut_of b lo hi) o3 hp⟩)
          rw [← b.length] at q
          rw [cut_all q.1 q.2] at o3
          exact Ok.now (rel := RV S.toSg) o3 rp3 (.tup a b)
      · split at o3
        · rename_i xs e
          obtain ⟨a, vs, rfl, hs, z⟩ := lsf_of rp3 zx3 e
          exact .inr (.inr ⟨a, vs, rfl, hs, fun p hp => ok_vl rp3 (cut_of z lo hi) o3 hp⟩)
        · exact o3.elim)))
end
end Rm
namespace Rm
open PySem PySem.Spec PyProof.Rows L2
theorem join_ofl : ∀ ls : List (List Nat), Txt.join "" (ls.map fun z => (⟨z.toArray⟩ : Str)) = ⟨ls.flatten.toArray⟩ := by
  intro ls
  show Builtin.Str.glued _ _ = _
  rw [StrLaws.glued_eq_join]
  induction ls with
  | nil => rfl
  | cons x ls ih =>
    have e : (("" : Str)) = ⟨#[]⟩ := rfl
    rw [e] at ih ⊢
    rw [List.map_cons, join_nil_cons, ih, ofl_app]
    rfl
/-! ### calls of built-ins, by values -/
def VC (S : Se) (E : XK) (r : List V → Hp → VK → Prop) (f : List LV → List LO → R LV) : Prop := ∀ F ι h H xs vs Q, Rep S.toSg F ι h H → RVs S.toSg F ι H vs xs → Ok (RV S.toSg) S E F ι H (f vs h) Q → r xs H Q
def mCB (f : List LV → List LO → R LV) (ma : MA) : ME := fun ρ h => (ma ρ h).bind fun vs h1 => f vs h1
def fLen (vs : List LV) (h : List LO) : R LV := match vs with
  | [.str z] => if z.length ≤ 60000 then .ok (.int z.length) h else .bad
  | [v] => match v.seq h with
    | some xs => .ok (.int xs.length) h
    | none => .bad
  | _ => .bad
def fList (vs : List LV) (h : List LO) : R LV := match vs with
  | [v] => match v.seq h with
    | some xs => .ok (.vl xs) h
    | none => .bad
  | _ => .bad
def fTuple (vs : List LV) (h : List LO) : R LV := match vs with
  | [.tup xs] => .ok (.tup xs) h
  | [v] => match v.lsf h with
    | some xs => .ok (.tup xs) h
    | none => .bad
  | _ => .bad
def fSum (vs : List LV) (h : List LO) : R LV := match vs with
  | [v] => match v.lsf h with
    | some xs => match LV.asInts xs with
      | some ns => .ok (.int ns.sum) h
      | none => .bad
    | none => .bad
  | _ => .bad
def fAll (vs : List LV) (h : List LO) : R LV := match vs with
  | [v] => match v.lsf h with
    | some xs => match LV.asBls xs with
      | some bs => .ok (.bl (bs.all id)) h
      | none => .bad
    | none => .bad
  | _ => .bad
def fAny (vs : List LV) (h : List LO) : R LV := match vs with
  | [v] => match v.lsf h with
    | some xs => match LV.asBls xs with
      | some bs => .ok (.bl (bs.any id)) h
      | none => .bad
    | none => .bad
  | _ => .bad
def fAbs (vs : List LV) (h : List LO) : R LV := match vs with
  | [.int i] => .ok (.int (if i < 0 then -i else i)) h
  | _ => .bad
def fInt (vs : List LV) (h : List LO) : R LV := match vs with
  | [.int i] => .ok (.int i) h
  | _ => .bad
def rLenAll (K : PySem.W.Frag) : List V → Hp → VK → Prop := fun xs H Q => (∃ p ys, xs = [.ref p] ∧ (SqL K H p ys ∨ SqT K H p ys) ∧ Q (.int ys.length) H) ∨ ∃ z, xs = [.str z] ∧ z.length ≤ sizeLine ∧ Q (.int z.length) H
theorem call_lenAll {X : Cx} : CallR X (.builtin "len") (rLenAll X.K) := call_len_seq.or call_len_str
def rListOf (K : PySem.W.Frag) : List V → Hp → VK → Prop := fun xs H Q => ∃ p ys, xs = [.ref p] ∧ (SqL K H p ys ∨ SqT K H p ys) ∧ ∀ l, H l = none → Q (.ref l) (upd H l (.lst ys))
def rTupOf (K : PySem.W.Frag) : List V → Hp → VK → Prop := fun xs H Q => ∃ p ys, xs = [.ref p] ∧ ((SqL K H p ys ∧ ∀ l, H l = none → Q (.ref l) (upd H l (.tup ys))) ∨ (SqT K H p ys ∧ Q (.ref p) H))
theorem call_listOf {X : Cx} : CallR X (.type "list") (rListOf X.K) := call_list_of
theorem call_tupOf {X : Cx} : CallR X (.type "tuple") (rTupOf X.K) := call_tuple_of
def rAbs : List V → Hp → VK → Prop := fun xs H Q => ∃ i, xs = [.int i] ∧ Q (.int (if i < 0 then -i else i)) H
theorem call_absR {X : Cx} : CallR X (.builtin "abs") rAbs := call_abs
def rIntR : List V → Hp → VK → Prop := fun xs H Q => (∃ i, xs = [V.int i] ∧ Q (.int i) H) ∨ ∃ k, xs = [V.bl k] ∧ Q (.int (if k then 1 else 0)) H
theorem call_intR {X : Cx} : CallR X (.type "int") rIntR := call_int1
section
variable {S : Se} {E : XK} {tA : TA} {mA : MA} {ta : TE} {ma : ME}
theorem se_cb {r : List V → Hp → VK → Prop} {f : List LV → List LO → R LV} (hr : VC S E r f) (ha : SA S E tA mA) : SE S E (tCB r tA) (mCB f mA) := fun F ι h H ρ σ Q rp rs o =>
  ha F ι h H ρ σ _ rp rs (o.seq fun F1 ι1 H1 h1 vs xs _ e1 rp1 z o1 => hr F1 ι1 h1 H1 xs vs Q rp1 z o1)
theorem vc_len : VC S E (rLenAll S.K) fLen := fun F ι h H xs vs Q rp z o => by
  unfold fLen at o
  split at o
  · cases z with
    | cons a b =>
      cases b; cases a
      split at o
      · rename_i hz
        refine .inr ⟨_, rfl, le_sz (by rw [ofl_len]; exact hz), ?_⟩
        rw [ofl_len]
        exact Ok.now (rel := RV S.toSg) o rp (.int _)
      · exact o.elim
  · cases z with
    | cons a b =>
      cases b
      split at o
      · rename_i ys e
        obtain ⟨p, zs, rfl, hs, z⟩ := seq_of rp a e
        refine .inl ⟨p, zs, rfl, hs, ?_⟩
        rw [← z.length]
        exact Ok.now (rel := RV S.toSg) o rp (.int _)
      · exact o.elim
  · exact o.elim
theorem vc_list : VC S E (rListOf S.K) fList := fun F ι h H xs vs Q rp z o => by
  unfold fList at o
  split at o
  · cases z with
    | cons a b =>
      cases b
      split at o
      · rename_i ys e
        obtain ⟨p, zs, rfl, hs, z⟩ := seq_of rp a e
        exact ⟨p, zs, rfl, hs, fun l hl => ok_vl rp z o hl⟩
      · exact o.elim
  · exact o.elim
theorem vc_tuple : VC S E (rTupOf S.K) fTuple := fun F ι h H xs vs Q rp z o => by
  unfold fTuple at o
  split at o
  · cases z with
    | cons a b =>
      cases b
      cases a with
      | tup c d => exact ⟨_, _, rfl, .inr ⟨c, Ok.now (rel := RV S.toSg) o rp (.tup c d)⟩⟩
  · cases z with
    | cons a b =>
      cases b
      split at o
      · rename_i ys e
        obtain ⟨p, zs, rfl, hs, z⟩ := lsf_of rp a e
        exact ⟨p, zs, rfl, .inl ⟨hs, fun l hl => ok_tup rp z o hl⟩⟩
      · exact o.elim
  · exact o.elim
theorem vc_sum : VC S E (rSum S.K) fSum := fun F ι h H xs vs Q rp z o => by
  unfold fSum at o
  split at o
  · cases z with
    | cons a b =>
      cases b
      split at o
      · rename_i ys e
        split at o
        · rename_i ns e2
          obtain ⟨p, zs, rfl, hs, z⟩ := lsf_of rp a e
          rw [asInts_eq e2] at z
          rw [z.ints] at hs
          exact ⟨p, ns, rfl, hs, Ok.now (rel := RV S.toSg) o rp (.int _)⟩
        · exact o.elim
      · exact o.elim
  · exact o.elim
theorem vc_all : VC S E (rAll S.K) fAll := fun F ι h H xs vs Q rp z o => by
  unfold fAll at o
  split at o
  · cases z with
    | cons a b =>
      cases b
      split at o
      · rename_i ys e
        split at o
        · rename_i ns e2
          obtain ⟨p, zs, rfl, hs, z⟩ := lsf_of rp a e
          rw [asBls_eq e2] at z
          rw [z.bls] at hs
          exact ⟨p, ns, rfl, hs, Ok.now (rel := RV S.toSg) o rp (.bl _)⟩
        · exact o.elim
      · exact o.elim
  · exact o.elim
theorem vc_any : VC S E (rAny S.K) fAny := fun F ι h H xs vs Q rp z o => by
  unfold fAny at o
  split at o
  · cases z with
    | cons a b =>
      cases b
      split at o
      · rename_i ys e
        split at o
        · rename_i ns e2
          obtain ⟨p, zs, rfl, hs, z⟩ := lsf_of rp a e
          rw [asBls_eq e2] at z
          rw [z.bls] at hs
          exact ⟨p, ns, rfl, hs, Ok.now (rel := RV S.toSg) o rp (.bl _)⟩
        · exact o.elim
      · exact o.elim
  · exact o.elim
theorem vc_abs : VC S E rAbs fAbs := fun F ι h H xs vs Q rp z o => by
  unfold fAbs at o
  split at o
  · cases z with
    | cons a b =>
      cases b; cases a
      exact ⟨_, rfl, Ok.now (rel := RV S.toSg) o rp (.int _)⟩
  · exact o.elim
theorem vc_int : VC S E rIntR fInt := fun F ι h H xs vs Q rp z o => by
  unfold fInt at o
  split at o
  · cases z with
    | cons a b =>
      cases b; cases a
      exact .inl ⟨_, rfl, Ok.now (rel := RV S.toSg) o rp (.int _)⟩
  · exact o.elim
end
/-! ### isinstance -/
def tyN (h : List LO) : LV → Option String
  | .non => some "NoneType" | .bl _ => some "bool" | .int _ => some "int" | .str _ => some "str" | .tup _ => some "tuple" | .vl _ => some "list" | .fz _ => none
  | .ref n => match h[n]? with
    | some (.lst _) => some "list"
    | _ => none
  | _ => none
def mIsi (tb : List LO → LV → Option Bool) (ma : ME) : ME := fun ρ h => (ma ρ h).bind fun v h1 => match tb h1 v with
  | some b => .ok (.bl b) h1
  | none => .bad
structure IsT (S : Se) (u : Value) (tb : List LO → LV → Option Bool) : Prop where
  ok : ∀ F ι h H v x b, Rep S.toSg F ι h H → RV S.toSg F ι H v x → tb h v = some b → ∃ t, TyX S.K H x t ∧ PySem.W.kitOne S.K t u = some b
theorem tyN_of {S : Sg} {F : Addr → Prop} {ι : List Addr} {H : Hp} {h : List LO} (r : Rep S F ι h H) {v : LV} {x : V} {n : String} (z : RV S F ι H v x) (e : tyN h v = some n) : TyX S.K H x (.type n) := by
  cases z with
  | non => cases e; exact .base .non
  | bl b => cases e; exact .base (.bl b)
  | int b => cases e; exact .base (.int b)
  | str b => cases e; exact .base (.str _)
  | tup a b =>
    cases e
    rcases a with (a | ⟨o, a⟩) | ⟨o, its, n, l, c, _⟩
    · exact .base (.tup a)
    · exact .fTuple a
    · exact .kTuple l c
  | vl a _ b => cases e; exact .base (.lst a)
  | fz a b => cases e
  | ref q =>
    simp only [tyN] at e
    split at e
    · rename_i xs hi
      cases e
      have g := r.at hi q
      cases g with
      | lst a b => exact .base (.lst a)
    · cases e
  | vd _ _ _ _ _ _ _ => cases e
  | sd _ _ _ _ => cases e
  | obj _ _ _ _ => cases e
def tbTy (T : String) (h : List LO) (v : LV) : Option Bool := match tyN h v with
  | some n => kitB n T
  | none => none
theorem isT_ty {S : Se} {T : String} : IsT S (.type T) (tbTy T) := ⟨fun F ι h H v x b rp z e => by
  unfold tbTy at e
  split at e
  · rename_i n hn
    exact ⟨.type n, tyN_of rp z hn, kit_ty e⟩
  · cases e⟩
/-- an own class: by the class of the instance -/
structure ObjC (S : Se) (C : Nat) : Prop where
  cl : Cls S.K (S.ct C)
  ha : PySem.W.findIn S.K (.ref (S.ct C)) "__class__" = some (some (.builtin "object.__class__"))
  hn : PySem.W.specialIn S.K (.builtin "object.__class__") "__get__" = some (some (.builtin "getset_descriptor.__get__"))
  htk : PySem.W.takesIn S.K (.builtin "object.__class__") = some true
  hm : PySem.W.mroIn S.K (S.ct C) (.type "object") = some true
def tbOwn (t : List (Nat × Bool)) (ty : Option Bool) (h : List LO) (v : LV) : Option Bool := match v with
  | .obj C _ => t.lookup C
  | _ => none
theorem isT_own {S : Se} {u : Value} {t : List (Nat × Bool)} (hk : ∀ C b, t.lookup C = some b → ObjC S C ∧ PySem.W.kitOne S.K (.ref (S.ct C)) u = some b) : IsT S u (tbOwn t none) := ⟨fun F ι h H v x b rp z e => by
  cases z with
  | obj a n c d =>
    obtain ⟨oc, k⟩ := hk _ _ e
    exact ⟨_, .base (.ins a oc.cl oc.ha oc.hn oc.htk oc.hm), k⟩
  | _ => cases e⟩
section
variable {S : Se} {E : XK} {tA : TA} {mA : MA} {ta tb te : TE} {ma mb me : ME}
theorem se_isi {c : V} {u : Value} {tbl : List LO → LV → Option Bool} (k : ClsV c u) (T : IsT S u tbl) (ha : SE S E ta ma) : SE S E (tCB (rIsi S.K) (tCons ta (tCons (tC c) tNil))) (mIsi tbl ma) := fun F ι h H ρ σ Q rp rs o =>
  ha F ι h H ρ σ _ rp rs (o.seq fun F1 ι1 H1 h1 v x _ e1 rp1 z o1 => by
    split at o1
    · rename_i b e
      obtain ⟨t, ht, hk⟩ := T.ok F1 ι1 h1 H1 v x b rp1 z e
      exact ⟨x, c, t, u, b, rfl, k, ht, hk, Ok.now (rel := RV S.toSg) o1 rp1 (.bl _)⟩
    · exact o1.elim)
/-! ### methods of texts and lists -/
def mJoin0 (ma : ME) : ME := fun ρ h => (ma ρ h).bind fun v h1 => match v.seq h1 with
  | some xs => match LV.asStrs xs with
    | some zs => if zs.flatten.length ≤ 60000 then .ok (.str zs.flatten) h1 else .bad
    | none => .bad
  | none => .bad
def rJoin (K : PySem.W.Frag) : V → List V → Hp → VK → Prop := fun x xs H Q => ∃ a p, ∃ ys : List Str, x = .str a ∧ xs = [.ref p] ∧ (SqL K H p (ys.map V.str) ∨ SqT K H p (ys.map V.str)) ∧
    (ys.map (·.length)).sum + ys.length * a.length ≤ 16777216 ∧ Q (.str (Txt.join a ys)) H
theorem sum_len (zs : List (List Nat)) : ((zs.map fun z => (⟨z.toArray⟩ : Str)).map (·.length)).sum = zs.flatten.length := by
  induction zs with
  | nil => rfl
  | cons z zs ih =>
    rw [List.map_cons, List.map_cons, List.sum_cons, ih, List.flatten_cons, List.length_append, ofl_len]
theorem se_join0 (ha : SE S E ta ma) : SE S E (tM1 (rJoin S.K) (tC (.str "")) ta) (mJoin0 ma) := fun F ι h H ρ σ Q rp rs o => ⟨⟨_, rfl⟩,
  ha F ι h H ρ σ _ rp rs (o.seq fun F1 ι1 H1 h1 v x _ e1 rp1 z o1 => by
    split at o1
    · rename_i xs e
      split at o1
      · rename_i zs e2
        split at o1
        · rename_i hl
          obtain ⟨p, vs, rfl, hs, z⟩ := seq_of rp1 z e
          rw [asStrs_eq e2] at z
          rw [z.strs] at hs
          refine ⟨_, p, _, rfl, rfl, hs, ?_, ?_⟩
          · rw [sum_len]
            show _ + _ * 0 ≤ _
            omega
          · rw [join_ofl]
            exact Ok.now (rel := RV S.toSg) o1 rp1 (.str _)
        · exact o1.elim
      · exact o1.elim
    · exact o1.elim)⟩
def fCount (v w : LV) (h : List LO) : R LV := match v, w with
  | .str x, .str y => .ok (.int (Txt.count ⟨x.toArray⟩ ⟨y.toArray⟩)) h
  | _, _ => .bad
def rCountT : V → List V → Hp → VK → Prop := fun x xs H Q => ∃ a b, x = .str a ∧ xs = [.str b] ∧ Q (.int (Txt.count a b)) H
def mM1 (f : LV → LV → List LO → R LV) (ma mb : ME) : ME := fun ρ h => (ma ρ h).bind fun v h1 => match v with
  | .str a => (mb ρ h1).bind fun w h2 => f (.str a) w h2
  | _ => .bad
theorem se_m1 {r : V → List V → Hp → VK → Prop} {f : LV → LV → List LO → R LV} (hr : VO S E (fun x y H Q => r x [y] H Q) f) (ha : SE S E ta ma) (hb : SE S E tb mb) : SE S E (tM1 r ta tb) (mM1 f ma mb) := fun F ι h H ρ σ Q rp rs o =>
  ha F ι h H ρ σ _ rp rs (o.seq fun F1 ι1 H1 h1 v x _ e1 rp1 zx o1 => by
    cases zx with
    | str a => exact ⟨⟨_, rfl⟩, hb F1 ι1 h1 H1 ρ σ _ rp1 (rs.ext rp e1) (o1.seq fun F2 ι2 H2 h2 w y _ e2 rp2 zy o2 => hr F2 ι2 h2 H2 _ y _ w Q rp2 (.str a) zy o2)⟩
    | _ => exact o1.elim)
theorem vo_count : VO S E (fun x y H Q => rCountT x [y] H Q) fCount := fun F ι h H x y v w Q rp zx zy o => by
  unfold fCount at o
  split at o
  · cases zx; cases zy
    exact ⟨_, _, rfl, rfl, Ok.now (rel := RV S.toSg) o rp (.int _)⟩
  · exact o.elim
end
/-! ### changing objects -/
section
variable {S : Se} {E : XK} {F : Addr → Prop} {ι : List Addr} {H : Hp} {h : List LO}
theorem Rep.nt (r : Rep S.toSg F ι h H) {a : Addr} (ha : a ∈ ι) : ∀ xs, H a ≠ some (.tup xs) := fun xs e => by
  obtain ⟨n, hn⟩ := List.mem_iff_getElem?.mp ha
  have hlt : n < h.length := by rw [← r.len]; exact (List.getElem?_eq_some_iff.mp hn).1
  have z := r.obj n _ a (List.getElem?_eq_getElem hlt) hn
  generalize h[n] = oo at z
  cases z with
  | lst q => rw [e] at q; cases q
  | dic q => rw [e] at q; cases q
  | ins q => rw [e] at q; cases q
theorem EX.write (r : Rep S.toSg F ι h H) {a : Addr} {o : HO} (ha : a ∈ ι) : EX S.toSg F ι H F ι (upd H a o) := by
  refine ⟨fun b vs q => ?_, fun b u n q => by rw [upd_ne (fun e => n (by rw [e]; exact ha))]; exact q, ⟨[], by simp, fun _ z => nomatch z⟩, fun _ z => z, fun _ z n => absurd z n, fun b q => ?_⟩
  · rcases q with (q | ⟨u, q⟩) | q
    · exact .inl (.inl (by rw [upd_ne (fun e => r.nt ha vs (by rw [← e]; exact q))]; exact q))
    · exact .inl (.inr ⟨u, by rw [upd_ne (fun e => r.nfr q (by rw [e]; exact ha))]; exact q⟩)
    · exact .inr q
  · by_cases e : b = a
    · subst e; rw [upd_same] at q; cases q
    · rw [upd_ne e] at q; exact q
theorem Rep.write (r : Rep S.toSg F ι h H) {a : Addr} {n : Nat} {o : HO} {u : LO} (ha : ι[n]? = some a) (z : RO S.toSg F ι (upd H a o) u a) : Rep S.toSg F ι (h.set n u) (upd H a o) := by
  refine ⟨by rw [List.length_set]; exact r.len, r.nd, r.inF, fun b hb e => ?_, fun i v b h1 h2 => ?_⟩
  · by_cases q : b = a
    · subst q; rw [upd_same] at e; cases e
    · rw [upd_ne q] at e; exact r.dom b hb e
  · by_cases q : i = n
    · subst q
      rw [ha] at h2
      cases h2
      rw [List.getElem?_set_self (by rw [← r.len]; exact (List.getElem?_eq_some_iff.mp ha).1)] at h1
      cases h1
      exact z
    · rw [List.getElem?_set_ne (Ne.symm q)] at h1
      have nb : b ≠ a := fun e => by
        subst e
        exact q ((List.getElem?_inj (List.getElem?_eq_some_iff.mp h2).1 r.nd).mp (h2.trans ha.symm))
      refine (r.obj i v b h1 h2).fwd ((EX.write r (List.mem_of_getElem? ha)).fwd r) fun u q => ?_
      rw [upd_ne nb]
      exact q
/-- a list that changes: what is written, and what is given back -/
theorem ok_set {n : Nat} {a : Addr} {xs : List LV} {vs : List V} {Q : VK} {v : LV} {x : V} (r : Rep S.toSg F ι h H) (ha : ι[n]? = some a) (z : RVs S.toSg F ι H xs vs) (zx : RV S.toSg F ι H v x) (o : Ok (RV S.toSg) S E F ι H (.ok v (h.set n (.lst xs))) Q) : Q x (upd H a (.lst vs)) := by
  have f := (EX.write (S := S) (o := .lst vs) r (List.mem_of_getElem? ha)).fwd r
  exact o F ι _ x (EX.write r (List.mem_of_getElem? ha)) (r.write ha (.lst upd_same (z.fwd f _ _))) (zx.fwd f _ _)
end
def fApp (v w : LV) (h : List LO) : R LV := match v with
  | .ref n => match h[n]? with
    | some (.lst xs) => if xs.length < 60000 then .ok .non (h.set n (.lst (xs ++ [w]))) else .bad
    | _ => .bad
  | _ => .bad
def fPop (v : LV) (h : List LO) : R LV := match v with
  | .ref n => match h[n]? with
    | some (.lst xs) => match xs[xs.length - 1]? with
      | some y => .ok y (h.set n (.lst xs.dropLast))
      | none => .bad
    | _ => .bad
  | _ => .bad
section
variable {S : Se} {E : XK} {ta tb te : TE} {ma mb me : ME}
/-- o.append(e): the list is asked for first -/
def mApp (ma mb : ME) : ME := fun ρ h => (ma ρ h).bind fun v h1 => match v.lst h1 with
  | some _ => (mb ρ h1).bind fun w h2 => fApp v w h2
  | none => .bad
def mPop (ma : ME) : ME := fun ρ h => (ma ρ h).bind fun v h1 => fPop v h1
theorem se_app (ha : SE S E ta ma) (hb : SE S E tb mb) : SE S E (tBM S.K "list" rAppend ta (tCons tb tNil)) (mApp ma mb) := fun F ι h H ρ σ Q rp rs o =>
  ha F ι h H ρ σ _ rp rs (o.seq fun F1 ι1 H1 h1 v x _ e1 rp1 zx o1 => by
    split at o1
    · rename_i xs0 e0
      obtain ⟨a0, vs0, rfl, q0, _⟩ := lst_of rp1 zx e0
      refine ⟨.inl ⟨rfl, vs0, .of q0⟩, hb F1 ι1 h1 H1 ρ σ _ rp1 (rs.ext rp e1) (o1.seq fun F2 ι2 H2 h2 w y _ e2 rp2 zy o2 => ?_)⟩
      have zx2 := zx.ext rp1 e2
      unfold fApp at o2
      split at o2
      · split at o2
        · rename_i xs hx
          split at o2
          · rename_i hl
            cases zx2 with
            | ref q =>
              have g := rp2.at hx q
              cases g with
              | lst g1 g2 => exact ⟨_, _, y, rfl, rfl, g1, Nat.lt_of_lt_of_le (by rw [← g2.length]; exact hl) (by decide), ok_set rp2 q (g2.append (.cons zy .nil)) .non o2⟩
          · exact o2.elim
        · exact o2.elim
      · exact o2.elim
    · exact o1.elim)
theorem RVs.dropLast {S : Sg} {F : Addr → Prop} {ι : List Addr} {H : Hp} {xs : List LV} {vs : List V} (z : RVs S F ι H xs vs) : RVs S F ι H xs.dropLast vs.dropLast := by
  rw [List.dropLast_eq_take, List.dropLast_eq_take, z.length]
  exact z.take _
theorem se_pop (ha : SE S E ta ma) : SE S E (tBM0 S.K "list" rPop ta) (mPop ma) := fun F ι h H ρ σ Q rp rs o =>
  ha F ι h H ρ σ _ rp rs (o.seq fun F1 ι1 H1 h1 v x _ e1 rp1 zx o1 => by
    unfold fPop at o1
    split at o1
    · split at o1
      · rename_i xs hx
        split at o1
        · rename_i y hy
          cases zx with
          | ref q =>
            have g := rp1.at hx q
            cases g with
            | lst g1 g2 =>
              obtain ⟨yv, e2, zy⟩ := g2.at hy
              exact ⟨.inl ⟨rfl, _, .of g1⟩, _, _, yv, rfl, rfl, g1, by rw [← g2.length]; exact e2, ok_set rp1 q g2.dropLast zy o1⟩
        · exact o1.elim
      · exact o1.elim
    · exact o1.elim)
end
end Rm
namespace Rm
open PySem PySem.Spec PyProof.Rows L2
/-! ### statements -/
inductive FV where
  | nx (σ : L2.St) | rt (x : V) | bk (σ : L2.St) | ct (σ : L2.St)
def DQ (D : Ends) : FV → Hp → Prop
  | .nx σ, H => D.nx σ H
  | .rt x, H => D.rt x H
  | .bk σ, H => D.bk σ H
  | .ct σ, H => D.ct σ H
def relF (S : Se) (F : Addr → Prop) (ι : List Addr) (H : Hp) : Fl × Rho → FV → Prop
  | (.nx, ρ), .nx σ => RS S F ι H ρ σ
  | (.rt v, _), .rt x => RV S.toSg F ι H v x
  | (.bk, ρ), .bk σ => RS S F ι H ρ σ
  | (.ct, ρ), .ct σ => RS S F ι H ρ σ
  | _, _ => False
def SS (S : Se) (E : XK) (ts : TS) (m : MS) : Prop := ∀ F ι h H ρ σ D, Rep S.toSg F ι h H → RS S F ι H ρ σ → Ok (relF S) S E F ι H (m ρ h) (DQ D) → ts D σ H
abbrev MG := LV → Rho → List LO → R Rho
abbrev MGs := List LV → Rho → List LO → R Rho
def SG (S : Se) (E : XK) (g : TG) (m : MG) : Prop := ∀ F ι h H ρ σ v x Q, Rep S.toSg F ι h H → RS S F ι H ρ σ → RV S.toSg F ι H v x → Ok (RS S) S E F ι H (m v ρ h) Q → g x σ H Q
def SGs (S : Se) (E : XK) (g : TGs) (m : MGs) : Prop := ∀ F ι h H ρ σ v x Q, Rep S.toSg F ι h H → RS S F ι H ρ σ → RVs S.toSg F ι H v x → Ok (RS S) S E F ι H (m v ρ h) Q → g x σ H Q
def mNext : MS := fun ρ h => .ok (.nx, ρ) h
def mSeq (a b : MS) : MS := fun ρ h => (a ρ h).bind fun r h1 => match r.1 with
  | .nx => b r.2 h1
  | _ => .ok r h1
def mAsg (ma : ME) (g : MG) : MS := fun ρ h => (ma ρ h).bind fun v h1 => (g v ρ h1).bind fun ρ1 h2 => .ok (.nx, ρ1) h2
def mName (i : Nat) : MG := fun v ρ h => .ok (ρ.set i (some v)) h
def mGNil : MGs := fun vs ρ h => match vs with
  | [] => .ok ρ h
  | _ => .bad
def mGCons (g : MG) (r : MGs) : MGs := fun vs ρ h => match vs with
  | v :: vs => (g v ρ h).bind fun ρ1 h1 => r vs ρ1 h1
  | [] => .bad
def mGTup (n : Nat) (g : MGs) : MG := fun v ρ h => match v with
  | .tup xs => if xs.length = n then g xs ρ h else .bad
  | _ => .bad
def mPar (i j : Nat) (ma : MA) : MS := fun ρ h => (ma ρ h).bind fun vs h1 => match vs with
  | [v, w] => .ok (.nx, (ρ.set i (some v)).set j (some w)) h1
  | _ => .bad
def mAug (i : Nat) (ma : ME) (f : Int → Int → Int) : MS := fun ρ h => match ρ[i]? with
  | some (some (.int a)) => (ma ρ h).bind fun v h1 => match v with
    | .int b => .ok (.nx, ρ.set i (some (.int (f a b)))) h1
    | _ => .bad
  | _ => .bad
def mDrop (ma : ME) : MS := fun ρ h => (ma ρ h).bind fun _ h1 => .ok (.nx, ρ) h1
def mRet (ma : ME) : MS := fun ρ h => (ma ρ h).bind fun v h1 => .ok (.rt v, ρ) h1
def mRetN : MS := fun ρ h => .ok (.rt .non, ρ) h
def mBad : MS := fun _ _ => .bad
def mBk : MS := fun ρ h => .ok (.bk, ρ) h
def mCt : MS := fun ρ h => .ok (.ct, ρ) h
def mIfS (mt : MT) (a b : MS) : MS := fun ρ h => (mt ρ h).bind fun c h1 => if c = true then a ρ h1 else b ρ h1
def whileM (mt : MT) (mb : MS) : Nat → Rho → List LO → R (Fl × Rho)
  | 0, _, _ => .bad
  | n + 1, ρ, h => (mt ρ h).bind fun c h1 => if c = true then (mb ρ h1).bind fun r h2 => match r.1 with
      | .nx => whileM mt mb n r.2 h2
      | .ct => whileM mt mb n r.2 h2
      | .bk => .ok (.nx, r.2) h2
      | .rt v => .ok (.rt v, r.2) h2
    else .ok (.nx, ρ) h1
def mWhile (n : Nat) (mt : MT) (mb : MS) : MS := fun ρ h => whileM mt mb n ρ h
inductive Itr where
  | vals (xs : List LV) | mref (n : Nat) | rng (lo : Int) (n : Nat)
def Itr.at : Itr → Nat → List LO → Option (Option LV)
  | .vals xs, i, _ => some xs[i]?
  | .mref n, i, h => match h[n]? with
    | some (.lst xs) => some xs[i]?
    | _ => none
  | .rng lo n, i, _ => if i < n then some (some (.int (lo + i))) else some none
abbrev MI := Rho → List LO → R Itr
def WalkAt (S : Se) (F : Addr → Prop) (ι : List Addr) (H : Hp) (it : Itr) (J : It) : Prop := ∀ F' ι' h' H' i, Fwd S.toSg F ι H F' ι' H' → Rep S.toSg F' ι' h' H' → match it.at i h' with
  | some (some v) => J.go i H' ∧ ∀ x H'', J.yld i H' x H'' → EX S.toSg F' ι' H' F' ι' H'' ∧ Rep S.toSg F' ι' h' H'' ∧ RV S.toSg F' ι' H'' v x
  | some none => J.stop i H'
  | none => True
def SI (S : Se) (E : XK) (wi : TI) (m : MI) : Prop := ∀ F ι h H ρ σ Q, Rep S.toSg F ι h H → RS S F ι H ρ σ → Ok (WalkAt S) S E F ι H (m ρ h) Q → wi σ H Q
def forM (it : Itr) (g : MG) (mb : MS) : Nat → Nat → Rho → List LO → R (Fl × Rho)
  | 0, _, _, _ => .bad
  | n + 1, i, ρ, h => match it.at i h with
    | some (some v) => (g v ρ h).bind fun ρ1 h1 => (mb ρ1 h1).bind fun r h2 => match r.1 with
      | .nx => forM it g mb n (i + 1) r.2 h2
      | .ct => forM it g mb n (i + 1) r.2 h2
      | .bk => .ok (.nx, r.2) h2
      | .rt v => .ok (.rt v, r.2) h2
    | some none => .ok (.nx, ρ) h
    | none => .bad
def mFor (mi : MI) (g : MG) (mb : MS) : MS := fun ρ h => (mi ρ h).bind fun it h1 => forM it g mb 60000 0 ρ h1
section
variable {S : Se} {E : XK} {F : Addr → Prop} {ι : List Addr} {H : Hp} {h : List LO} {ρ : Rho} {σ : L2.St}
theorem RS.set (s : RS S F ι H ρ σ) {v : LV} {x : V} (z : RV S.toSg F ι H v x) (i : Nat) : RS S F ι H (ρ.set i (some v)) (σ.set i (some x)) := by
  refine ⟨by rw [List.length_set, List.length_set]; exact s.len, fun j w q => ?_⟩
  by_cases e : j = i
  · subst e
    have hl : j < ρ.length := by have := (List.getElem?_eq_some_iff.mp q).1; rw [List.length_set] at this; exact this
    rw [List.getElem?_set_self hl] at q
    cases q
    exact ⟨x, List.getElem?_set_self (by rw [← s.len]; exact hl), z⟩
  · rw [List.getElem?_set_ne (Ne.symm e)] at q
    rw [List.getElem?_set_ne (Ne.symm e)]
    exact s.get j w q
end
section
variable {S : Se} {E : XK} {ta tb te : TE} {ma mb me : ME} {t u : TS} {m m' : MS} {tt : TT} {mt : MT} {tA : TA} {mA : MA} {g : TG} {mg : MG} {gs : TGs} {mgs : MGs} {wi : TI} {mi : MI}
theorem ss_next : SS S E tNext mNext := fun F ι h H ρ σ D rp rs o => Ok.now (v := (Fl.nx, ρ)) (x := FV.nx σ) o rp rs
theorem ss_seq (h1 : SS S E t m) (h2 : SS S E u m') : SS S E (tSeq t u) (mSeq m m') := fun F ι h H ρ σ D rp rs o =>
  h1 F ι h H ρ σ { D with nx := u D } rp rs (o.seq fun F1 ι1 H1 hh v x _ e1 rp1 z o1 => by
    obtain ⟨f, ρ1⟩ := v
    cases f with
    | nx =>
      cases x with
      | nx σ1 => exact h2 F1 ι1 hh H1 ρ1 σ1 D rp1 z o1
      | _ => exact z.elim
    | rt v =>
      cases x with
      | rt x => exact (show DQ D (FV.rt x) H1 from Ok.now (rel := relF S) (v := (Fl.rt v, ρ1)) (x := FV.rt x) o1 rp1 z)
      | _ => exact z.elim
    | bk =>
      cases x with
      | bk x => exact (show DQ D (FV.bk x) H1 from Ok.now (rel := relF S) (v := (Fl.bk, ρ1)) (x := FV.bk x) o1 rp1 z)
      | _ => exact z.elim
    | ct =>
      cases x with
      | ct x => exact (show DQ D (FV.ct x) H1 from Ok.now (rel := relF S) (v := (Fl.ct, ρ1)) (x := FV.ct x) o1 rp1 z)
      | _ => exact z.elim)
theorem sg_name {i : Nat} : SG S E (gName i) (mName i) := fun F ι h H ρ σ v x Q rp rs z o => Ok.now (rel := RS S) o rp (rs.set z i)
theorem sgs_nil : SGs S E gNil mGNil := fun F ι h H ρ σ v x Q rp rs z o => by
  unfold mGNil at o
  cases z with
  | nil => exact ⟨rfl, Ok.now (rel := RS S) o rp rs⟩
  | cons _ _ => exact o.elim
theorem sgs_cons (h1 : SG S E g mg) (h2 : SGs S E gs mgs) : SGs S E (gCons g gs) (mGCons mg mgs) := fun F ι h H ρ σ v x Q rp rs z o => by
  cases z with
  | nil => exact o.elim
  | cons a b => exact ⟨_, _, rfl, h1 F ι h H ρ σ _ _ _ rp rs a (Ok.seq (rel := RS S) o fun F1 ι1 H1 hh w y _ e1 rp1 z1 o1 => h2 F1 ι1 hh H1 w y _ _ Q rp1 z1 (b.ext rp e1) o1)⟩
theorem sg_tup {n : Nat} (hg : SGs S E gs mgs) : SG S E (gTup S.K n gs) (mGTup n mgs) := fun F ι h H ρ σ v x Q rp rs z o => by
  unfold mGTup at o
  cases z with
  | tup a b =>
    dsimp only at o
    split at o
    · rename_i hn
      exact ⟨_, _, rfl, a, by rw [← b.length]; exact hn, hg F ι h H ρ σ _ _ Q rp rs b o⟩
    · exact o.elim
  | _ => exact o.elim
theorem ss_asg (ha : SE S E ta ma) (hg : SG S E g mg) : SS S E (tAsg ta g) (mAsg ma mg) := fun F ι h H ρ σ D rp rs o =>
  ha F ι h H ρ σ _ rp rs (o.seq fun F1 ι1 H1 h1 v x _ e1 rp1 z o1 => hg F1 ι1 h1 H1 ρ σ v x _ rp1 (rs.ext rp e1) z (o1.seq fun F2 ι2 H2 h2 ρ2 σ2 _ e2 rp2 z2 o2 =>
    Ok.now (rel := relF S) (v := (Fl.nx, ρ2)) (x := FV.nx σ2) o2 rp2 z2))
theorem ss_par {i j : Nat} (ha : SA S E tA mA) : SS S E (tPar i j tA) (mPar i j mA) := fun F ι h H ρ σ D rp rs o =>
  ha F ι h H ρ σ _ rp rs (o.seq fun F1 ι1 H1 h1 v x _ e1 rp1 z o1 => by
    cases z with
    | nil => exact o1.elim
    | cons a b =>
      cases b with
      | nil => exact o1.elim
      | cons c d =>
        cases d with
        | nil => exact ⟨_, _, rfl, Ok.now (rel := relF S) (v := (Fl.nx, _)) (x := FV.nx _) o1 rp1 (((rs.ext rp e1).set a i).set c j)⟩
        | cons _ _ => exact o1.elim)
theorem ss_aug {i : Nat} {f : Int → Int → Int} (ha : SE S E ta ma) : SS S E (tAug i ta (ipI f)) (mAug i ma f) := fun F ι h H ρ σ D rp rs o => by
  unfold mAug at o
  split at o
  · rename_i a ha0
    obtain ⟨x, hx, zx⟩ := rs.get i _ ha0
    cases zx
    refine ⟨_, hx, ha F ι h H ρ σ _ rp rs (o.seq fun F1 ι1 H1 h1 v x _ e1 rp1 z o1 => ?_)⟩
    cases z with
    | int b => exact ⟨a, b, rfl, rfl, Ok.now (rel := relF S) (v := (Fl.nx, _)) (x := FV.nx _) o1 rp1 ((rs.ext rp e1).set (.int _) i)⟩
    | _ => exact o1.elim
  · exact o.elim
theorem ss_drop (ha : SE S E ta ma) : SS S E (tDrop ta) (mDrop ma) := fun F ι h H ρ σ D rp rs o =>
  ha F ι h H ρ σ _ rp rs (o.seq fun F1 ι1 H1 h1 v x _ e1 rp1 z o1 => Ok.now (rel := relF S) (v := (Fl.nx, ρ)) (x := FV.nx σ) o1 rp1 (rs.ext rp e1))
theorem ss_ret (ha : SE S E ta ma) : SS S E (tRet ta) (mRet ma) := fun F ι h H ρ σ D rp rs o =>
  ha F ι h H ρ σ _ rp rs (o.seq fun F1 ι1 H1 h1 v x _ e1 rp1 z o1 => Ok.now (rel := relF S) (v := (Fl.rt v, ρ)) (x := FV.rt x) o1 rp1 z)
theorem ss_retN : SS S E tRetN mRetN := fun F ι h H ρ σ D rp rs o => Ok.now (rel := relF S) (v := (Fl.rt .non, ρ)) (x := FV.rt .non) o rp .non
theorem ss_bad {t : TS} : SS S E t mBad := fun F ι h H ρ σ D rp rs o => o.elim
theorem ss_bk : SS S E tBreak mBk := fun F ι h H ρ σ D rp rs o => Ok.now (rel := relF S) (v := (Fl.bk, ρ)) (x := FV.bk σ) o rp rs
theorem ss_ct : SS S E tCont mCt := fun F ι h H ρ σ D rp rs o => Ok.now (rel := relF S) (v := (Fl.ct, ρ)) (x := FV.ct σ) o rp rs
theorem ss_if (ht : ST S E tt mt) (ha : SS S E t m) (hb : SS S E u m') : SS S E (tIfS tt t u) (mIfS mt m m') := fun F ι h H ρ σ D rp rs o =>
  ht F ι h H ρ σ _ rp rs (o.seq fun F1 ι1 H1 h1 v x _ e1 rp1 z o1 => by
    cases z
    cases v with
    | true => exact ha F1 ι1 h1 H1 ρ σ D rp1 (rs.ext rp e1) o1
    | false => exact hb F1 ι1 h1 H1 ρ σ D rp1 (rs.ext rp e1) o1)
theorem ss_while {n : Nat} (ht : ST S E tt mt) (hb : SS S E t m) : SS S E (tWhile tt t) (mWhile n mt m) := fun F ι h H ρ σ D rp rs o => by
  refine ⟨fun k σ H => ∃ F ι h ρ, Rep S.toSg F ι h H ∧ RS S F ι H ρ σ ∧ Ok (relF S) S E F ι H (whileM mt m k ρ h) (DQ D), ⟨n, F, ι, h, ρ, rp, rs, o⟩, ?_⟩
  rintro k σ H ⟨F, ι, h, ρ, rp, rs, o⟩
  cases k with
  | zero => exact o.elim
  | succ k =>
    refine ht F ι h H ρ σ _ rp rs (Ok.seq (rel := eqB) o fun F1 ι1 H1 h1 v x _ e1 rp1 z o1 => ?_)
    cases z
    cases v with
    | false => exact Ok.now (rel := relF S) (v := (Fl.nx, ρ)) (x := FV.nx σ) o1 rp1 (rs.ext rp e1)
    | true =>
      refine ⟨fun σ' H' => ∃ F ι h ρ, Rep S.toSg F ι h H' ∧ RS S F ι H' ρ σ' ∧ Ok (relF S) S E F ι H' (whileM mt m k ρ h) (DQ D), fun σ' H' w => ⟨k, Nat.lt_succ_self k, w⟩, ?_⟩
      refine hb F1 ι1 h1 H1 ρ σ _ rp1 (rs.ext rp e1) (Ok.seq (rel := relF S) o1 fun F2 ι2 H2 h2 v2 x2 _ e2 rp2 z2 o2 => ?_)
      obtain ⟨f, ρ2⟩ := v2
      cases f with
      | nx =>
        cases x2 with
        | nx σ2 => exact ⟨F2, ι2, h2, ρ2, rp2, z2, o2⟩
        | _ => exact z2.elim
      | ct =>
        cases x2 with
        | ct σ2 => exact ⟨F2, ι2, h2, ρ2, rp2, z2, o2⟩
        | _ => exact z2.elim
      | rt v =>
        cases x2 with
        | rt x => exact (show DQ D (FV.rt x) H2 from Ok.now (rel := relF S) (v := (Fl.rt v, ρ2)) (x := FV.rt x) o2 rp2 z2)
        | _ => exact z2.elim
      | bk =>
        cases x2 with
        | bk σ2 => exact (show DQ D (FV.nx σ2) H2 from Ok.now (rel := relF S) (v := (Fl.nx, ρ2)) (x := FV.nx σ2) o2 rp2 z2)
        | _ => exact z2.elim
theorem ss_for (hi : SI S E wi mi) (hg : SG S E g mg) (hb : SS S E t m) : SS S E (tFor wi g t) (mFor mi mg m) := fun F ι h H ρ σ D rp rs o => by
  refine hi F ι h H ρ σ _ rp rs (Ok.seq (rel := WalkAt S) o fun F1 ι1 H1 h1 it J _ e1 rp1 wk o1 => ?_)
  refine ⟨fun i k σ H => ∃ F ι h ρ, EX S.toSg F1 ι1 H1 F ι H ∧ Rep S.toSg F ι h H ∧ RS S F ι H ρ σ ∧ Ok (relF S) S E F ι H (forM it mg m k i ρ h) (DQ D), ⟨60000, F1, ι1, h1, ρ, .refl, rp1, rs.ext rp e1, o1⟩, ?_⟩
  rintro i k σ H ⟨F, ι, h, ρ, ex, rp, rs, o⟩
  cases k with
  | zero => exact o.elim
  | succ k =>
    have w := wk F ι h H i (ex.fwd rp1) rp
    simp only [forM] at o
    split at o
    · rename_i v hv
      rw [hv] at w
      refine .inr ⟨w.1, fun σ' H' => ∃ F ι h ρ, EX S.toSg F1 ι1 H1 F ι H' ∧ Rep S.toSg F ι h H' ∧ RS S F ι H' ρ σ' ∧ Ok (relF S) S E F ι H' (forM it mg m k (i + 1) ρ h) (DQ D), fun σ' H' w => ⟨k, Nat.lt_succ_self k, w⟩, fun x H' hy => ?_⟩
      obtain ⟨e2, rp2, z2⟩ := w.2 x H' hy
      refine hg F ι h H' ρ σ v x _ rp2 (rs.ext rp e2) z2 (Ok.seq (rel := RS S) (o.shift e2) fun F3 ι3 H3 h3 ρ3 σ3 _ e3 rp3 z3 o3 => ?_)
      refine hb F3 ι3 h3 H3 ρ3 σ3 _ rp3 z3 (Ok.seq (rel := relF S) o3 fun F4 ι4 H4 h4 v4 x4 _ e4 rp4 z4 o4 => ?_)
      have ex4 := ex.trans (e2.trans (e3.trans e4))
      obtain ⟨f, ρ4⟩ := v4
      cases f with
      | nx =>
        cases x4 with
        | nx σ2 => exact ⟨F4, ι4, h4, ρ4, ex4, rp4, z4, o4⟩
        | _ => exact z4.elim
      | ct =>
        cases x4 with
        | ct σ2 => exact ⟨F4, ι4, h4, ρ4, ex4, rp4, z4, o4⟩
        | _ => exact z4.elim
      | rt v =>
        cases x4 with
        | rt x => exact (show DQ D (FV.rt x) H4 from Ok.now (rel := relF S) (v := (Fl.rt v, ρ4)) (x := FV.rt x) o4 rp4 z4)
        | _ => exact z4.elim
      | bk =>
        cases x4 with
        | bk σ2 => exact (show DQ D (FV.nx σ2) H4 from Ok.now (rel := relF S) (v := (Fl.nx, ρ4)) (x := FV.nx σ2) o4 rp4 z4)
        | _ => exact z4.elim
    · rename_i hv
      rw [hv] at w
      exact .inl ⟨w, Ok.now (rel := relF S) (v := (Fl.nx, ρ)) (x := FV.nx σ) o rp rs⟩
    · exact o.elim
end
end Rm
namespace Rm
open PySem PySem.Spec PyProof.Rows L2 RZ
/-! ### what is walked -/
theorem PI.or {X : Cx} {tg e : Expr} {w1 w2 : TI} (h1 : PI X tg e w1) (h2 : PI X tg e w2) : PI X tg e (fun σ H R => w1 σ H R ∨ w2 σ H R) :=
  ⟨fun pins s σ H R I h => h.elim (h1.run pins s σ H R I) (h2.run pins s σ H R I)⟩
def iSeq (K : PySem.W.Frag) (te : TE) : TI := fun σ H R => iList K te σ H R ∨ iTup K te σ H R ∨ iStr te σ H R
theorem pi_seq {X : Cx} {tg e : Expr} {te : TE} (he : PE X e te) : PI X tg e (iSeq X.K te) := PI.or (pi_list he) (PI.or (pi_tup he) (pi_str he))
def itOf (h : List LO) : LV → Option Itr
  | .tup xs => some (.vals xs)
  | .vl xs => some (.vals xs)
  | .fz xs => some (.vals xs)
  | .str x => some (.vals (x.map fun c => .str [c]))
  | .ref n => match h[n]? with
    | some (.lst _) => some (.mref n)
    | _ => none
  | _ => none
def mSeqI (ma : ME) : MI := fun ρ h => (ma ρ h).bind fun v h1 => match itOf h1 v with
  | some it => .ok it h1
  | none => .bad
section
variable {S : Se} {E : XK} {F : Addr → Prop} {ι : List Addr} {H : Hp} {h : List LO}
theorem walk_L {a : Addr} {it : Itr} (hk : ∀ F' ι' h' H' i, Fwd S.toSg F ι H F' ι' H' → Rep S.toSg F' ι' h' H' → match it.at i h' with
    | some o => ∃ xs vs, SqL S.K H' a vs ∧ RVs S.toSg F' ι' H' xs vs ∧ o = xs[i]?
    | none => True) : WalkAt S F ι H it (Itl S.K a) := fun F' ι' h' H' i e r => by
  have q := hk F' ι' h' H' i e r
  split at q
  · rename_i o ho
    obtain ⟨xs, vs, hs, z, rfl⟩ := q
    rw [ho]
    cases hx : xs[i]? with
    | none => exact ⟨vs, hs, by rw [← z.length]; exact List.getElem?_eq_none_iff.mp hx⟩
    | some v =>
      obtain ⟨x, e1, e2⟩ := z.at hx
      refine ⟨⟨vs, x, hs, e1⟩, fun y H'' hy => ?_⟩
      obtain ⟨rfl, hy⟩ := hy
      have := hy vs hs
      rw [e1] at this
      cases this
      exact ⟨.refl, r, e2⟩
  · rename_i ho
    rw [ho]
    trivial
theorem walk_T {a : Addr} {xs : List LV} {vs : List V} (hs : SqT S.K H a vs) (z : RVs S.toSg F ι H xs vs) (r0 : Rep S.toSg F ι h H) : WalkAt S F ι H (.vals xs) (Itt S.K a) := fun F' ι' h' H' i e r => by
  have hs' := e.tup _ _ hs
  have z' := z.fwd e _ _
  show match some xs[i]? with | some (some v) => _ | some none => _ | none => _
  cases hx : xs[i]? with
  | none => exact ⟨vs, hs', by rw [← z.length]; exact List.getElem?_eq_none_iff.mp hx⟩
  | some v =>
    obtain ⟨x, e1, e2⟩ := z'.at hx
    refine ⟨⟨vs, x, hs', e1⟩, fun y H'' hy => ?_⟩
    obtain ⟨rfl, hy⟩ := hy
    have := hy vs hs'
    rw [e1] at this
    cases this
    exact ⟨.refl, r, e2⟩
theorem walk_S {x : List Nat} : WalkAt S F ι H (.vals (x.map fun c => .str [c])) (Its ⟨x.toArray⟩) := fun F' ι' h' H' i e r => by
  show match some (x.map fun c => LV.str [c])[i]? with | some (some v) => _ | some none => _ | none => _
  rw [List.getElem?_map]
  cases hx : x[i]? with
  | none =>
    show (⟨x.toArray⟩ : Str).cps.size ≤ i
    have := List.getElem?_eq_none_iff.mp hx
    simpa using this
  | some c =>
    have hi := (List.getElem?_eq_some_iff.mp hx).1
    refine ⟨show i < (⟨x.toArray⟩ : Str).cps.size by simpa using hi, fun y H'' hy => ?_⟩
    obtain ⟨rfl, c2, hc, rfl⟩ := hy
    have : c2 = c := by
      simp at hc
      rw [hx] at hc
      exact (Option.some.inj hc).symm
    subst this
    exact ⟨.refl, r, RV.str [c2]⟩
theorem si_seq {ta : TE} {ma : ME} (ha : SE S E ta ma) : SI S E (iSeq S.K ta) (mSeqI ma) := fun F ι h H ρ σ Q rp rs o => by
  -- the run of ta is the same for all three
  cases hm : ma ρ h with
  | bad =>
    simp only [mSeqI, hm, R.bind] at o
    exact o.elim
  | er c h' =>
    simp only [mSeqI, hm, R.bind] at o
    exact .inl (ha F ι h H ρ σ _ rp rs (by rw [hm]; exact o))
  | ok v h1 =>
    simp only [mSeqI, hm, R.bind] at o
    cases hit : itOf h1 v with
    | none => rw [hit] at o; exact o.elim
    | some it =>
      rw [hit] at o
      have fin : ∀ F1 ι1 H1 J, EX S.toSg F ι H F1 ι1 H1 → Rep S.toSg F1 ι1 h1 H1 → WalkAt S F1 ι1 H1 it J → Q J H1 := fun F1 ι1 H1 J e r wk => o F1 ι1 H1 J e r wk
      have run : ∀ Q' : VK, (∀ F' ι' H' x, EX S.toSg F ι H F' ι' H' → Rep S.toSg F' ι' h1 H' → RV S.toSg F' ι' H' v x → Q' x H') → ta σ H Q' := fun Q' q => ha F ι h H ρ σ Q' rp rs (by rw [hm]; exact q)
      cases v with
      | tup xs =>
        refine .inr (.inl (run _ fun F1 ι1 H1 x e r z => ?_))
        cases hit
        cases z with
        | tup a b => exact ⟨_, rfl, ⟨_, a⟩, fin F1 ι1 H1 _ e r (walk_T a b r)⟩
      | str xs =>
        refine .inr (.inr (run _ fun F1 ι1 H1 x e r z => ?_))
        cases hit
        cases z
        exact ⟨_, rfl, fin F1 ι1 H1 _ e r walk_S⟩
      | vl xs =>
        refine .inl (run _ fun F1 ι1 H1 x e r z => ?_)
        cases hit
        cases z with
        | @vl a xs vs hH nF b => exact ⟨a, rfl, ⟨vs, .of hH⟩, fin F1 ι1 H1 _ e r (walk_L fun F' ι' h' H' i e r2 => ⟨xs, vs, .of (e.keep a _ nF hH), b.fwd e _ _, rfl⟩)⟩
      | fz xs =>
        refine .inl (run _ fun F1 ι1 H1 x e r z => ?_)
        cases hit
        cases z with
        | @fz a xs vs hH b => exact ⟨a, rfl, ⟨vs, hH.sq⟩, fin F1 ι1 H1 _ e r (walk_L fun F' ι' h' H' i e r2 => ⟨xs, vs, (hH.mono fun o q => e.frz _ _ _ q).sq, b.fwd e _ _, rfl⟩)⟩
      | ref n =>
        refine .inl (run _ fun F1 ι1 H1 x e r z => ?_)
        simp only [itOf] at hit
        split at hit
        · rename_i xs hx
          cases hit
          cases z with
          | @ref a n q =>
            have g := r.at hx q
            cases g with
            | lst g1 g2 =>
              refine ⟨a, rfl, ⟨_, .of g1⟩, fin F1 ι1 H1 _ e r (walk_L fun F' ι' h' H' i e r => ?_)⟩
              show match (match h'[n]? with | some (.lst xs) => some xs[i]? | _ => none) with | some o => _ | none => True
              cases hn : h'[n]? with
              | none => trivial
              | some o =>
                have g' := r.at hn (e.ix _ _ q)
                cases g' with
                | lst g3 g4 => exact ⟨_, _, .of g3, g4, rfl⟩
                | _ => trivial
        · cases hit
      | _ => cases hit
end
/-! ### ranges, pairs of two sequences, numbered items -/
def mRng1 (ma : MA) : MI := fun ρ h => (ma ρ h).bind fun vs h1 => match vs with
  | [.int j] => if -1000000 ≤ j ∧ j ≤ 1000000 then .ok (.rng 0 j.toNat) h1 else .bad
  | _ => .bad
def zipL : List LV → List LV → List LV
  | x :: xs, y :: ys => .tup [x, y] :: zipL xs ys
  | _, _ => []
def mZip (ma : MA) : MI := fun ρ h => (ma ρ h).bind fun vs h1 => match vs with
  | [.tup xs, .tup ys] => .ok (.vals (zipL xs ys)) h1
  | [.vl xs, .vl ys] => .ok (.vals (zipL xs ys)) h1
  | _ => .bad
def enumL : Nat → List LV → List LV
  | n, x :: xs => .tup [.int (n : Nat), x] :: enumL (n + 1) xs
  | _, [] => []
def mEnum (ma : MA) : MI := fun ρ h => (ma ρ h).bind fun vs h1 => match vs with
  | [.vl xs] => .ok (.vals (enumL 0 xs)) h1
  | _ => .bad
theorem zipL_get : ∀ {xs ys : List LV} {i : Nat}, (zipL xs ys)[i]? = match xs[i]?, ys[i]? with
    | some x, some y => some (.tup [x, y])
    | _, _ => none
  | [], _, i => by simp [zipL]
  | _ :: _, [], i => by
    simp only [zipL]
    cases h : (‹LV› :: ‹List LV›)[i]? <;> simp
  | x :: xs, y :: ys, 0 => by simp [zipL]
  | x :: xs, y :: ys, i + 1 => by
    simp only [zipL, List.getElem?_cons_succ]
    exact zipL_get
theorem enumL_get : ∀ {xs : List LV} {n i : Nat}, (enumL n xs)[i]? = (xs[i]?).map fun x => .tup [.int ((n + i : Nat) : Int), x]
  | [], n, i => by simp [enumL]
  | x :: xs, n, 0 => by simp [enumL]
  | x :: xs, n, i + 1 => by
    simp only [enumL, List.getElem?_cons_succ]
    rw [enumL_get, show n + 1 + i = n + (i + 1) by omega]
section
variable {S : Se} {E : XK} {tA : TA} {mA : MA}
theorem si_rng1 (ha : SA S E tA mA) : SI S E (iRng1 tA) (mRng1 mA) := fun F ι h H ρ σ Q rp rs o =>
  ha F ι h H ρ σ _ rp rs (o.seq fun F1 ι1 H1 h1 vs xs _ e1 rp1 z o1 => by
    split at o1
    · cases z with
      | cons a b =>
        cases b; cases a
        split at o1
        · rename_i hj
          refine ⟨_, rfl, by omega, by omega, Ok.now (rel := WalkAt S) o1 rp1 fun F' ι' h' H' i e r => ?_⟩
          simp only [Itr.at]
          split
          · rename_i v hv
            split at hv
            · rename_i hi
              cases hv
              exact ⟨hi, fun x H'' hy => by obtain ⟨rfl, rfl⟩ := hy; exact ⟨.refl, r, .int _⟩⟩
            · cases hv
          · rename_i hv
            split at hv
            · cases hv
            · rename_i hi
              exact Nat.le_of_not_lt hi
          · trivial
        · exact o1.elim
    · exact o1.elim)
theorem new_pair {F : Addr → Prop} {ι : List Addr} {H : Hp} {h : List LO} {x y : LV} {vx vy : V} {T : Addr} (r : Rep S.toSg F ι h H) (hT : H T = none) (zx : RV S.toSg F ι H x vx) (zy : RV S.toSg F ι H y vy) :
    EX S.toSg F ι H F ι (upd H T (.tup [vx, vy])) ∧ Rep S.toSg F ι h (upd H T (.tup [vx, vy])) ∧ RV S.toSg F ι (upd H T (.tup [vx, vy])) (.tup [x, y]) (.ref T) :=
  ⟨EX.new hT, r.new hT, .tup (.of upd_same) (RVs.fwd (Fwd.new r hT) _ _ (.cons zx (.cons zy .nil)))⟩
theorem si_zip (ha : SA S E tA mA) : SI S E (iZipA S.K tA) (mZip mA) := fun F ι h H ρ σ Q rp rs o =>
  ha F ι h H ρ σ _ rp rs (o.seq fun F1 ι1 H1 h1 vs xs0 q0 e1 rp1 z o1 => by
    clear q0
    split at o1
    · rename_i xs ys
      cases z with
      | cons a b =>
        cases b with
        | cons b c =>
          cases c
          cases a with
          | tup ta ra =>
            cases b with
            | tup tb rb =>
              refine ⟨_, _, _, _, rfl, .inr ⟨ta, tb, Ok.now (rel := WalkAt S) o1 rp1 fun F' ι' h' H' i e r => ?_⟩⟩
              have ta' := e.tup _ _ ta
              have tb' := e.tup _ _ tb
              have ra' := ra.fwd e _ _
              have rb' := rb.fwd e _ _
              show match some (zipL xs ys)[i]? with | some (some v) => _ | some none => _ | none => _
              rw [zipL_get]
              cases hx : xs[i]? with
              | none => exact ⟨_, _, ta', tb', .inl (by rw [← ra'.length]; exact List.getElem?_eq_none_iff.mp hx)⟩
              | some x =>
                cases hy : ys[i]? with
                | none => exact ⟨_, _, ta', tb', .inr (by rw [← rb'.length]; exact List.getElem?_eq_none_iff.mp hy)⟩
                | some y =>
                  obtain ⟨vx, ex, zx⟩ := ra'.at hx
                  obtain ⟨vy, ey, zy⟩ := rb'.at hy
                  refine ⟨⟨_, _, vx, vy, ta', tb', ex, ey⟩, fun v H'' hv => ?_⟩
                  obtain ⟨T, x2, y2, rfl, hT, rfl, q1, q2⟩ := hv
                  have w1 := q1 _ ta'
                  have w2 := q2 _ tb'
                  rw [ex] at w1
                  rw [ey] at w2
                  cases w1; cases w2
                  exact new_pair r hT zx zy
    · rename_i xs ys
      cases z with
      | cons a b =>
        cases b with
        | cons b c =>
          cases c
          cases a with
          | vl ta na ra =>
            cases b with
            | vl tb nb rb =>
              refine ⟨_, _, _, _, rfl, .inl ⟨.of ta, .of tb, Ok.now (rel := WalkAt S) o1 rp1 fun F' ι' h' H' i e r => ?_⟩⟩
              have ta' : SqL S.K H' _ _ := .of (e.keep _ _ na ta)
              have tb' : SqL S.K H' _ _ := .of (e.keep _ _ nb tb)
              have ra' := ra.fwd e _ _
              have rb' := rb.fwd e _ _
              show match some (zipL xs ys)[i]? with | some (some v) => _ | some none => _ | none => _
              rw [zipL_get]
              cases hx : xs[i]? with
              | none => exact ⟨_, _, ta', tb', .inl (by rw [← ra'.length]; exact List.getElem?_eq_none_iff.mp hx)⟩
              | some x =>
                cases hy : ys[i]? with
                | none => exact ⟨_, _, ta', tb', .inr (by rw [← rb'.length]; exact List.getElem?_eq_none_iff.mp hy)⟩
                | some y =>
                  obtain ⟨vx, ex, zx⟩ := ra'.at hx
                  obtain ⟨vy, ey, zy⟩ := rb'.at hy
                  refine ⟨⟨_, _, vx, vy, ta', tb', ex, ey⟩, fun v H'' hv => ?_⟩
                  obtain ⟨T, x2, y2, rfl, hT, rfl, q1, q2⟩ := hv
                  have w1 := q1 _ ta'
                  have w2 := q2 _ tb'
                  rw [ex] at w1
                  rw [ey] at w2
                  cases w1; cases w2
                  exact new_pair r hT zx zy
    · exact o1.elim)
theorem si_enum (ha : SA S E tA mA) : SI S E (iEnum S.K tA) (mEnum mA) := fun F ι h H ρ σ Q rp rs o =>
  ha F ι h H ρ σ _ rp rs (o.seq fun F1 ι1 H1 h1 vs xs0 q0 e1 rp1 z o1 => by
    clear q0
    split at o1
    · rename_i xs
      cases z with
      | cons a b =>
        cases b
        cases a with
        | vl ta na ra =>
          refine ⟨_, _, rfl, .of ta, Ok.now (rel := WalkAt S) o1 rp1 fun F' ι' h' H' i e r => ?_⟩
          have ta' : SqL S.K H' _ _ := .of (e.keep _ _ na ta)
          have ra' := ra.fwd e _ _
          show match some (enumL 0 xs)[i]? with | some (some v) => _ | some none => _ | none => _
          rw [enumL_get]
          cases hx : xs[i]? with
          | none => exact ⟨_, ta', by rw [← ra'.length]; exact List.getElem?_eq_none_iff.mp hx⟩
          | some x =>
            obtain ⟨vx, ex, zx⟩ := ra'.at hx
            refine ⟨⟨_, vx, ta', ex⟩, fun v H'' hv => ?_⟩
            obtain ⟨T, x2, rfl, hT, rfl, q1⟩ := hv
            have w1 := q1 _ ta'
            rw [ex] at w1
            cases w1
            rw [Nat.zero_add]
            exact new_pair r hT (.int _) zx
    · exact o1.elim)
end
end Rm
namespace Rm
open PySem PySem.Spec PyProof.Rows L2 RZ
/-! ### comprehensions -/
def wipeR (ρ : Rho) : List Nat → Rho
  | [] => ρ
  | v :: vs => (wipeR ρ vs).set v none
def R.safe {α : Type} : R α → R α
  | .er _ _ => .bad
  | r => r
def lcM (it : Itr) (g : MG) (mt : MT) (me : ME) (ρ : Rho) : Nat → Nat → List LO → List LV → R LV
  | 0, _, _, _ => .bad
  | n + 1, i, h, acc => match it.at i h with
    | some (some v) => (g v ρ h).safe.bind fun ρ1 h1 => (mt ρ1 h1).safe.bind fun b h2 => if b = true then (me ρ1 h2).safe.bind fun y h3 => lcM it g mt me ρ n (i + 1) h3 (y :: acc) else lcM it g mt me ρ n (i + 1) h2 acc
    | some none => .ok (.vl acc.reverse) h
    | none => .bad
def mLc (mi : MI) (g : MG) (mt : MT) (me : ME) (vs : List Nat) : ME := fun ρ h => (mi ρ h).bind fun it h1 => lcM it g mt me (wipeR ρ vs) 60000 0 h1 []
def mYes : MT := fun _ h => .ok true h
/-- the target stores names of the block alone -/
def GW (g : TG) (vs : List Nat) : Prop := ∀ v σ H Q, g v σ H Q → g v σ H (fun σ2 H2 => wipe σ2 vs = wipe σ vs ∧ Q σ2 H2)
def GWs (g : TGs) (vs : List Nat) : Prop := ∀ v σ H Q, g v σ H Q → g v σ H (fun σ2 H2 => wipe σ2 vs = wipe σ vs ∧ Q σ2 H2)
theorem wipe_set (σ : L2.St) (i : Nat) (x : Option V) : ∀ {vs : List Nat}, i ∈ vs → wipe (σ.set i x) vs = wipe σ vs
  | [], h => nomatch h
  | v :: vs, h => by
    simp only [wipe]
    by_cases e : i ∈ vs
    · rw [wipe_set σ i x e]
    · have e2 : i = v := by
        rcases List.mem_cons.mp h with q | q
        · exact q
        · exact absurd q e
      subst e2
      have e3 : wipe (σ.set i x) vs = (wipe σ vs).set i x := by
        clear h
        induction vs with
        | nil => rfl
        | cons w vs ih =>
          have nw : i ≠ w := fun q => e (by rw [q]; exact List.mem_cons_self)
          simp only [wipe]
          rw [ih (fun q => e (List.mem_cons_of_mem _ q)), List.set_comm _ _ nw]
      rw [e3, List.set_set]
theorem wipe_wipe (σ : L2.St) : ∀ vs : List Nat, wipe (wipe σ vs) vs = wipe σ vs := fun vs => by
  have h : ∀ ws : List Nat, (∀ w ∈ ws, w ∈ vs) → wipe (wipe σ ws) vs = wipe σ vs := by
    intro ws
    induction ws with
    | nil => intro _; rfl
    | cons w ws ih =>
      intro hw
      simp only [wipe]
      rw [wipe_set _ _ _ (hw w List.mem_cons_self), ih fun q hq => hw q (List.mem_cons_of_mem _ hq)]
  exact h vs fun _ z => z
theorem gw_name {i : Nat} {vs : List Nat} (h : i ∈ vs) : GW (gName i) vs := fun v σ H Q q => ⟨wipe_set σ i _ h, q⟩
theorem gws_nil {vs : List Nat} : GWs gNil vs := fun v σ H Q q => ⟨q.1, rfl, q.2⟩
theorem gws_cons {g : TG} {gs : TGs} {vs : List Nat} (mono : ∀ v σ H Q Q', (∀ a b, Q a b → Q' a b) → g v σ H Q → g v σ H Q') (monos : ∀ v σ H Q Q', (∀ a b, Q a b → Q' a b) → gs v σ H Q → gs v σ H Q') (h1 : GW g vs) (h2 : GWs gs vs) : GWs (gCons g gs) vs := fun v σ H Q q => by
  obtain ⟨x, r, rfl, q⟩ := q
  refine ⟨x, r, rfl, ?_⟩
  refine mono _ _ _ _ _ ?_ (h1 _ _ _ _ q)
  rintro σ2 H2 ⟨e, q2⟩
  refine monos _ _ _ _ _ ?_ (h2 _ _ _ _ q2)
  rintro σ3 H3 ⟨e3, q3⟩
  exact ⟨e3.trans e, q3⟩
theorem gw_tup {K : PySem.W.Frag} {n : Nat} {gs : TGs} {vs : List Nat} (h : GWs gs vs) : GW (gTup K n gs) vs := fun v σ H Q q => by
  obtain ⟨a, xs, rfl, hs, hn, q⟩ := q
  exact ⟨a, xs, rfl, hs, hn, h _ _ _ _ q⟩
/-- names alone -/
def gNames : List Nat → TGs
  | [] => gNil
  | i :: is => gCons (gName i) (gNames is)
theorem gNames_mono : ∀ (is : List Nat) v σ H (Q Q' : L2.St → Hp → Prop), (∀ a b, Q a b → Q' a b) → gNames is v σ H Q → gNames is v σ H Q'
  | [], v, σ, H, Q, Q', m, q => ⟨q.1, m _ _ q.2⟩
  | i :: is, v, σ, H, Q, Q', m, q => by
    obtain ⟨x, r, rfl, q⟩ := q
    exact ⟨x, r, rfl, gNames_mono is _ _ _ _ _ m q⟩
theorem gws_names {vs : List Nat} : ∀ (is : List Nat), (∀ i ∈ is, i ∈ vs) → GWs (gNames is) vs
  | [], _ => gws_nil
  | i :: is, h => gws_cons (fun _ _ _ _ _ m q => m _ _ q) (gNames_mono is) (gw_name (h i List.mem_cons_self)) (gws_names is fun j hj => h j (List.mem_cons_of_mem _ hj))
section
variable {S : Se} {E : XK} {F F1 : Addr → Prop} {ι ι1 : List Addr} {H H1 : Hp} {h : List LO} {ρ : Rho} {σ : L2.St} {α β γ δ : Type}
  {rel : (Addr → Prop) → List Addr → Hp → α → β → Prop} {rel' : (Addr → Prop) → List Addr → Hp → γ → δ → Prop}
theorem Ok.seqB {r : R α} {k : α → List LO → R γ} {Q : δ → Hp → Prop} {Q' : β → Hp → Prop} (o : Ok rel' S E F1 ι1 H1 (r.safe.bind k) Q)
    (st : ∀ F2 ι2 H2 h2 v x, r = .ok v h2 → EX S.toSg F ι H F2 ι2 H2 → Rep S.toSg F2 ι2 h2 H2 → rel F2 ι2 H2 v x → Ok rel' S E F1 ι1 H1 (k v h2) Q → Q' x H2) : Ok rel S E0 F ι H r Q' := by
  cases r with
  | ok v h' => exact fun F' ι' H' x e2 r2 q => st F' ι' H' h' v x rfl e2 r2 q o
  | er c h' => exact o.elim
  | bad => exact o.elim
theorem wipeR_length (ρ : Rho) : ∀ vs : List Nat, (wipeR ρ vs).length = ρ.length
  | [] => rfl
  | v :: vs => by unfold wipeR; rw [List.length_set, wipeR_length ρ vs]
theorem wipeR_some {i : Nat} {x : LV} : ∀ {vs : List Nat}, (wipeR ρ vs)[i]? = some (some x) → ρ[i]? = some (some x) ∧ i ∉ vs
  | [], h => ⟨h, by simp⟩
  | v :: vs, h => by
    unfold wipeR at h
    by_cases hi : v = i
    · subst hi
      by_cases hv : v < (wipeR ρ vs).length
      · rw [List.getElem?_set_self hv] at h; cases h
      · rw [List.getElem?_eq_none (by simpa using hv)] at h; cases h
    · rw [List.getElem?_set_ne hi] at h
      obtain ⟨h1, h2⟩ := wipeR_some h
      exact ⟨h1, by simp only [List.mem_cons, not_or]; exact ⟨fun e => hi e.symm, h2⟩⟩
theorem RS.wipe (s : RS S F ι H ρ σ) (vs : List Nat) : RS S F ι H (wipeR ρ vs) (wipe σ vs) := by
  refine ⟨by rw [wipeR_length, wipe_length]; exact s.len, fun i v q => ?_⟩
  obtain ⟨q1, q2⟩ := wipeR_some q
  obtain ⟨x, e1, e2⟩ := s.get i v q1
  exact ⟨x, by rw [wipe_out q2]; exact e1, e2⟩
end
section
variable {S : Se} {E : XK} {te : TE} {me : ME} {tt : TT} {mt : MT} {g : TG} {mg : MG} {wi : TI} {mi : MI}
theorem st_yes : ST S E tYes mYes := fun F ι h H ρ σ Q rp rs o => Ok.now (v := true) o rp rfl
/-- how far a comprehension is -/
structure Lc (S : Se) (F1 : Addr → Prop) (ι1 : List Addr) (H1 : Hp) (D : Addr) (F : Addr → Prop) (ι : List Addr) (h : List LO) (H : Hp) (acc : List LV) (i : Nat) : Prop where
  ex : EX S.toSg F1 ι1 H1 F ι H
  rp : Rep S.toSg F ι h H
  FD : F D
  nD : D ∉ ι
  at' : ∃ vs, H D = some (.lst vs) ∧ RVs S.toSg F ι H acc.reverse vs
  le : acc.length ≤ i
theorem EX.updD {F1 F : Addr → Prop} {ι1 ι : List Addr} {H1 H : Hp} {D : Addr} {vs ws : List V} (e : EX S.toSg F1 ι1 H1 F ι H) (hD : H1 D = none) (hq : H D = some (.lst vs)) : EX S.toSg F1 ι1 H1 F ι (upd H D (.lst ws)) := by
  refine ⟨fun a xs q => ?_, fun a o n q => ?_, e.grow, e.more, e.fresh, fun a q => ?_⟩
  · rcases e.tup a xs q with (z | ⟨u, z⟩) | z
    · exact .inl (.inl (by rw [upd_ne (fun c => by subst c; rw [hq] at z; cases z)]; exact z))
    · exact .inl (.inr ⟨u, by rw [upd_ne (fun c => by subst c; rw [hq] at z; cases z)]; exact z⟩)
    · exact .inr z
  · rw [upd_ne (ne_of_none q hD)]; exact e.keep a o n q
  · by_cases c : a = D
    · subst c; exact hD
    · rw [upd_ne c] at q; exact e.dom a q
theorem Fwd.updD {F : Addr → Prop} {ι : List Addr} {H : Hp} {D : Addr} {vs ws : List V} (FD : F D) (hq : H D = some (.lst vs)) : Fwd S.toSg F ι H F ι (upd H D (.lst ws)) := by
  refine ⟨fun a xs q => ?_, fun a o n q => ?_, fun a o us q => ?_, fun a o n _ => n, fun _ _ q => q⟩
  · rcases q with (z | ⟨u, z⟩) | z
    · exact .inl (.inl (by rw [upd_ne (fun c => by subst c; rw [hq] at z; cases z)]; exact z))
    · exact .inl (.inr ⟨u, by rw [upd_ne (fun c => by subst c; rw [hq] at z; cases z)]; exact z⟩)
    · exact .inr z
  · rw [upd_ne (fun c => n (by rw [c]; exact FD))]; exact q
  · rw [upd_ne (fun c => by subst c; rw [hq] at q; cases q)]; exact q
theorem Rep.updD {F : Addr → Prop} {ι : List Addr} {H : Hp} {h : List LO} {D : Addr} {vs ws : List V} (r : Rep S.toSg F ι h H) (FD : F D) (nD : D ∉ ι) (hq : H D = some (.lst vs)) : Rep S.toSg F ι h (upd H D (.lst ws)) := by
  refine ⟨r.len, r.nd, r.inF, fun a ha e => ?_, fun i o a h1 h2 => ?_⟩
  · by_cases c : a = D
    · subst c; rw [upd_same] at e; cases e
    · rw [upd_ne c] at e; exact r.dom a ha e
  · refine (r.obj i o a h1 h2).fwd (Fwd.updD FD hq) fun u q => ?_
    rw [upd_ne (fun c => nD (by rw [← c]; exact List.mem_of_getElem? h2))]
    exact q
theorem Lc.step {F1 F F2 : Addr → Prop} {ι1 ι ι2 : List Addr} {H1 H H2 : Hp} {D : Addr} {h h2 : List LO} {acc : List LV} {i : Nat} (L : Lc S F1 ι1 H1 D F ι h H acc i) (e : EX S.toSg F ι H F2 ι2 H2) (r : Rep S.toSg F2 ι2 h2 H2) : Lc S F1 ι1 H1 D F2 ι2 h2 H2 acc i := by
  obtain ⟨vs, q, z⟩ := L.at'
  refine ⟨L.ex.trans e, r, e.more _ L.FD, fun m => ?_, ⟨vs, e.keep _ _ L.nD q, z.ext L.rp e⟩, L.le⟩
  obtain ⟨more, rfl, n⟩ := e.grow
  rcases List.mem_append.mp m with m | m
  · exact L.nD m
  · have := n _ m
    rw [q] at this
    cases this
theorem se_lc {vs : List Nat} (hi : SI S E wi mi) (hg : SG S E0 g mg) (gw : GW g vs) (ht : ST S E0 tt mt) (he : SE S E0 te me) : SE S E (tLc wi g tt te vs) (mLc mi mg mt me vs) := fun F ι h H ρ σ Q rp rs o => by
  refine hi F ι h H ρ σ _ rp rs (Ok.seq (rel := WalkAt S) o fun F1 ι1 H1 h1 it J _ e1 rp1 wk o1 => ?_)
  have rs1 := (rs.ext rp e1).wipe vs
  intro D hD
  refine ⟨fun i k H => ∃ F ι h acc, Lc S F1 ι1 H1 D F ι h H acc i ∧ i + k = 60000 ∧ Ok (RV S.toSg) S E F1 ι1 H1 (lcM it mg mt me (wipeR ρ vs) k i h acc) Q, ⟨60000, fun a => F1 a ∨ a = D, ι1, h1, [], ⟨?_, ?_, .inr rfl, fun m => rp1.dom D (rp1.inF D m) hD, ⟨[], upd_same, .nil⟩, Nat.le_refl _⟩, rfl, o1⟩, ?_⟩
  · have e := EX.new (S := S) (F := F1) (ι := ι1) (o := .lst []) hD
    exact ⟨e.tup, e.keep, e.grow, fun a z => .inl z, fun a z n => z.elim (fun q => absurd q n) fun q => by rw [q]; exact hD, e.dom⟩
  · have nm : D ∉ ι1 := fun m => rp1.dom D (rp1.inF D m) hD
    have e := EX.new (S := S) (F := F1) (ι := ι1) (o := .lst []) hD
    refine ⟨rp1.len, rp1.nd, fun a m => .inl (rp1.inF a m), fun a z q => ?_, fun i o a q1 q2 => ?_⟩
    · by_cases c : a = D
      · subst c; rw [upd_same] at q; cases q
      · rw [upd_ne c] at q
        exact z.elim (fun z => rp1.dom a z q) c
    · refine (rp1.obj i o a q1 q2).fwd ⟨fun a vs q => e.tup a vs q, fun a o n q => e.keep a o (fun m => n (rp1.inF a m)) q, fun a o us q => e.keep a _ (rp1.nfr q) q, fun a o n q z => ?_, fun _ _ q => q⟩ fun u q => ?_
      · rcases z with z | z
        · exact n z
        · rw [z, hD] at q; cases q
      · rw [upd_ne (ne_of_none q hD)]; exact q
  · rintro i k H2 ⟨F2, ι2, h2, acc, L, hk, o2⟩
    cases k with
    | zero => exact o2.elim
    | succ k =>
      have w := wk F2 ι2 h2 H2 i (L.ex.fwd rp1) L.rp
      simp only [lcM] at o2
      split at o2
      · rename_i v hv
        rw [hv] at w
        refine .inr ⟨w.1, fun H' => ∃ F ι h acc, Lc S F1 ι1 H1 D F ι h H' acc (i + 1) ∧ (i + 1) + k = 60000 ∧ Ok (RV S.toSg) S E F1 ι1 H1 (lcM it mg mt me (wipeR ρ vs) k (i + 1) h acc) Q, fun H' w => ⟨k, Nat.lt_succ_self k, w⟩, fun x H' hy => ?_⟩
        obtain ⟨e3, rp3, z3⟩ := w.2 x H' hy
        have L3 := L.step e3 rp3
        have gg := gw x (wipe σ vs) H' (fun σ2 H2 => tt σ2 H2 fun b H3 => if b = true then te σ2 H3 fun y H4 => ∃ acc, H4 D = some (.lst acc) ∧ acc.length < sizeLine ∧ (∃ F ι h ac, Lc S F1 ι1 H1 D F ι h (upd H4 D (.lst (acc ++ [y]))) ac (i + 1) ∧ (i + 1) + k = 60000 ∧ Ok (RV S.toSg) S E F1 ι1 H1 (lcM it mg mt me (wipeR ρ vs) k (i + 1) h ac) Q)
          else (∃ F ι h ac, Lc S F1 ι1 H1 D F ι h H3 ac (i + 1) ∧ (i + 1) + k = 60000 ∧ Ok (RV S.toSg) S E F1 ι1 H1 (lcM it mg mt me (wipeR ρ vs) k (i + 1) h ac) Q))
        rw [wipe_wipe] at gg
        refine gg ?_
        have rs3 := ((rs1.ext rp1 L.ex).ext L.rp e3)
        refine hg F2 ι2 h2 H' (wipeR ρ vs) (wipe σ vs) v x _ rp3 rs3 z3 (Ok.seqB (rel := RS S) o2 fun F4 ι4 H4 h4 ρ4 σ4 _ e4 rp4 rs4 o4 => ?_)
        have L4 := L3.step e4 rp4
        refine ht F4 ι4 h4 H4 ρ4 σ4 _ rp4 rs4 (Ok.seqB (rel := eqB) o4 fun F5 ι5 H5 h5 b b' _ e5 rp5 zb o5 => ?_)
        cases zb
        have L5 := L4.step e5 rp5
        cases b with
        | false => exact ⟨F5, ι5, h5, acc, ⟨L5.ex, L5.rp, L5.FD, L5.nD, L5.at', Nat.le_succ_of_le L5.le⟩, by omega, o5⟩
        | true =>
          refine he F5 ι5 h5 H5 ρ4 σ4 _ rp5 (rs4.ext rp4 e5) (Ok.seqB (rel := RV S.toSg) o5 fun F6 ι6 H6 h6 y yv _ e6 rp6 zy o6 => ?_)
          have L6 := L5.step e6 rp6
          obtain ⟨us, q, zs⟩ := L6.at'
          have hl : us.length ≤ i := by rw [← zs.length, List.length_reverse]; exact L6.le
          have fw := Fwd.updD (S := S) (ι := ι6) (ws := us ++ [yv]) L6.FD q
          refine ⟨us, q, Nat.lt_of_le_of_lt hl (Nat.lt_of_lt_of_le (show i < 60000 by omega) (by decide)), F6, ι6, h6, y :: acc, ⟨L6.ex.updD hD q, rp6.updD L6.FD L6.nD q, L6.FD, L6.nD, ⟨us ++ [yv], upd_same, ?_⟩, ?_⟩, by omega, o6⟩
          · rw [List.reverse_cons]
            exact (zs.fwd fw _ _).append (.cons (zy.fwd fw _ _) .nil)
          · rw [List.length_cons]
            exact Nat.succ_le_succ L6.le
      · rename_i hv
        rw [hv] at w
        refine .inl ⟨w, ?_⟩
        obtain ⟨us, q, zs⟩ := L.at'
        -- the list stays from now on
        have n1 : ∀ a, F1 a → a ≠ D := fun a z c => rp1.dom a z (by rw [c]; exact hD)
        have fw : Fwd S.toSg F2 ι2 H2 (fun a => F2 a ∧ a ≠ D) ι2 H2 := ⟨fun _ _ q => q, fun _ _ _ q => q, fun _ _ _ q => q, fun _ _ n _ z => n z.1, fun _ _ q => q⟩
        refine o2 (fun a => F2 a ∧ a ≠ D) ι2 H2 (.ref D) ⟨L.ex.tup, L.ex.keep, L.ex.grow, fun a z => ⟨L.ex.more a z, n1 a z⟩, fun a z n => L.ex.fresh a z.1 n, L.ex.dom⟩ ?_ (.vl q (fun z => z.2 rfl) (zs.fwd fw _ _))
        exact ⟨L.rp.len, L.rp.nd, fun a m => ⟨L.rp.inF a m, fun c => L.nD (by rw [← c]; exact m)⟩, fun a z => L.rp.dom a z.1, fun j o a q1 q2 => (L.rp.obj j o a q1 q2).fwd fw fun _ q => q⟩
      · exact o2.elim
end
end Rm
namespace Rm
open PySem PySem.Spec PyProof.Rows L2 RZ
/-! ### defs -/
def mFn (n : Nat) (body : MS) : MF := fun args h => (body (args.map some ++ List.replicate (n - args.length) none) h).bind fun r h1 => match r.1 with
  | .rt v => .ok v h1
  | .nx => .ok .non h1
  | _ => .bad
def spM (S : Se) (n : Nat) (m : MF) : Sp := fun vs H Q _ => vs.length = n ∧ ∃ F ι h lvs, Rep S.toSg F ι h H ∧ RVs S.toSg F ι H lvs vs ∧ Ok (RV S.toSg) S E0 F ι H (m lvs h) Q
section
variable {S : Se} {E : XK} {F F' : Addr → Prop} {ι ι' : List Addr} {H : Hp} {h : List LO}
theorem RS.start {lvs : List LV} {vs : List V} {N : List Str} (z : RVs S.toSg F ι H lvs vs) : RS S F ι H (lvs.map some ++ List.replicate (N.length - lvs.length) none) (L2.start N vs) := by
  unfold L2.start
  refine ⟨by simp [z.length], fun i v q => ?_⟩
  by_cases hi : i < lvs.length
  · rw [List.getElem?_append_left (by simpa using hi), List.getElem?_map] at q
    cases e : lvs[i]? with
    | none => rw [e] at q; cases q
    | some w =>
      rw [e] at q
      cases q
      obtain ⟨x, e1, e2⟩ := z.at e
      exact ⟨x, by rw [List.getElem?_append_left (by rw [List.length_map, ← z.length]; exact hi), List.getElem?_map, e1]; rfl, e2⟩
  · rw [List.getElem?_append_right (by simpa using hi)] at q
    have := List.mem_of_getElem? q
    rw [List.mem_replicate] at this
    cases this.2
/-- a body's run is the def's -/
theorem fn_run {N : List Str} {m : MS} {t : TS} {n : Nat} {vs : List V} {H : Hp} {Q : VK} {E : XK} (b : SS S E0 t m) (sp : spM S n (mFn N.length m) vs H Q E) : t { nx := fun _ H' => Q .non H', rt := Q } (L2.start N vs) H := by
  obtain ⟨_, F, ι, h, lvs, rp, rv, o⟩ := sp
  refine b F ι h H _ _ _ rp (RS.start (N := N) rv) (Ok.seq (rel := relF S) o fun F1 ι1 H1 h1 v x _ e1 rp1 z o1 => ?_)
  obtain ⟨f, ρ1⟩ := v
  cases f with
  | nx =>
    cases x with
    | nx σ1 => exact Ok.now (rel := RV S.toSg) (v := .non) o1 rp1 .non
    | _ => exact z.elim
  | rt v =>
    cases x with
    | rt x => exact Ok.now (rel := RV S.toSg) o1 rp1 z
    | _ => exact z.elim
  | _ => exact o1.elim
/-! ### a value alone -/
mutual
theorem RV.unF (hF : ∀ a, F a → F' a) : ∀ (x : LV) (v : V), x.pure = true → RV S.toSg F' ι' H x v → RV S.toSg F ι H x v
  | .non, _, _, h => by cases h; exact .non
  | .bl _, _, _, h => by cases h; exact .bl _
  | .int _, _, _, h => by cases h; exact .int _
  | .str _, _, _, h => by cases h; exact .str _
  | .tup xs, _, p, h => by cases h with | tup a b => exact .tup a (RVs.unF hF xs _ (by simpa [LV.pure] using p) b)
  | .vl xs, _, p, h => by cases h with | vl a n b => exact .vl a (fun q => n (hF _ q)) (RVs.unF hF xs _ (by simpa [LV.pure] using p) b)
  | .fz xs, _, p, h => by cases h with | fz a b => exact .fz a (RVs.unF hF xs _ (by simpa [LV.pure] using p) b)
  | .vd ks vs, _, p, h => by
    have p' : LV.pures ks = true ∧ LV.pures vs = true := by simpa [LV.pure] using p
    cases h with | vd a n c d e g i => exact .vd a (fun q => n (hF _ q)) c d e (RVs.unF hF ks _ p'.1 g) (RVs.unF hF vs _ p'.2 i)
  | .sd kc vs, _, p, h => by cases h with | sd a n c i => exact .sd a (fun q => n (hF _ q)) c (RVs.unF hF vs _ (by simpa [LV.pure] using p) i)
  | .obj C xs, _, p, h => by cases h with | obj a n c d => exact .obj a (fun q => n (hF _ q)) c (RVs.unF hF xs _ (by simpa [LV.pure] using p) d)
  | .ref _, _, p, _ => by simp [LV.pure] at p
theorem RVs.unF (hF : ∀ a, F a → F' a) : ∀ (xs : List LV) (vs : List V), LV.pures xs = true → RVs S.toSg F' ι' H xs vs → RVs S.toSg F ι H xs vs
  | [], _, _, h => by cases h; exact .nil
  | x :: xs, _, p, h => by
    have p' : x.pure = true ∧ LV.pures xs = true := by simpa [LV.pures] using p
    cases h with | cons a b => exact .cons (RV.unF hF x _ p'.1 a) (RVs.unF hF xs _ p'.2 b)
end
def outV (h : List LO) (v : LV) : Option LV := if v.pure = true then some v else LV.deep h 100000 v
theorem outV_of {h' : List LO} {v w : LV} {x : V} (r : Rep S.toSg F' ι' h' H) (nf : ∀ a ∈ ι', ¬ F a) (hF : ∀ a, F a → F' a) (e : outV h' v = some w) (z : RV S.toSg F' ι' H v x) : RV S.toSg F ι H w x := by
  unfold outV at e
  split at e
  · rename_i p
    cases e
    exact z.unF hF v x p
  · exact RV.deep r nf hF _ v w x e z
/-- with no object of its own at the start, a run leaves all that stood -/
theorem Rep.nil (r : Rep S.toSg F ι h H) : Rep S.toSg F [] [] H := ⟨rfl, .nil, fun _ m => (nomatch m), r.dom, fun n o a q => by simp at q⟩
theorem iso_back {H' : Hp} (r : Rep S.toSg F ι h H) (e : EX S.toSg F [] H F' ι' H') : EX S.toSg F ι H F ι H' ∧ Rep S.toSg F ι h H' ∧ (∀ a ∈ ι', ¬ F a) := by
  have k : ∀ a o, H a = some o → H' a = some o := fun a o q => e.keep a o (fun m => nomatch m) q
  have ex : EX S.toSg F ι H F ι H' := ⟨e.tup, fun a o _ q => k a o q, ⟨[], by simp, fun _ m => nomatch m⟩, fun _ z => z, fun _ z n => absurd z n, e.dom⟩
  refine ⟨ex, ⟨r.len, r.nd, r.inF, fun a z q => r.dom a z (e.dom a q), fun n o a q1 q2 => (r.obj n o a q1 q2).fwd (ex.fwd r) fun u q => k a u q⟩, fun a m z => ?_⟩
  obtain ⟨more, rfl, n⟩ := e.grow
  exact r.dom a z (n a m)
end
/-- a call, all alone -/
def mCall (n : Nat) (f : MF) (ma : MA) : ME := fun ρ h => (ma ρ h).bind fun vs h1 => if vs.length = n then (if LV.pures vs = true then match f vs [] with
    | .ok v h' => match outV h' v with
      | some w => .ok w h1
      | none => .bad
    | _ => .bad
  else .bad) else .bad
/-- a call that may change our objects -/
def mCallS (n : Nat) (f : MF) (ma : MA) : ME := fun ρ h => (ma ρ h).bind fun vs h1 => if vs.length = n then (f vs h1).safe else .bad
section
variable {S : Se} {E E' : XK} {tA : TA} {mA : MA} {ta tv : TE} {ma mv : ME} {n : Nat} {f : MF}
theorem Ok.unsafe {F : Addr → Prop} {ι : List Addr} {H : Hp} {r : R LV} {Q : VK} (o : Ok (RV S.toSg) S E F ι H r.safe Q) : Ok (RV S.toSg) S E0 F ι H r Q := by
  cases r with
  | ok v h => exact o
  | er c h => exact o.elim
  | bad => exact o.elim
theorem iso_run {F : Addr → Prop} {ι : List Addr} {H : Hp} {h : List LO} {vs : List LV} {xs : List V} {Q : VK} (rp : Rep S.toSg F ι h H) (z : RVs S.toSg F ι H vs xs) (hn : vs.length = n) (hp : LV.pures vs = true)
    (o : Ok (RV S.toSg) S E F ι H (match f vs [] with
    | .ok v h' => match outV h' v with
      | some w => .ok w h
      | none => .bad
    | _ => .bad) Q) : spM S n f xs H Q E' := by
  refine ⟨by rw [← z.length]; exact hn, F, [], [], vs, rp.nil, RVs.pure [] vs xs hp z, ?_⟩
  cases q : f vs [] with
  | ok v h' =>
    rw [q] at o
    dsimp only at o
    split at o
    · rename_i w hw
      intro F' ι' H' x e r2 z2
      obtain ⟨ex, rp2, nf⟩ := iso_back rp e
      exact o F ι H' x ex rp2 (outV_of r2 nf e.more hw z2)
    · exact o.elim
  | er c h' => rw [q] at o; exact o.elim
  | bad => rw [q] at o; exact o.elim
theorem se_call (ha : SA S E tA mA) : SE S E (tCall (spM S n f) [] E' tA) (mCall n f mA) := fun F ι h H ρ σ Q rp rs o =>
  ha F ι h H ρ σ _ rp rs (o.seq fun F1 ι1 H1 h1 vs xs _ e1 rp1 z o1 => by
    rw [List.append_nil]
    split at o1
    · rename_i hn
      split at o1
      · rename_i hp
        exact iso_run rp1 z hn hp o1
      · exact o1.elim
    · exact o1.elim)
theorem se_callS (ha : SA S E tA mA) : SE S E (tCall (spM S n f) [] E' tA) (mCallS n f mA) := fun F ι h H ρ σ Q rp rs o =>
  ha F ι h H ρ σ _ rp rs (o.seq fun F1 ι1 H1 h1 vs xs _ e1 rp1 z o1 => by
    rw [List.append_nil]
    split at o1
    · rename_i hn
      exact ⟨by rw [← z.length]; exact hn, F1, ι1, h1, vs, rp1, z, o1.unsafe⟩
    · exact o1.elim)
/-! ### methods and fields of instances that stay -/
def mMeth (C n : Nat) (f : MF) (ma : ME) (mr : MA) : ME := fun ρ h => (ma ρ h).bind fun v h1 => match v with
  | .obj C' fs => if C' = C then (mr ρ h1).bind fun vs h2 => (if (LV.obj C' fs :: vs).length = n then (if LV.pures (LV.obj C' fs :: vs) = true then match f (LV.obj C' fs :: vs) [] with
      | .ok v h' => match outV h' v with
        | some w => .ok w h2
        | none => .bad
      | _ => .bad
    else .bad) else .bad) else .bad
  | _ => .bad
theorem lookup_none {fs : List (Str × V)} {m : Str} (h : m ∉ fs.map (·.1)) : fs.lookup m = none := by
  induction fs with
  | nil => rfl
  | cons p fs ih =>
    obtain ⟨g, v⟩ := p
    have h1 : m ≠ g := fun e => h (by rw [e]; simp)
    have h2 : m ∉ fs.map (·.1) := fun e => h (by simp only [List.map_cons, List.mem_cons]; exact .inr e)
    rw [List.lookup_cons, beq_eq_false_iff_ne.mpr h1]
    exact ih h2
theorem se_meth {C : Nat} {m : Str} (nm : m ∉ S.nm C) (ha : SE S E ta ma) (hr : SA S E tA mA) : SE S E (tMeth (S.ct C) m (spM S n f) [] E' ta tA) (mMeth C n f ma mA) := fun F ι h H ρ σ Q rp rs o =>
  ha F ι h H ρ σ _ rp rs (o.seq fun F1 ι1 H1 h1 v x _ e1 rp1 z o1 => by
    cases z with
    | @obj a C' dx fs xs q nF hnm hfs =>
      dsimp only at o1
      split at o1
      · rename_i hC
        subst hC
        refine ⟨a, dx, fs, rfl, q, lookup_none (by rw [hnm]; exact nm), hr F1 ι1 h1 H1 ρ σ _ rp1 (rs.ext rp e1) (o1.seq fun F2 ι2 H2 h2 vs ys _ e2 rp2 zs o2 => ?_)⟩
        rw [List.append_nil]
        have z0 : RV S.toSg F1 ι1 H1 (.obj C' xs) (.ref a) := .obj q nF hnm hfs
        have zz : RVs S.toSg F2 ι2 H2 (.obj C' xs :: vs) (.ref a :: ys) := .cons (z0.ext rp1 e2) zs
        split at o2
        · rename_i hn
          split at o2
          · rename_i hp
            exact iso_run rp2 zz hn hp o2
          · exact o2.elim
        · exact o2.elim
      · exact o1.elim
    | _ => exact o1.elim)
theorem se_or {te1 te2 : TE} {m1 m2 : ME} (d : Rho → Bool) (h1 : SE S E te1 m1) (h2 : SE S E te2 m2) : SE S E (fun σ H Q => te1 σ H Q ∨ te2 σ H Q) (fun ρ h => if d ρ = true then m1 ρ h else m2 ρ h) := fun F ι h H ρ σ Q rp rs o => by
  dsimp only at o ⊢
  by_cases e : d ρ = true
  · rw [if_pos e] at o; exact .inl (h1 F ι h H ρ σ Q rp rs o)
  · rw [if_neg e] at o; exact .inr (h2 F ι h H ρ σ Q rp rs o)
theorem PE.or {X : Cx} {e : Expr} {t1 t2 : TE} (h1 : PE X e t1) (h2 : PE X e t2) : PE X e (fun σ H Q => t1 σ H Q ∨ t2 σ H Q) := ⟨fun pins s σ H Q I h => h.elim (h1.run pins s σ H Q I) (h2.run pins s σ H Q I)⟩
def isCls (i C : Nat) (ρ : Rho) : Bool := match ρ[i]? with
  | some (some (.obj C' _)) => decide (C' = C)
  | _ => false
/-- a field: where it stands, class by class -/
structure Fld (S : Se) (f : Str) (t : List (Nat × Nat)) : Prop where
  ok : ∀ C i, t.lookup C = some i → Cls S.K (S.ct C) ∧ NoAttr S.K (S.ct C) f ∧ (S.nm C).idxOf f = i ∧ i < (S.nm C).length ∧ (S.nm C).length < 1000
def mFld (t : List (Nat × Nat)) (ma : ME) : ME := fun ρ h => (ma ρ h).bind fun v h1 => match v with
  | .obj C xs => match t.lookup C with
    | some i => match xs[i]? with
      | some y => .ok y h1
      | none => .bad
    | none => .bad
  | .ref n => match h1[n]? with
    | some (.ins C _ xs) => match t.lookup C with
      | some i => match xs[i]? with
        | some y => .ok y h1
        | none => .bad
      | none => .bad
    | _ => .bad
  | _ => .bad
theorem lookup_idx {f : Str} : ∀ {fs : List (Str × V)} {i : Nat}, (fs.map (·.1)).idxOf f = i → i < fs.length → fs.lookup f = (fs.map (·.2))[i]?
  | [], _, _, h => by simp at h
  | (g, v) :: fs, i, e, h => by
    simp only [List.map_cons, List.idxOf_cons] at e
    by_cases c : g = f
    · subst c
      simp only [beq_self_eq_true, cond_true] at e
      subst e
      simp
    · rw [beq_eq_false_iff_ne.mpr c] at e
      simp only [cond_false] at e
      subst e
      rw [List.lookup_cons, beq_eq_false_iff_ne.mpr (Ne.symm c)]
      rw [List.map_cons, List.getElem?_cons_succ]
      exact lookup_idx rfl (by simpa using h)
theorem idxOf_take {α : Type} [BEq α] [LawfulBEq α] {f : α} : ∀ {l : List α} {k : Nat}, l.idxOf f < k → (l.take k).idxOf f = l.idxOf f
  | [], k, _ => by simp
  | x :: l, 0, h => absurd h (Nat.not_lt_zero _)
  | x :: l, k + 1, h => by
    simp only [List.take_succ_cons, List.idxOf_cons] at h ⊢
    by_cases c : x == f
    · rw [c]; rfl
    · rw [Bool.eq_false_iff.mpr c] at h ⊢
      simp only [cond_false] at h ⊢
      rw [idxOf_take (by omega)]
theorem mem_take_idx {α : Type} [BEq α] [LawfulBEq α] {f : α} : ∀ {l : List α} {k : Nat}, f ∈ l.take k → l.idxOf f < k
  | [], k, h => by simp at h
  | x :: l, 0, h => by simp at h
  | x :: l, k + 1, h => by
    rw [List.idxOf_cons]
    by_cases c : x == f
    · rw [c]; exact Nat.succ_pos _
    · rw [Bool.eq_false_iff.mpr c]
      rw [List.take_succ_cons, List.mem_cons] at h
      rcases h with h | h
      · exact absurd (beq_iff_eq.mpr h.symm) c
      · exact Nat.succ_lt_succ (mem_take_idx h)
theorem se_fld {f : Str} {t : List (Nat × Nat)} (T : Fld S f t) (ha : SE S E ta ma) : SE S E (tFld S.K ta f) (mFld t ma) := fun F ι h H ρ σ Q rp rs o =>
  ha F ι h H ρ σ _ rp rs (o.seq fun F1 ι1 H1 h1 v x _ e1 rp1 z o1 => by
    cases z with
    | @obj a C dx fs xs q nF hnm hfs =>
      dsimp only at o1
      split at o1
      · rename_i i hi
        split at o1
        · rename_i y hy
          obtain ⟨c, na, ix, lt, _⟩ := T.ok _ _ hi
          obtain ⟨yv, e2, z2⟩ := hfs.at hy
          refine ⟨a, _, dx, fs, yv, rfl, q, c, na, ?_, Ok.now (rel := RV S.toSg) o1 rp1 z2⟩
          rw [lookup_idx (i := i) (by rw [hnm]; exact ix) (by have := congrArg List.length hnm; rw [List.length_map] at this; omega)]
          exact e2
        · exact o1.elim
      · exact o1.elim
    | @ref a n q0 =>
      dsimp only at o1
      split at o1
      · rename_i C k xs hx
        have g := rp1.at hx q0
        cases g with
        | @ins _ _ _ dx fs _ q hk hnm hfs =>
          split at o1
          · rename_i i hi
            split at o1
            · rename_i y hy
              obtain ⟨c, na, ix, lt, _⟩ := T.ok _ _ hi
              obtain ⟨yv, e2, z2⟩ := hfs.at hy
              refine ⟨a, _, dx, fs, yv, rfl, q, c, na, ?_, Ok.now (rel := RV S.toSg) o1 rp1 z2⟩
              have hl : fs.length = xs.length := by have := hfs.length; rw [List.length_map] at this; exact this.symm
              have hi2 : i < xs.length := (List.getElem?_eq_some_iff.mp hy).1
              rw [lookup_idx (i := i) (by rw [hnm, idxOf_take (by omega)]; exact ix) (by omega)]
              exact e2
            · exact o1.elim
          · exact o1.elim
      · exact o1.elim
    | _ => exact o1.elim)
/-- self.f = e while the instance is made -/
def mFldSet (t : List (Nat × Nat)) (ma mv : ME) : MS := fun ρ h => (mv ρ h).bind fun y h1 => (ma ρ h1).bind fun v h2 => match v with
  | .ref n => match h2[n]? with
    | some (.ins C k xs) => match t.lookup C with
      | some i => if i = xs.length then .ok (.nx, ρ) (h2.set n (.ins C k (xs ++ [y]))) else if i < xs.length then .ok (.nx, ρ) (h2.set n (.ins C k (xs.set i y))) else .bad
      | none => .bad
    | _ => .bad
  | _ => .bad
theorem putF_new {f : Str} {v : V} : ∀ {fs : List (Str × V)}, f ∉ fs.map (·.1) → putF f v fs = fs ++ [(f, v)]
  | [], _ => rfl
  | (g, x) :: r, h => by
    have h1 : g ≠ f := fun e => h (by rw [e]; simp)
    have h2 : f ∉ r.map (·.1) := fun e => h (by simp only [List.map_cons, List.mem_cons]; exact .inr e)
    show (if g = f then _ else _) = _
    rw [if_neg h1, putF_new h2]
    rfl
theorem putF_old {f : Str} {v : V} : ∀ {fs : List (Str × V)} {i : Nat}, (fs.map (·.1)).idxOf f = i → i < fs.length → (putF f v fs).map (·.1) = fs.map (·.1) ∧ (putF f v fs).map (·.2) = (fs.map (·.2)).set i v
  | [], _, _, h => by simp at h
  | (g, x) :: r, i, e, h => by
    simp only [List.map_cons, List.idxOf_cons] at e
    by_cases c : g = f
    · subst c
      simp only [beq_self_eq_true, cond_true] at e
      subst e
      show (if g = g then _ else _ : List (Str × V)).map _ = _ ∧ (if g = g then _ else _ : List (Str × V)).map _ = _
      rw [if_pos rfl]
      exact ⟨rfl, rfl⟩
    · rw [beq_eq_false_iff_ne.mpr c] at e
      simp only [cond_false] at e
      subst e
      obtain ⟨h1, h2⟩ := putF_old (f := f) (v := v) (fs := r) rfl (by simpa using h)
      show (if g = f then _ else _ : List (Str × V)).map _ = _ ∧ (if g = f then _ else _ : List (Str × V)).map _ = _
      rw [if_neg c]
      simp only [List.map_cons, h1, h2, List.set_cons_succ]
      exact ⟨trivial, trivial⟩
theorem ss_fld {f : Str} {t : List (Nat × Nat)} (T : Fld S f t) (ha : SE S E ta ma) (hv : SE S E tv mv) : SS S E (sFld S.K ta tv f) (mFldSet t ma mv) := fun F ι h H ρ σ D rp rs o =>
  hv F ι h H ρ σ _ rp rs (o.seq fun F1 ι1 H1 h1 y yv _ e1 rp1 zy o1 => ha F1 ι1 h1 H1 ρ σ _ rp1 (rs.ext rp e1) (o1.seq fun F2 ι2 H2 h2 v x _ e2 rp2 z o2 => by
    have rs2 := (rs.ext rp e1).ext rp1 e2
    have zy2 := zy.ext rp1 e2
    cases z with
    | @ref a n q0 =>
      dsimp only at o2
      split at o2
      · rename_i C k xs hx
        have g := rp2.at hx q0
        cases g with
        | @ins _ _ _ dx fs _ q hk hnm hfs =>
          split at o2
          · rename_i i hi
            obtain ⟨c, na, ix, lt, lt2⟩ := T.ok _ _ hi
            have hl : fs.length = xs.length := by have := hfs.length; rw [List.length_map] at this; exact this.symm
            have fw := (EX.write (S := S) (o := .ins (S.ct C) dx (putF f yv fs)) rp2 (List.mem_of_getElem? q0)).fwd rp2
            have hle : xs.length ≤ (S.nm C).length := by
              have := congrArg List.length hnm
              rw [List.length_map, List.length_take] at this
              omega
            refine ⟨a, _, dx, fs, rfl, q, c, na, by omega, ?_⟩
            split at o2
            · rename_i hi2
              subst hi2
              have hnot : f ∉ fs.map (·.1) := by
                rw [hnm]
                intro hm
                have := mem_take_idx hm
                omega
              refine (show DQ D (.nx σ) _ from Ok.now (rel := relF S) (v := (Fl.nx, ρ)) (x := FV.nx σ) (o2.shift (EX.write rp2 (List.mem_of_getElem? q0))) (rp2.write q0 (.ins upd_same hk ?_ ?_)) (rs2.ext rp2 (EX.write rp2 (List.mem_of_getElem? q0))))
              · rw [putF_new hnot, List.map_append, hnm, List.length_append]
                show _ ++ [f] = _
                rw [List.length_singleton, List.take_add_one]
                congr 1
                rw [← ix, List.getElem?_eq_getElem (by rw [ix]; exact lt)]
                simp
              · have e : (putF f yv fs).map (·.2) = fs.map (·.2) ++ [yv] := by
                  rw [putF_new hnot, List.map_append]
                  rfl
                rw [e]
                exact (hfs.fwd fw _ _).append (.cons (zy2.fwd fw _ _) .nil)
            · split at o2
              · rename_i _ hi2
                have pf := putF_old (f := f) (v := yv) (fs := fs) (i := i) (by rw [hnm, idxOf_take (by omega)]; exact ix) (by omega)
                refine (show DQ D (.nx σ) _ from Ok.now (rel := relF S) (v := (Fl.nx, ρ)) (x := FV.nx σ) (o2.shift (EX.write rp2 (List.mem_of_getElem? q0))) (rp2.write q0 (.ins upd_same hk ?_ ?_)) (rs2.ext rp2 (EX.write rp2 (List.mem_of_getElem? q0))))
                · rw [pf.1, hnm, List.length_set]
                · rw [pf.2]
                  exact RVs.set (zy2.fwd fw _ _) i (hfs.fwd fw _ _)
              · exact o2.elim
          · exact o2.elim
      · exact o2.elim
    | _ => exact o2.elim))
/-- a new instance: made alone, it stays -/
def mMake (C k n : Nat) (f : MF) (ma : MA) : ME := fun ρ h => (ma ρ h).bind fun vs h1 => if vs.length + 1 = n ∧ LV.pures vs = true then match f (.ref 0 :: vs) [.ins C k []] with
    | .ok .non h' => match LV.deep h' 100000 (.ref 0) with
      | some w => .ok w h1
      | none => .bad
    | _ => .bad
  else .bad
/-- .. that changes, among our objects -/
def mMakeS (C k n : Nat) (f : MF) (ma : MA) : ME := fun ρ h => (ma ρ h).bind fun vs h1 => if vs.length + 1 = n then match f (.ref h1.length :: vs) (h1 ++ [.ins C k []]) with
    | .ok .non h' => .ok (.ref h1.length) h'
    | _ => .bad
  else .bad
theorem two_new {F : Addr → Prop} {ι : List Addr} {H : Hp} {h : List LO} {C : Nat} {x dx : Addr} (rp : Rep S.toSg F ι h H) (hx : H x = none) (hdx : H dx = none) (hne : dx ≠ x) :
    EX S.toSg F ι H (fun a => F a ∨ a = x) (ι ++ [x]) (upd (upd H dx (.own x)) x (.ins (S.ct C) dx [])) ∧ Rep S.toSg (fun a => F a ∨ a = x) (ι ++ [x]) (h ++ [.ins C (S.nm C).length []]) (upd (upd H dx (.own x)) x (.ins (S.ct C) dx [])) := by
  have hx2 : upd H dx (.own x) x = none := by rw [upd_ne (Ne.symm hne)]; exact hx
  have r1 := rp.new (o := .own x) hdx
  exact ⟨(EX.new hdx).trans (EX.newM hx2), r1.newM hx2 (.ins upd_same rfl rfl .nil)⟩
theorem se_makeS {C k : Nat} (hk : k = (S.nm C).length) (ha : SA S E tA mA) : SE S E (tMake (S.ct C) (spM S n f) [] E' tA) (mMakeS C k n f mA) := fun F ι h H ρ σ Q rp rs o =>
  ha F ι h H ρ σ _ rp rs (o.seq fun F1 ι1 H1 h1 vs xs _ e1 rp1 z o1 x dx hx hdx hne => by
    subst hk
    rw [List.append_nil]
    split at o1
    · rename_i hn
      obtain ⟨ex, r2⟩ := two_new (C := C) rp1 hx hdx hne
      have q0 : (ι1 ++ [x])[h1.length]? = some x := by rw [← rp1.len, List.getElem?_append_right (Nat.le_refl _)]; simp
      refine ⟨by rw [List.length_cons, ← z.length]; exact hn, _, _, _, .ref h1.length :: vs, r2, .cons (.ref q0) (z.ext rp1 ex), ?_⟩
      split at o1
      · rename_i h' hf
        rw [hf]
        intro F' ι' H' y e2 r3 z3
        cases z3
        refine ⟨rfl, o1 F' ι' H' (.ref x) (ex.trans e2) r3 (.ref ?_)⟩
        obtain ⟨more, rfl, _⟩ := e2.grow
        rw [List.getElem?_append_left (List.getElem?_eq_some_iff.mp q0).1]
        exact q0
      · exact o1.elim
    · exact o1.elim)
theorem se_make {C k : Nat} (hk : k = (S.nm C).length) (ha : SA S E tA mA) : SE S E (tMake (S.ct C) (spM S n f) [] E' tA) (mMake C k n f mA) := fun F ι h H ρ σ Q rp rs o =>
  ha F ι h H ρ σ _ rp rs (o.seq fun F1 ι1 H1 h1 vs xs _ e1 rp1 z o1 x dx hx hdx hne => by
    subst hk
    rw [List.append_nil]
    split at o1
    · rename_i hn
      obtain ⟨ex, r2⟩ := two_new (C := C) rp1.nil hx hdx hne
      have q0 : ([] ++ [x])[0]? = some x := rfl
      refine ⟨by rw [List.length_cons, ← z.length]; exact hn.1, _, _, _, .ref 0 :: vs, r2, .cons (.ref q0) ((RVs.pure [] vs xs hn.2 z).ext rp1.nil ex), ?_⟩
      split at o1
      · rename_i h' hf
        change Ok _ S E0 _ _ _ (f (.ref 0 :: vs) [.ins C (S.nm C).length []]) _
        rw [hf]
        split at o1
        · rename_i w hw
          intro F' ι' H' y e2 r3 z3
          cases z3
          have e3 := ex.trans e2
          obtain ⟨ex4, rp4, nf⟩ := iso_back rp1 e3
          refine ⟨rfl, o1 F1 ι1 H' (.ref x) ex4 rp4 (RV.deep r3 nf e3.more _ _ _ _ hw (.ref ?_))⟩
          obtain ⟨more, rfl, _⟩ := e2.grow
          rw [List.getElem?_append_left (by simp)]
          exact q0
        · exact o1.elim
      · exact o1.elim
    · exact o1.elim)
end
end Rm
namespace Rm
open PySem PySem.Spec PyProof.Rows L2 RZ PpSet
/-! ### keys of any depth, by the heap -/
mutual
inductive Nk (K : PySem.W.Frag) (H : Hp) : V → NestedKey → Prop
  | non : Nk K H .non .none
  | bl (b : Bool) : Nk K H (.bl b) (.num (if b = true then 1 else 0))
  | int (i : Int) : Nk K H (.int i) (.num i)
  | str (x : Str) : Nk K H (.str x) (.text x)
  | tup {a : Addr} {xs : List V} {ks : List NestedKey} : SqT K H a xs → NkAll K H xs ks → Nk K H (.ref a) (.tup ks)
inductive NkAll (K : PySem.W.Frag) (H : Hp) : List V → List NestedKey → Prop
  | nil : NkAll K H [] []
  | cons {v : V} {vs : List V} {k : NestedKey} {ks : List NestedKey} : Nk K H v k → NkAll K H vs ks → NkAll K H (v :: vs) (k :: ks)
end
section
variable {X : Cx} {pins : List (Addr × Obj)} {σ : L2.St} {H : Hp} {s : Shared}
mutual
theorem Nk.is (I : Inv X pins σ H s) : ∀ (k : NestedKey) (v : V) (u : Value), Nk X.K H v k → RelV v u → NestedIs s.heap k u
  | .none, _, _, h, r => by
    cases h
    cases r
    exact .none
  | .num _, _, _, h, r => by
    cases h with
    | bl b => cases r; exact .bool rfl
    | int =>
      obtain ⟨t, rfl⟩ := r
      exact .int _ _
  | .text _, _, _, h, r => by
    cases h
    obtain ⟨t, rfl⟩ := r
    exact .text _ _
  | .tup ks, _, _, h, r => by
    cases h with
    | tup hs ha =>
      cases r
      obtain ⟨its, rv, ⟨o, ho, hc, n, hd⟩, _⟩ := I.tuple hs
      exact .tup ho hc hd (NkAll.is I ks _ _ ha rv)
theorem NkAll.is (I : Inv X pins σ H s) : ∀ (ks : List NestedKey) (vs : List V) (us : List Value), NkAll X.K H vs ks → Vals vs us → NestedAll s.heap ks us
  | [], _, _, h, r => by
    cases h
    cases r
    exact .nil
  | k :: ks, _, _, h, r => by
    cases h with
    | cons h1 h2 =>
      cases r with
      | cons r1 r2 => exact .cons (Nk.is I k _ _ h1 r1) (NkAll.is I ks _ _ h2 r2)
end
end
section
variable {S : Sg} {F : Addr → Prop} {ι : List Addr} {H : Hp}
mutual
theorem nk_of : ∀ (x : LV) (v : V) (k : NestedKey), RV S F ι H x v → x.key = some k → Nk S.K H v k
  | .non, _, _, z, e => by cases z; cases e; exact .non
  | .bl b, _, _, z, e => by cases z; cases e; exact .bl b
  | .int i, _, _, z, e => by cases z; cases e; exact .int i
  | .str x, _, _, z, e => by cases z; cases e; exact .str _
  | .tup xs, _, _, z, e => by
    simp only [LV.key, Option.map_eq_some_iff] at e
    obtain ⟨ks, e1, rfl⟩ := e
    cases z with | tup a b => exact .tup a (nks_of xs _ ks b e1)
  | .ref _, _, _, _, e => by simp [LV.key] at e
  | .vl _, _, _, _, e => by simp [LV.key] at e
  | .fz _, _, _, _, e => by simp [LV.key] at e
  | .vd _ _, _, _, _, e => by simp [LV.key] at e
  | .sd _ _, _, _, _, e => by simp [LV.key] at e
  | .obj _ _, _, _, _, e => by simp [LV.key] at e
theorem nks_of : ∀ (x : List LV) (v : List V) (k : List NestedKey), RVs S F ι H x v → LV.keys x = some k → NkAll S.K H v k
  | [], _, _, z, e => by cases z; cases e; exact .nil
  | x :: xs, _, _, z, e => by
    simp only [LV.keys] at e
    split at e
    · rename_i k1 ks1 h1 h2
      cases e
      cases z with | cons a b => exact .cons (nk_of x _ k1 a h1) (nks_of xs _ ks1 b h2)
    · cases e
end
end
/-! ### a dict by its object -/
def entL (kas : List (NestedKey × Addr)) (us : List Value) : List (NestedKey × Addr × Value) := List.zipWith (fun (x : NestedKey × Addr) (u : Value) => (x.1, x.2, u)) kas us
theorem entL_keys : ∀ {kas : List (NestedKey × Addr)} {us : List Value}, kas.length = us.length → (entL kas us).map (·.1) = kas.map (·.1)
  | [], [], _ => rfl
  | _ :: _, [], h => by simp at h
  | [], _ :: _, h => by simp at h
  | k :: kas, u :: us, h => by
    show k.1 :: (entL kas us).map (·.1) = k.1 :: kas.map (·.1)
    rw [entL_keys (by simpa using h)]
theorem entL_mem : ∀ {kas : List (NestedKey × Addr)} {us : List Value} {x : NestedKey × Addr × Value}, x ∈ entL kas us → (x.1, x.2.1) ∈ kas
  | [], _, _, h => by simp [entL] at h
  | _ :: _, [], _, h => by simp [entL] at h
  | k :: kas, u :: us, x, h => by
    rcases List.mem_cons.mp (show x ∈ (k.1, k.2, u) :: entL kas us from h) with e | e
    · rw [e]; exact List.mem_cons_self
    · exact List.mem_cons_of_mem _ (entL_mem e)
theorem entL_len : ∀ {kas : List (NestedKey × Addr)} {us : List Value}, kas.length = us.length → (entL kas us).length = kas.length := fun h => by
  unfold entL
  rw [List.length_zipWith, h, Nat.min_self]
theorem entL_app {kas kbs : List (NestedKey × Addr)} {us ws : List Value} (h : kas.length = us.length) : entL (kas ++ kbs) (us ++ ws) = entL kas us ++ entL kbs ws := List.zipWith_append h
theorem entL_get : ∀ {kas : List (NestedKey × Addr)} {us : List Value} {i : Nat}, (entL kas us)[i]? = match kas[i]?, us[i]? with
    | some k, some u => some (k.1, k.2, u)
    | _, _ => none
  | [], us, i => by simp [entL]
  | k :: kas, [], i => by
    show ([] : List (NestedKey × Addr × Value))[i]? = _
    cases h : (k :: kas)[i]? <;> simp
  | k :: kas, u :: us, 0 => rfl
  | k :: kas, u :: us, i + 1 => by
    show (entL kas us)[i]? = _
    rw [entL_get]
    rfl
/-- at d stands the dict of these keys and values; the keys stand as they should -/
structure DN (P : Program) (w : World) (K : PySem.W.Frag) (H : Hp) (d : Addr) (o : Obj) (kas : List (NestedKey × Addr)) (xs : List V) : Prop where
  here : H d = some (.ext (dvF P w d o kas xs))
  low : (d == sysModules) = false
  ok : keysOk kas xs
  keys : ∀ k ∈ kas, Nk K H (.ref k.2) k.1
theorem dvF_obj {P : Program} {w : World} {H : Hp} {h : Heap} {d : Addr} {o : Obj} {kas : List (NestedKey × Addr)} {xs : List V} (f : dvF P w d o kas xs h) : ObjOk P w H h d (.ext (dvF P w d o kas xs)) :=
  ⟨f, ⟨o, f.1⟩, fun h1 h2 q k => ⟨k o q.1, q.2⟩⟩
section
variable {X : Cx} {pins : List (Addr × Obj)} {σ : L2.St} {H : Hp} {s : Shared} {d : Addr} {o : Obj} {kas : List (NestedKey × Addr)} {xs : List V}
theorem key_is {q : Addr} {k : NestedKey} (I : Inv X pins σ H s) (h : Nk X.K H (.ref q) k) (hd : k.depth ≤ 8) : (tkN X.prog X.w).is s.heap k q := ⟨Nk.is I k _ _ h rfl, hd⟩
theorem DN.dict (I : Inv X pins σ H s) (D : DN X.prog X.w X.K H d o kas xs) : s.heap.get? d = some o ∧ ∃ es ep us, o.ExactDict ∧ o.data = .dict es ep ∧ Vals xs us ∧ kas.length = us.length ∧ es.toList = (entL kas us).map (entryOfKey (tkN X.prog X.w)) ∧ s.heap.DictOfH (tkN X.prog X.w) d (entL kas us) := by
  obtain ⟨⟨ho, es, ep, us, hx, hdt, hv, he⟩, _⟩ := (show ObjOk X.prog X.w H s.heap d (.ext (dvF X.prog X.w d o kas xs)) from I.hok d _ D.here)
  have hl : kas.length = us.length := by rw [D.ok.2.1, hv.length]
  refine ⟨ho, es, ep, us, hx, hdt, hv, hl, he, o, es, ep, ho, hx, hdt, he, fun x hm => ?_, by rw [entL_keys hl]; exact D.ok.1⟩
  have hm2 := entL_mem hm
  exact key_is I (D.keys _ hm2) (D.ok.2.2.2 _ hm2)
theorem at_entL {us : List Value} (hl : kas.length = us.length) (k : NestedKey) : (atKey (entL kas us) k).isSome = decide (k ∈ kas.map (·.1)) := by
  unfold atKey
  rw [Option.isSome_map, Bool.eq_iff_iff, List.find?_isSome, decide_eq_true_eq]
  constructor
  · rintro ⟨x, hx, hk⟩
    rw [← entL_keys hl]
    exact List.mem_map.mpr ⟨x, hx, of_decide_eq_true hk⟩
  · intro h
    rw [← entL_keys hl] at h
    obtain ⟨x, hx, hk⟩ := List.mem_map.mp h
    exact ⟨x, hx, decide_eq_true hk⟩
theorem room_inN {X : Cx} (hu : X.A.units + 9 < cLine) : (tkN X.prog X.w).room X.A.in1 := by
  show X.A.units + 1 + 8 < cLine
  omega
def rInN (P : Program) (w : World) (K : PySem.W.Frag) (neg : Bool) : R2 := fun x y H Q => ∃ (d q : Addr) (o : Obj) (kas : List (NestedKey × Addr)) (xs : List V) (k : NestedKey), x = .ref q ∧ y = .ref d ∧ DN P w K H d o kas xs ∧ Nk K H (.ref q) k ∧ k.depth ≤ 8 ∧
  Q (.bl (if neg then !decide (k ∈ kas.map (·.1)) else decide (k ∈ kas.map (·.1)))) H
theorem op_niN (hu : X.A.units + 9 < cLine) : OpR X (compareOp .NotIn) (rInN X.prog X.w X.K true) := by
  rintro pins s σ H x y v u Q I rx ry ⟨d, q, o, kas, xs, k, rfl, rfl, D, hq, hd, hQ⟩
  cases rx
  cases ry
  obtain ⟨_, es, ep, us, _, _, _, hl, _, dd⟩ := D.dict I
  refine wpAny_notIn_heap (knd := tkN X.prog X.w) (room_inN hu) (key_is I hq hd) D.low dd ?_
  rw [at_entL hl]
  exact ⟨.bl _, H, I.tok _, rfl, hQ⟩
theorem op_inN (hu : X.A.units + 9 < cLine) : OpR X (compareOp .In) (rInN X.prog X.w X.K false) := by
  rintro pins s σ H x y v u Q I rx ry ⟨d, q, o, kas, xs, k, rfl, rfl, D, hq, hd, hQ⟩
  cases rx
  cases ry
  obtain ⟨_, es, ep, us, _, _, _, hl, _, dd⟩ := D.dict I
  refine wpAny_in_heap (knd := tkN X.prog X.w) (room_inN hu) (key_is I hq hd) D.low dd ?_
  rw [at_entL hl]
  exact ⟨.bl _, H, I.tok _, rfl, hQ⟩
/-- d[k] -/
def rIxN (P : Program) (w : World) (K : PySem.W.Frag) : R2 := fun x y H Q => ∃ (d q : Addr) (o : Obj) (kas : List (NestedKey × Addr)) (xs : List V) (k : NestedKey) (i : Nat) (v : V), x = .ref d ∧ y = .ref q ∧ DN P w K H d o kas xs ∧ Nk K H (.ref q) k ∧ k.depth ≤ 8 ∧
  (kas.map (·.1))[i]? = some k ∧ xs[i]? = some v ∧ Q v H
theorem nodup_find {α : Type} {f : α → NestedKey} {l : List α} (hn : (l.map f).Nodup) {i : Nat} {x : α} {k : NestedKey} (hx : l[i]? = some x) (hk : f x = k) : l.find? (fun y => decide (f y = k)) = some x := by
  induction l generalizing i with
  | nil => simp at hx
  | cons y l ih =>
    rw [List.map_cons, List.nodup_cons] at hn
    cases i with
    | zero =>
      simp at hx
      subst hx
      rw [List.find?_cons, decide_eq_true hk]
    | succ i =>
      have hx' : l[i]? = some x := by simpa using hx
      have hne : f y ≠ k := fun e => hn.1 (by rw [e, ← hk]; exact List.mem_map.mpr ⟨x, List.mem_of_getElem? hx', rfl⟩)
      rw [List.find?_cons, decide_eq_false hne]
      exact ih hn.2 hx'
theorem at_entI {us : List Value} (hl : kas.length = us.length) (hn : (kas.map (·.1)).Nodup) {i : Nat} {k : NestedKey} {q : Addr} {u : Value} (h1 : kas[i]? = some (k, q)) (h2 : us[i]? = some u) : atKey (entL kas us) k = some (q, u) := by
  unfold atKey
  rw [nodup_find (f := fun x => x.1) (i := i) (x := (k, q, u)) (by rw [entL_keys hl]; exact hn) (by rw [entL_get, h1, h2]) rfl]
  rfl
theorem ix_N (hu : X.A.units + 9 < cLine) : IxR X (rIxN X.prog X.w X.K) := by
  rintro ea eb pins s σ H x y v u Q I rx ry ⟨d, q, o, kas, xs, k, i, z, rfl, rfl, D, hq, hd, hk, hz, hQ⟩ hs
  cases rx
  cases ry
  obtain ⟨_, es, ep, us, _, _, hv, hl, _, dd⟩ := D.dict I
  obtain ⟨⟨k2, q2⟩, hkq, e2⟩ : ∃ p, kas[i]? = some p ∧ p.1 = k := by
    rw [List.getElem?_map] at hk
    cases e : kas[i]? with
    | none => rw [e] at hk; cases hk
    | some p => rw [e] at hk; exact ⟨p, rfl, Option.some.inj hk⟩
  obtain rfl : k2 = k := e2
  obtain ⟨uz, hu2, ru⟩ := hv.get hz
  refine tail_any dd.typeIs slot_dict_getitem.lookup (wpAny_getItem_heap (knd := tkN X.prog X.w) (room_inN hu) (key_is I hq hd) dd (at_entI hl D.ok.1 hkq hu2) ?_) hs
  exact ⟨z, H, I.tok _, ru, hQ⟩
/-- d[k] = v -/
def rSetN (P : Program) (w : World) (K : PySem.W.Frag) : TSet := fun y i v H Q => ∃ (d q : Addr) (o : Obj) (kas : List (NestedKey × Addr)) (xs : List V) (k : NestedKey), y = .ref d ∧ i = .ref q ∧ DN P w K H d o kas xs ∧ Nk K H (.ref q) k ∧ k.depth ≤ 8 ∧ kas.length < 60000 ∧
  ((k ∉ kas.map (·.1) ∧ ∀ o', Q (upd H d (.ext (dvF P w d o' (kas ++ [(k, q)]) (xs ++ [v]))))) ∨ ∃ j : Nat, (kas.map (·.1))[j]? = some k ∧ ∀ o', Q (upd H d (.ext (dvF P w d o' kas (xs.set j v)))))
theorem putAt_ent : ∀ {kas : List (NestedKey × Addr)} {us : List Value} {j : Nat} {k : NestedKey} {u : Value}, (kas.map (·.1)).Nodup → kas.length = us.length → (kas.map (·.1))[j]? = some k → (entL kas us).map (putAt k u) = entL kas (us.set j u)
  | [], _, j, k, u, _, _, h => by simp at h
  | _ :: _, [], _, _, _, _, h, _ => by simp at h
  | a :: kas, b :: us, 0, k, u, hn, hl, h => by
    rw [List.map_cons, List.nodup_cons] at hn
    have e : a.1 = k := by simpa using h
    subst e
    show putAt a.1 u (a.1, a.2, b) :: (entL kas us).map (putAt a.1 u) = (a.1, a.2, u) :: entL kas us
    have e1 : (entL kas us).map (putAt a.1 u) = entL kas us := by
      conv => rhs; rw [← List.map_id (entL kas us)]
      refine List.map_congr_left fun x hx => ?_
      have hne : x.1 ≠ a.1 := fun e => hn.1 (by rw [← e]; exact List.mem_map.mpr ⟨_, entL_mem hx, rfl⟩)
      unfold putAt
      rw [if_neg hne]
      rfl
    rw [e1]
    unfold putAt
    rw [if_pos rfl]
  | a :: kas, b :: us, j + 1, k, u, hn, hl, h => by
    rw [List.map_cons, List.nodup_cons] at hn
    have h' : (kas.map (·.1))[j]? = some k := by simpa using h
    have hne : a.1 ≠ k := fun e => hn.1 (by rw [e]; exact List.mem_of_getElem? h')
    show putAt k u (a.1, a.2, b) :: (entL kas us).map (putAt k u) = (a.1, a.2, b) :: entL kas (us.set j u)
    rw [putAt_ent hn.2 (by simpa using hl) h']
    unfold putAt
    rw [if_neg hne]
theorem set_core {q : Addr} {k : NestedKey} {v : V} {u : Value} {us : List Value} {Q : Hp → Prop} (I : Inv X pins σ H s) (D : DN X.prog X.w X.K H d o kas xs) (hv : Vals xs us) (hl : kas.length = us.length) (rv : RelV v u)
    (hQ : (k ∉ kas.map (·.1) ∧ ∀ o', Q (upd H d (.ext (dvF X.prog X.w d o' (kas ++ [(k, q)]) (xs ++ [v]))))) ∨ ∃ j : Nat, (kas.map (·.1))[j]? = some k ∧ ∀ o', Q (upd H d (.ext (dvF X.prog X.w d o' kas (xs.set j v)))))
    {h' : Heap} {tk : Nat} (hd' : h'.DictOfH (tkN X.prog X.w) d (storedH (entL kas us) k q u)) (hs : Heap.SameBut d s.heap h') : ∃ H', Inv X pins σ H' { s with heap := h', toks := tk } ∧ Q H' := by
  have mu : Mut (H d) := by rw [D.here]; exact True.intro
  rcases hQ with ⟨hk, hQ⟩ | ⟨j, hj, hQ⟩
  · have hn : atKey (entL kas us) k = none := by
      have z := at_entL hl k
      rw [decide_eq_false hk] at z
      cases e : atKey (entL kas us) k with
      | none => rfl
      | some p => rw [e] at z; cases z
    rw [storedH_new hn] at hd'
    obtain ⟨o', es', ep', ho', hx', hdt', he', _, _⟩ := hd'
    have f : dvF X.prog X.w d o' (kas ++ [(k, q)]) (xs ++ [v]) h' := ⟨ho', es', ep', us ++ [u], hx', hdt', hv.append (.cons rv .nil), by rw [he']; exact congrArg _ (show entL kas us ++ [(k, q, u)] = entL (kas ++ [(k, q)]) (us ++ [u]) from (entL_app (kbs := [(k, q)]) (ws := [u]) hl).symm)⟩
    exact ⟨_, I.write (x := d) (e := d) mu (.inl rfl) (fun b w n z => (hs.2 b n).trans z) ⟨o', ho'⟩ (dvF_obj f), hQ o'⟩
  · obtain ⟨⟨k2, q2⟩, hkq, e2⟩ : ∃ p, kas[j]? = some p ∧ p.1 = k := by
      rw [List.getElem?_map] at hj
      cases e : kas[j]? with
      | none => rw [e] at hj; cases hj
      | some p => rw [e] at hj; exact ⟨p, rfl, Option.some.inj hj⟩
    obtain rfl : k2 = k := e2
    have hj2 : j < us.length := by rw [← hl]; exact (List.getElem?_eq_some_iff.mp hkq).1
    rw [storedH_old (at_entI hl D.ok.1 hkq (List.getElem?_eq_getElem hj2)), putAt_ent D.ok.1 hl hj] at hd'
    obtain ⟨o', es', ep', ho', hx', hdt', he', _, _⟩ := hd'
    have f : dvF X.prog X.w d o' kas (xs.set j v) h' := ⟨ho', es', ep', us.set j u, hx', hdt', Vals.set rv j hv, he'⟩
    exact ⟨_, I.write (x := d) (e := d) mu (.inl rfl) (fun b w n z => (hs.2 b n).trans z) ⟨o', ho'⟩ (dvF_obj f), hQ o'⟩
theorem set_N (hu : X.A.units + 9 < cLine) : PSet X (rSetN X.prog X.w X.K) := by
  rintro pins s σ H y i v ov iv u Q I ry ri rv ⟨d, q, o, kas, xs, k, rfl, rfl, D, hq, hd, hlen, hQ⟩
  cases ry
  cases ri
  obtain ⟨ho, es, ep, us, _, _, hv, hl, _, dd⟩ := D.dict I
  exact wpAny_setItem_heap (knd := tkN X.prog X.w) (room_inN hu) (key_is I hq hd) dd (fun h' hd' hs => set_core I D hv hl rv hQ hd' hs) (le_sz (by rw [entL_len hl]; omega))
theorem dictSet_N {Q : Unit → Shared → Prop} {E : Value → Shared → Prop} {y v : V} {iv u : Value} {Nx : Hp → Prop} (hu : X.A.units + 8 < cLine) (I : Inv X pins σ H s) (ri : RelV y iv) (rv : RelV v u) (h : rSetN X.prog X.w X.K (.ref d) y v H Nx)
    (hQ : ∀ s' H', Inv X pins σ H' s' → Nx H' → Q () s') : wpAny (model X.prog X.w) X.A (dictSet d iv u) Q E s := by
  obtain ⟨d, q, o, kas, xs, k, ed, rfl, D, hq, hd, hlen, hN⟩ := h
  cases ed
  cases ri
  obtain ⟨ho, es, ep, us, _, _, hv, hl, _, dd⟩ := D.dict I
  exact wpAny_dictSet_heap (knd := tkN X.prog X.w) (show X.A.units + 8 < cLine from hu) (key_is I hq hd) dd (fun h' hd' hs => by
    obtain ⟨H', I', n⟩ := set_core (tk := s.toks + (tkN X.prog X.w).draws k) I D hv hl rv hN hd' hs
    exact hQ _ H' I' n) (le_sz (by rw [entL_len hl]; omega))
/-- list(d) -/
def rListN (P : Program) (w : World) (K : PySem.W.Frag) : List V → Hp → VK → Prop := fun vs H Q => ∃ (d : Addr) (o : Obj) (kas : List (NestedKey × Addr)) (xs : List V), vs = [.ref d] ∧ DN P w K H d o kas xs ∧ ∀ p, H p = none → Q (.ref p) (upd H p (.lst (kas.map fun x => .ref x.2)))
theorem call_list_N (hc : X.calm = true) : CallR X (.type "list") (rListN X.prog X.w X.K) := by
  rintro pins s σ H vs us Q I r ⟨d, o, kas, xs, rfl, D, hQ⟩
  obtain ⟨u, rfl, rx⟩ := vals1 r
  cases rx
  obtain ⟨ho, es, ep, us, hx, hdt, _, hl, he, _⟩ := D.dict I
  have sz : es.size = kas.length := by rw [size_of_entries he, entL_len hl]
  have few := D.ok.2.2.1
  refine PySem.W.kdl_call (L2.kdl_raw D.low hx hdt) (I.ok.hd hc) ho (le_sz (by omega)) ?_
  intro h' tk acc c' kp e it
  have rv : Vals (kas.map fun x => V.ref x.2) acc.toList := by
    refine vals_of_idx _ _ (by rw [Array.length_toList, it.1, List.length_map]; exact sz) ?_
    intro j v hj
    obtain ⟨en, hen, hv⟩ := it.2 j v (by rw [← Array.getElem?_toList]; exact hj)
    have qe := entry_at he j
    rw [hen, entL_get] at qe
    cases hb : kas[j]? with
    | none => rw [hb] at qe; cases qe
    | some b =>
      cases hb2 : us[j]? with
      | none =>
        have h1 := List.getElem?_eq_none_iff.mp hb2
        have h2 := (List.getElem?_eq_some_iff.mp hb).1
        omega
      | some uu =>
        rw [hb, hb2] at qe
        have e2 := Option.some.inj qe
        refine ⟨.ref b.2, by rw [List.getElem?_map, hb]; rfl, ?_⟩
        rw [hv, e2]
        rfl
  refine ⟨.ref s.heap.objs.size, _, I.laid (t' := tk) (o := .lst (kas.map fun x => V.ref x.2)) kp (Nat.le_refl _) ⟨le_sz (by rw [List.length_map]; omega), acc.toList, c', rv, by rw [Array.toArray_toList]; exact e⟩, rfl, hQ _ (I.hok.fresh (Nat.le_refl _))⟩
/-- {} -/
def tNewN (P : Program) (w : World) : TE := fun _ H Q => ∀ p o, H p = none → (p == sysModules) = false → Q (.ref p) (upd H p (.ext (dvF P w p o [] [])))
theorem low_newN (I : Inv X pins σ H s) : (s.heap.objs.size == sysModules) = false := beq_eq_false_iff_ne.mpr (Ne.symm (Nat.ne_of_lt I.big))
theorem dvF_new {P : Program} {w : World} {h : Heap} : dvF P w h.objs.size { cls := .type "dict", data := .dict #[] } [] [] (h.push { cls := .type "dict", data := .dict #[] }) := ⟨Heap.get?_push_size _ rfl, #[], 0, [], ⟨rfl, rfl, rfl⟩, rfl, .nil, rfl⟩
theorem pe_newN {pos : Pos} : PE X (.Dict [] [] pos) (tNewN X.prog X.w) := by
  constructor
  intro pins s σ H Q I h
  exact wpAny_Dict_empty ⟨.ref s.heap.objs.size, _, I.laid (a := s.heap.objs.size) (t' := s.toks) (fun _ _ q => Heap.get?_push_of_some _ q) (Nat.le_refl _) (dvF_obj dvF_new), rfl, h _ _ (I.hok.fresh (Nat.le_refl _)) (low_newN I)⟩
/-! ### walking a dict -/
def ItkN (P : Program) (w : World) (d : Addr) (o : Obj) (kas : List (NestedKey × Addr)) : It :=
  ⟨fun i H => (∃ xs, H d = some (.ext (dvF P w d o kas xs)) ∧ kas.length = xs.length) ∧ i < kas.length, fun i H x H' => H' = H ∧ ∃ k, kas[i]? = some k ∧ x = .ref k.2, fun i H => (∃ xs, H d = some (.ext (dvF P w d o kas xs)) ∧ kas.length = xs.length) ∧ kas.length ≤ i⟩
theorem dv_at (I : Inv X pins σ H s) (hh : H d = some (.ext (dvF X.prog X.w d o kas xs))) (hl : kas.length = xs.length) : s.heap.get? d = some o ∧ ∃ es ep, o.data = .dict es ep ∧ es.size = kas.length ∧ ∀ (i : Nat) (k : NestedKey × Addr), kas[i]? = some k → ∃ en, es[i]? = some en ∧ en.key = .ref k.2 := by
  obtain ⟨⟨ho, es, ep, us, _, hdt, hv, he⟩, _⟩ := (show ObjOk X.prog X.w H s.heap d (.ext (dvF X.prog X.w d o kas xs)) from I.hok d _ hh)
  have he' : es.toList = (entL kas us).map (entryOfKey (tkN X.prog X.w)) := he
  have hl2 : kas.length = us.length := hl.trans hv.length
  refine ⟨ho, es, ep, hdt, by rw [size_of_entries he', entL_len hl2], fun i k hk => ?_⟩
  have hi : i < us.length := by rw [← hl2]; exact (List.getElem?_eq_some_iff.mp hk).1
  exact ⟨_, by rw [entry_at he' i, entL_get, hk, List.getElem?_eq_getElem hi]; rfl, rfl⟩
theorem turn_keysN {P : Program} {w : World} {K : PySem.W.Frag} {tg : Expr} {d : Addr} {o : Obj} {kas : List (NestedKey × Addr)} {es0 : Array DictEntry} {ep0 : Nat} (it : Addr) (h0 : o.data = .dict es0 ep0) :
    Turn P w K tg (ItkN P w d o kas) [it] it (fun i h => h.IsKeyIter it d i kas.length ep0) := by
  have only : ∀ b ∈ [it], b = it := fun b hb => List.mem_singleton.mp hb
  refine ⟨List.mem_singleton.mpr rfl, ?_, fun i h h' st k => st.at fun oi e => k it (List.mem_singleton.mpr rfl) oi e, ?_, ?_, ?_⟩
  · rintro i h ⟨oi, e, c, dd⟩ b hb
    rw [only b hb]
    refine ⟨oi, e, fun v z => ?_⟩
    rw [dd] at z
    cases z
  · rintro X rfl rfl rfl hc i pins s σ H E I hf st ⟨⟨xs, hH, hl⟩, hi⟩
    obtain ⟨p0, p1, p2, p3, p4, p5⟩ := hf it (List.mem_singleton.mpr rfl)
    obtain ⟨ho, es, ep, hdt, hsz, hen⟩ := dv_at I hH hl
    obtain ⟨e1, e2⟩ := dict_ep h0 hdt
    subst e1 e2
    obtain ⟨en, g1, g2⟩ := hen i _ (List.getElem?_eq_getElem hi)
    refine next_key_item st ho hdt hsz g1 fun h' st2 sb => ⟨en.key, rfl, ?_⟩
    obtain ⟨oi, q1, q2, q3⟩ := id st2
    have I2 : Inv X pins σ H { s with heap := h' } := I.turned (t' := s.toks) (fun b ob hb e => (sb.2 b hb).trans e) p0 p1 p3 p4 p5
    refine go_of (s := { s with heap := h' }) q1 q2 q3 (by decide) ⟨.ref kas[i].2, H, I2, ?_, ⟨rfl, _, List.getElem?_eq_getElem hi, rfl⟩, st2, fun b hb => (hf b hb).1⟩
    rw [g2]
    rfl
  · rintro X rfl rfl rfl hc i pins s σ H E I hf st ⟨⟨xs, hH, hl⟩, hi⟩
    obtain ⟨p0, p1, p2, p3, p4, p5⟩ := hf it (List.mem_singleton.mpr rfl)
    obtain ⟨ho, es, ep, hdt, hsz, hen⟩ := dv_at I hH hl
    obtain ⟨e1, e2⟩ := dict_ep h0 hdt
    subst e1 e2
    exact next_key_end (I.ok.hd hc) st ho hdt hsz hi fun h' eb => ⟨rfl, I.turned (t' := s.toks) eb p0 p1 p3 p4 p5⟩
  · exact fun A i s Q E st h => wpAny_pyIter_keyiter st h
def iKeysN (P : Program) (w : World) (td : TE) : TI := fun σ H R => td σ H fun x H1 => ∃ (d : Addr) (o : Obj) (kas : List (NestedKey × Addr)) (xs : List V), x = .ref d ∧ (d == sysModules) = false ∧ H1 d = some (.ext (dvF P w d o kas xs)) ∧ kas.length = xs.length ∧ R (ItkN P w d o kas) H1
theorem pi_keysN {tg e : Expr} {td : TE} (he : PE X e td) : PI X tg e (iKeysN X.prog X.w td) := ⟨fun pins s σ H R I h => by
  refine thn (he.run pins s σ H _ I h) fun u s1 ⟨x, H1, I1, rx, d, o, kas, xs, ex, low, hH, hl, q⟩ => ?_
  subst ex
  obtain rfl : u = Value.ref d := rx
  obtain ⟨⟨ho, es, ep, us, hx, hdt, _, _⟩, _⟩ := (show ObjOk X.prog X.w H1 s1.heap d (.ext (dvF X.prog X.w d o kas xs)) from I1.hok d _ hH)
  obtain ⟨_, es', ep', hdt', hsz, _⟩ := dv_at I1 hH hl
  obtain ⟨e1, e2⟩ := dict_ep hdt hdt'
  subst e1 e2
  refine iter_keys low ho hx hdt (pi_one (tk := s1.toks) I1 _ (turn_keysN _ hdt) ⟨_, Heap.get?_push_size _ rfl, rfl, ?_⟩ q)
  rw [hsz] <;> rfl⟩
end
end Rm
namespace Rm
open PySem PySem.Spec PyProof.Rows L2 RZ PpSet
section
variable {X : Cx}
/-- {k: v for ..} with tuples as keys -/
def tDcN (P : Program) (w : World) (K : PySem.W.Frag) (wi : TI) (g : TG) (tt : TT) (tk tv : TE) (vs : List Nat) : TE := fun σ H Q => wi σ H fun J H1 => ∀ D o, H1 D = none → (D == sysModules) = false →
  ∃ W : Nat → Nat → Hp → Prop, (∃ m, W 0 m (upd H1 D (.ext (dvF P w D o [] [])))) ∧ ∀ i m H, W i m H → (J.stop i H ∧ Q (.ref D) H) ∨ (J.go i H ∧ ∃ Nx : Hp → Prop, (∀ H', Nx H' → ∃ m', m' < m ∧ W (i + 1) m' H') ∧
    ∀ x H', J.yld i H x H' → g x (wipe σ vs) H' fun σ2 H2 => wipe σ2 vs = wipe σ vs ∧ tt σ2 H2 fun b H3 => if b = true then tk σ2 H3 fun y H4 => tv σ2 H4 fun z H5 => rSetN P w K (.ref D) y z H5 Nx else Nx H3)
theorem dcN_core {kx vx tg iter : Expr} {ifs : List Expr} {scope : Scope} {own : List (Str × Nat)} {pos pos' : Pos} {wi : TI} {g : TG} {tt : TT} {tk tv : TE} {use : Option (Value → Sem Unit)} {Qf : Value → Shared → Prop} {pins : List (Addr × Obj)} {s : Shared} {σ : L2.St} {H : Hp} {Q : VK} (hu : X.A.units + 9 < cLine) (calm : X.calm = true) (nd : X.N.Nodup) (I : Inv X pins σ H s) (src : PI X tg iter wi) (blk : BlkOk X.N X.env.scope scope own)
    (tgt : ∀ s H C cl fp, PG (X.blk s H scope (compEnvC scope cl C X.env) fp) tg g) (tst : ∀ s H C cl fp, PTs (X.blk s H scope (compEnvC scope cl C X.env) fp) ifs tt)
    (key : ∀ s H C cl fp, PE (X.blk s H scope (compEnvC scope cl C X.env) fp) kx tk) (val : ∀ s H C cl fp, PE (X.blk s H scope (compEnvC scope cl C X.env) fp) vx tv) (plain : ∀ x, foldedSetIterable iter X.env x = pure x)
    (h : tDcN X.prog X.w X.K wi g tt tk tv (own.map (·.2)) σ H Q)
    (behind : ∀ D C s' m H', Inv X pins σ H' s' → Q (.ref D) H' → s'.heap.Ns C m → FpOk X pins H' C → compPost (model X.prog X.w) X.A X.xe use Qf (.ref D) C (.ok .next) s') :
    wpAny (model X.prog X.w) X.A (comprehension (.DictComp kx vx [⟨tg, iter, ifs, 0⟩] scope pos) scope X.env pos' newDict false (eval iter X.env) use) Qf X.xe s := by
  have frees : ∀ y ∈ scope.names, y.2 = .free → ∃ c, X.env.cells.lookup y.1 = some c := fun y hy e => (blk.free y hy e).elim (fun k => I.ok.has _ (.inl k)) fun k => I.ok.has _ (.inr k)
  refine wpAny_comprehension_free (use := use) rfl plain (closure_ok frees) blk.kind (fun y hy e => (blk.uniq y hy).trans (congrArg some e)) (thn (src.run pins s σ H _ I h) fun xv sa ha => thn ha fun itv sb hb => ?_)
  obtain ⟨it, fp, tn, J, Hb, rfl, Ib, T, stb, fpb, q⟩ := hb
  refine wpAny_newObj_type (newEnv_comp ?_)
  obtain ⟨W, ⟨m0, w0⟩, turn⟩ := q sb.heap.objs.size { cls := .type "dict", data := .dict #[] } (Ib.hok.fresh (Nat.le_refl _)) (low_newN Ib)
  -- the dict is there
  have Ic : Inv X pins σ _ { sb with heap := sb.heap.push { cls := .type "dict", data := .dict #[] } } := Ib.laid (a := sb.heap.objs.size) (t' := sb.toks) (fun _ _ e => Heap.get?_push_of_some _ e) (Nat.le_refl _) (dvF_obj dvF_new)
  have small : ∀ b ∈ fp, b < sb.heap.objs.size := fun b hb => let ⟨_, e, _⟩ := T.obj _ _ stb b hb; Heap.lt_size e
  have fpc : ∀ b ∈ fp, FpOk X pins (upd Hb sb.heap.objs.size (.ext (dvF X.prog X.w sb.heap.objs.size { cls := .type "dict", data := .dict #[] } [] []))) b ∧ b < (sb.heap.push { cls := .type "dict", data := .dict #[] }).objs.size := fun b hb =>
    ⟨⟨by rw [upd_ne (Nat.ne_of_lt (small b hb))]; exact (fpb b hb).1, (fpb b hb).2⟩, by rw [Heap.size_push]; exact Nat.lt_succ_of_lt (small b hb)⟩
  have stc : tn 0 (sb.heap.push { cls := .type "dict", data := .dict #[] }) := T.keep _ _ _ stb fun b _ o e => Heap.get?_push_of_some _ e
  generalize sb.heap.objs.size = D at *
  generalize upd Hb D (.ext (dvF X.prog X.w D { cls := .type "dict", data := .dict #[] } [] [])) = Hc at *
  generalize hsc : ({ sb with heap := sb.heap.push { cls := .type "dict", data := .dict #[] } } : Shared) = sc at *
  have hsc2 : sb.heap.push { cls := .type "dict", data := .dict #[] } = sc.heap := by rw [← hsc]
  rw [hsc2] at fpc stc
  have Id := block_start Ic blk nd fpc
  generalize hce : compEnvC scope (cellsFrom (sc.heap.objs.size + 1) scope.names (cloFrom X.env.cells scope.names [])) sc.heap.objs.size X.env = ce at Id
  have loc : ce.locals = sc.heap.objs.size := by rw [← hce]; rfl
  change codeAny _ _ (.compStart _ _ _ _ (compEnvC scope (cellsFrom (sc.heap.objs.size + 1) scope.names (cloFrom X.env.cells scope.names [])) sc.heap.objs.size X.env)) (compPost _ _ _ use Qf (.ref D) sc.heap.objs.size) _
  rw [hce]
  have pg := tgt sc Hc sc.heap.objs.size (cellsFrom (sc.heap.objs.size + 1) scope.names (cloFrom X.env.cells scope.names [])) fp
  have pt := tst sc Hc sc.heap.objs.size (cellsFrom (sc.heap.objs.size + 1) scope.names (cloFrom X.env.cells scope.names [])) fp
  have pk := key sc Hc sc.heap.objs.size (cellsFrom (sc.heap.objs.size + 1) scope.names (cloFrom X.env.cells scope.names [])) fp
  have pv := val sc Hc sc.heap.objs.size (cellsFrom (sc.heap.objs.size + 1) scope.names (cloFrom X.env.cells scope.names [])) fp
  rw [hce] at pg pt pk pv
  have ready : ∀ {σ' : L2.St} {H' : Hp} {s' : Shared}, Inv (X.blk sc Hc scope ce fp) [] σ' H' s' → (∀ b ∈ fp, H' b = none) → ∀ b ∈ fp, FpOk (X.blk sc Hc scope ce fp) [] H' b := fun J' n b hb =>
    ⟨n b hb, (J'.ok.exf b hb).1, J'.ok.exfs b hb, .inl hb, fun x c e => (J'.ok.exf b hb).2 x c e, fun p hp => nomatch hp⟩
  have std : tn 0 (pushCells (sc.heap.push { cls := .type "dict", data := .dict #[] }) scope.names) := T.keep _ _ _ stc fun b _ o e => pushCells_keeps _ _ _ _ (Heap.get?_push_of_some _ e)
  refine codeAny_compStart_dict (env := ce) ?loop (T.self X.A 0 _ _ _ std ?loop)
  refine compLoop_anyD (fun n s' => ∃ i H', Inv (X.blk sc Hc scope ce fp) [] (wipe σ (own.map (·.2))) H' s' ∧ tn i s'.heap ∧ (∀ b ∈ fp, H' b = none) ∧ W i n H') ?_ m0 ⟨0, Hc, Id, std, fun b hb => (fpc b hb).1.1, w0⟩
  rintro n se ⟨i, He, Ie, ste, ne, we⟩
  rcases turn i n He we with ⟨stop, fin⟩ | ⟨go, Nx, less, step⟩
  · refine thnF (T.done (X.blk sc Hc scope ce fp) rfl rfl rfl calm i [] se _ He (fun _ _ => False) Ie (ready Ie ne) ste stop) ?_
    rintro r sf ⟨rfl, If⟩
    have Ig : Inv X pins σ He sf := Ic.call' (ch := fp) If.os If.base If.hok If.bare fun b hb => ⟨(fpc b hb).1.2.2.2.1, (fpc b hb).1.2.1, (fpc b hb).1.2.2.2.2.1, (fpc b hb).1.2.2.2.2.2⟩
    have none' : He sc.heap.objs.size = none := by rw [← loc]; exact If.free
    obtain ⟨m, hn, _⟩ := If.loc
    have hn2 : sf.heap.Ns sc.heap.objs.size m := by rw [← loc]; exact hn
    exact behind D _ sf m He Ig fin hn2 (Ic.fpOk (b := sc.heap.objs.size) (Nat.le_refl _) none')
  · refine thnF (T.item (X.blk sc Hc scope ce fp) rfl rfl rfl calm i [] se _ He (fun _ _ => False) Ie (ready Ie ne) ste go) ?_
    rintro r sf ⟨u, rfl, hf⟩
    refine thnF hf fun _ sg ⟨x, Hg, Ig, rg, yg, stg, ng⟩ => ?_
    have Ig2 := Ig.pinned (ready Ig ng) (T.obj _ _ stg)
    refine thnF (pg.run _ sg _ Hg x u _ Ig2 rg (step x Hg yg)) fun _ sh ⟨σh, Hh, Ih, wh, qh⟩ => ?_
    have next : ∀ {s' : Shared} {H' : Hp}, Inv (X.blk sc Hc scope ce fp) ([] ++ pinsAt fp sg.heap) σh H' s' → Nx H' → ∃ m, m < n ∧ ∃ i H', Inv (X.blk sc Hc scope ce fp) [] (wipe σ (own.map (·.2))) H' s' ∧ tn i s'.heap ∧ (∀ b ∈ fp, H' b = none) ∧ W i m H' := fun {s' H'} J' nx => by
      obtain ⟨m', hm, w'⟩ := less H' nx
      have pinned : ∀ b ∈ fp, ∀ o, sg.heap.get? b = some o → s'.heap.get? b = some o ∧ H' b = none := fun b hb o e => by
        have z := J'.pin (b, o) (List.mem_append_right _ (List.mem_append_right _ (mem_pinsAt hb e)))
        exact ⟨z.1, z.2.1⟩
      have hl : (wipe σ (own.map (·.2))).length = σh.length := (congrArg List.length wh).symm.trans (wipe_length σh _)
      refine ⟨m', hm, i + 1, H', (J'.unpinned (pins := [])).weak hl (fun j v e => ?_), T.keep _ _ _ stg fun b hb o e => (pinned b hb o e).1, fun b hb => ?_, w'⟩
      · rw [← wh] at e
        exact (wipe_some e).1
      · obtain ⟨o, e, _⟩ := T.obj _ _ stg b hb
        exact (pinned b hb o e).2
    refine thnF (pt.run _ sh σh Hh _ Ih qh) fun b si ⟨Hi, Ii, qi⟩ => ?_
    cases b with
    | false => exact next Ii qi
    | true =>
      refine thnF (pk.run _ si σh Hi _ Ii qi) fun ku sj ⟨kv, Hj, Ij, rj, qj⟩ => ?_
      refine thnF (pv.run _ sj σh Hj _ Ij qj) fun vu sk ⟨vv, Hk, Ik, rk, qk⟩ => ?_
      exact dictSet_N (X := X.blk sc Hc scope ce fp) (show X.A.units + 8 < cLine by omega) Ik rj rk qk fun sl Hl Il nl => next Il nl
theorem pe_dcN {kx vx tg iter : Expr} {ifs : List Expr} {scope : Scope} {own : List (Str × Nat)} {pos : Pos} {wi : TI} {g : TG} {tt : TT} {tk tv : TE} (hu : X.A.units + 9 < cLine) (calm : X.calm = true) (nd : X.N.Nodup) (src : PI X tg iter wi) (blk : BlkOk X.N X.env.scope scope own)
    (tgt : ∀ s H C cl fp, PG (X.blk s H scope (compEnvC scope cl C X.env) fp) tg g) (tst : ∀ s H C cl fp, PTs (X.blk s H scope (compEnvC scope cl C X.env) fp) ifs tt)
    (key : ∀ s H C cl fp, PE (X.blk s H scope (compEnvC scope cl C X.env) fp) kx tk) (val : ∀ s H C cl fp, PE (X.blk s H scope (compEnvC scope cl C X.env) fp) vx tv) (plain : ∀ x, foldedSetIterable iter X.env x = pure x := by intro _; rfl) :
    PE X (.DictComp kx vx [⟨tg, iter, ifs, 0⟩] scope pos) (tDcN X.prog X.w X.K wi g tt tk tv (own.map (·.2))) := ⟨fun pins s σ H Q I h => by
  rw [arm_eval_DictComp]
  refine dcN_core hu calm nd I src blk tgt tst key val plain h fun D C s' m H' I' q hn f => ⟨m, hn, fun h'' but => ?_⟩
  obtain ⟨f0, f1, f2, f3, f4, f5⟩ := f
  exact ⟨.ref D, H', I'.turned (t' := s'.toks) (fun b o hb e => (but.2 b hb).trans e) f0 f1 f3 f4 f5, rfl, q⟩⟩
/-- name = {k: v for ..} -/
theorem ps_setDcN {i : Nat} {y : Str} {py spos : Pos} {kx vx tg iter : Expr} {ifs : List Expr} {scope : Scope} {own : List (Str × Nat)} {pos : Pos} {wi : TI} {g : TG} {tt : TT} {tk tv : TE} (hu : X.A.units + 9 < cLine) (calm : X.calm = true) (nd : X.N.Nodup) (at_ : X.N[i]? = some y) (lo : X.env.scope.names.lookup y = some .local)
    (hsw : swapsWith (.DictComp kx vx [⟨tg, iter, ifs, 0⟩] scope pos) (some (.Name y py)) spos.line X.env = pure true) (src : PI X tg iter wi) (blk : BlkOk X.N X.env.scope scope own)
    (tgt : ∀ s H C cl fp, PG (X.blk s H scope (compEnvC scope cl C X.env) fp) tg g) (tst : ∀ s H C cl fp, PTs (X.blk s H scope (compEnvC scope cl C X.env) fp) ifs tt)
    (key : ∀ s H C cl fp, PE (X.blk s H scope (compEnvC scope cl C X.env) fp) kx tk) (val : ∀ s H C cl fp, PE (X.blk s H scope (compEnvC scope cl C X.env) fp) vx tv) (plain : ∀ x, foldedSetIterable iter X.env x = pure x := by intro _; rfl) :
    PS X (.Assign [.Name y py] (.DictComp kx vx [⟨tg, iter, ifs, 0⟩] scope pos) spos) (tAsg (tDcN X.prog X.w X.K wi g tt tk tv (own.map (·.2))) (gName i)) := ⟨fun pins s σ H D I h => by
  rw [exec_Assign_Name_used _ _ _ _ hsw]
  refine wpAny_bind (wpAny_standAt (wpAny_bind ?_))
  change wpAny _ X.A (do let _ ← comprehension (.DictComp kx vx [⟨tg, iter, ifs, 0⟩] scope pos) scope X.env (firstIterPos [⟨tg, iter, ifs, 0⟩] pos) newDict false (eval iter X.env) (some (assign (.Name y py) X.env))) _ _ s
  have h2 : tDcN X.prog X.w X.K wi g tt tk tv (own.map (·.2)) σ H (fun x H1 => D.nx (σ.set i (some x)) H1) := h
  refine wpAny_bind (thn (dcN_core (Qf := fun _ s' => SP X pins D .next s') hu calm nd I src blk tgt tst key val plain h2 fun L C s' m H' I' q hn f => ?_) fun _ s' hq => wpAny_pure (wpAny_pure hq))
  obtain ⟨f0, f1, f2, f3, f4, f5⟩ := f
  refine wpAny_assign_Name (store_ok2 (v := V.ref L) I' nd at_ (.inl lo) rfl (fun s2 I2 w => ?_) (.inr lo))
  obtain ⟨a, sb, ha⟩ := w
  have apartC : C ≠ a := by
    rcases ha with z | z
    · rw [z]; exact f1
    · exact fun e => f4 y a z e.symm
  exact ⟨m, hn.sameBut sb apartC, fun h3 sb3 => ⟨_, H', I2.turned (t' := s2.toks) (fun b o hb e => (sb3.2 b hb).trans e) f0 f1 f3 f4 f5, q⟩⟩⟩
theorem sw_trueD {kx vx : Expr} {gs : List Comprehension} {scope : Scope} {pos py : Pos} {y : Str} {l : Nat} {env : Env} (hk : env.scope.kind = .function) (hy : env.scope.names.lookup y = some .local) (hl : (py.line == pos.line) = true)
    (ha : (scope.names.any fun (n, k) => n == y && (k == .local || k == .cell)) = false) : swapsWith (.DictComp kx vx gs scope pos) (some (.Name y py)) l env = pure true := by
  have k1 : env.kindOf y = some .local := hy
  have k2 : env.blockKind = .function := by
    unfold Env.blockKind
    rw [hk]
    rfl
  unfold swapsWith
  simp only [k2, k1, ha, Expr.pos, hl]
  rfl
/-- {k: v}, one pair -/
def tDispN (P : Program) (w : World) (K : PySem.W.Frag) (tk tv : TE) : TE := fun σ H Q => ∀ p o, H p = none → (p == sysModules) = false → tk σ (upd H p (.ext (dvF P w p o [] []))) fun x H1 => tv σ H1 fun v H2 => ∃ (q : Addr) (k : NestedKey) (z : V), [(x, v)] = [(V.ref q, z)] ∧ H2 p = some (.ext (dvF P w p o [] [])) ∧ Nk K H2 (.ref q) k ∧ k.depth ≤ 8 ∧
  ∀ o', Q (.ref p) (upd H2 p (.ext (dvF P w p o' [(k, q)] [z])))
theorem pe_dispN {e f : Expr} {pos : Pos} {tk tv : TE} (hu : X.A.units + 9 < cLine) (he : PE X e tk) (hf : PE X f tv) : PE X (.Dict [some e] [f] pos) (tDispN X.prog X.w X.K tk tv) := by
  constructor
  intro pins s σ H Q I h
  have I1 := I.laid (a := s.heap.objs.size) (h' := s.heap.push { cls := .type "dict", data := .dict #[] }) (t' := s.toks) (fun _ _ q => Heap.get?_push_of_some _ q) (Nat.le_refl _) (dvF_obj (P := X.prog) (w := X.w) dvF_new)
  rw [arm_eval_Dict, zip_pairTrees [some e] [f] X.env pos rfl rfl, dictDisplay_pairs (pairTrees [some e] [f] X.env pos) (by intro z; cases z) (show (1 : Nat) < 17 from by decide)]
  refine wpAny_bind (wpAny_standAt (wpAny_bind (wpAny_subDictH (knd := tkN X.prog X.w) (Q := fun d s' => wpAny (model X.prog X.w) X.A (pure (Value.ref d)) (EP X pins σ Q) X.xe s') (show X.A.units + 8 < cLine from by omega) (show (1 : Nat) ≤ 15 from by decide) ?_)))
  have run := (pps_cons (pos := pos) he hf pps_nil).run pins _ σ _ (fun ps H2 => ∃ q k v, ps = [(.ref q, v)] ∧ H2 s.heap.objs.size = some (.ext (dvF X.prog X.w s.heap.objs.size { cls := .type "dict", data := .dict #[] } [] [])) ∧ Nk X.K H2 (.ref q) k ∧ k.depth ≤ 8 ∧
    ∀ o', Q (.ref s.heap.objs.size) (upd H2 s.heap.objs.size (.ext (dvF X.prog X.w s.heap.objs.size o' [(k, q)] [v])))) I1 ?_
  · refine thn run ?_
    rintro vs s2 ⟨ps, H2, I2, rel, q, k, v, rfl, g, hq, hd, hQ⟩
    cases rel with
    | cons r t =>
      cases t
      obtain ⟨r1, r2⟩ := r
      have D : DN X.prog X.w X.K H2 s.heap.objs.size { cls := .type "dict", data := .dict #[] } [] [] := ⟨g, low_newN I, ⟨List.nodup_nil, rfl, Nat.zero_le _, fun _ hx => nomatch hx⟩, fun x hx => nomatch hx⟩
      obtain ⟨_, es, ep, us, _, _, hv, _, _, dd⟩ := D.dict I2
      cases hv
      refine ⟨[(k, q, _)], ⟨r1, rfl, key_is I2 hq hd, trivial⟩, dd, fun h' tk hd' hs => wpAny_pure ?_⟩
      obtain ⟨H', I', n⟩ := set_core (tk := tk) (Q := fun H' => Q (.ref s.heap.objs.size) H') I2 D .nil rfl r2 (.inl ⟨by simp, hQ⟩) hd' hs
      exact ⟨.ref s.heap.objs.size, H', I', rfl, n⟩
  · exact h s.heap.objs.size { cls := .type "dict", data := .dict #[] } (I.hok.fresh (Nat.le_refl _)) (low_newN I)
end
end Rm
namespace Rm
open PySem PySem.Spec PyProof.Rows L2 RZ PpSet
/-! ### keys: told apart, deep enough -/
mutual
def keqL : LV → LV → Bool
  | .non, .non => true
  | .bl a, .bl b => a == b
  | .bl a, .int b => (if a then 1 else 0) == b
  | .int a, .bl b => a == (if b then 1 else 0)
  | .int a, .int b => a == b
  | .str a, .str b => a == b
  | .tup xs, .tup ys => keqsL xs ys
  | _, _ => false
def keqsL : List LV → List LV → Bool
  | [], [] => true
  | x :: xs, y :: ys => keqL x y && keqsL xs ys
  | _, _ => false
end
mutual
def kfit : LV → Nat → Bool
  | .non, _ => true
  | .bl _, _ => true
  | .int _, _ => true
  | .str _, _ => true
  | .tup xs, n + 1 => kfits xs n
  | _, _ => false
def kfits : List LV → Nat → Bool
  | [], _ => true
  | x :: xs, n => kfit x n && kfits xs n
end
mutual
theorem kfit_of : ∀ (x : LV) (n : Nat), kfit x n = true → ∃ k, x.key = some k ∧ k.depth ≤ n
  | .non, n, _ => ⟨_, rfl, Nat.zero_le _⟩
  | .bl b, n, _ => ⟨_, rfl, Nat.zero_le _⟩
  | .int i, n, _ => ⟨_, rfl, Nat.zero_le _⟩
  | .str x, n, _ => ⟨_, rfl, Nat.zero_le _⟩
  | .tup xs, n + 1, h => by
    obtain ⟨ks, e, d⟩ := kfits_of xs n (by simpa [kfit] using h)
    refine ⟨.tup ks, by simp only [LV.key, e, Option.map_some], ?_⟩
    simp only [NestedKey.depth]
    omega
  | .tup xs, 0, h => by simp [kfit] at h
  | .ref _, n, h => by simp [kfit] at h
  | .vl _, n, h => by simp [kfit] at h
  | .fz _, n, h => by simp [kfit] at h
  | .vd _ _, n, h => by simp [kfit] at h
  | .sd _ _, n, h => by simp [kfit] at h
  | .obj _ _, n, h => by simp [kfit] at h
theorem kfits_of : ∀ (x : List LV) (n : Nat), kfits x n = true → ∃ k, LV.keys x = some k ∧ NestedKey.depthAll k ≤ n
  | [], n, _ => ⟨[], rfl, by simp [NestedKey.depthAll]⟩
  | x :: xs, n, h => by
    simp only [kfits, Bool.and_eq_true] at h
    obtain ⟨k, e, d⟩ := kfit_of x n h.1
    obtain ⟨ks, es, ds⟩ := kfits_of xs n h.2
    refine ⟨k :: ks, by simp only [LV.keys, e, es], ?_⟩
    simp only [NestedKey.depthAll]
    omega
end
mutual
theorem keq_of : ∀ (x y : LV) (k l : NestedKey), x.key = some k → y.key = some l → keqL x y = decide (k = l)
  | .non, y, k, l, h, g => by cases h; cases y <;> simp [LV.key, keqL] at g ⊢ <;> (try subst g) <;> (try obtain ⟨_, _, rfl⟩ := g) <;> simp
  | .bl b, y, k, l, h, g => by cases h; cases y <;> simp [LV.key, keqL] at g ⊢ <;> (try subst g) <;> (try obtain ⟨_, _, rfl⟩ := g) <;> (try simp [Bool.beq_eq_decide_eq]) <;> (try rename_i c; cases b <;> cases c <;> decide)
  | .int i, y, k, l, h, g => by cases h; cases y <;> simp [LV.key, keqL] at g ⊢ <;> (try subst g) <;> (try obtain ⟨_, _, rfl⟩ := g) <;> simp [Bool.beq_eq_decide_eq]
  | .str x, y, k, l, h, g => by cases h; cases y <;> simp [LV.key, keqL] at g ⊢ <;> (try subst g) <;> (try obtain ⟨_, _, rfl⟩ := g) <;> simp [Bool.beq_eq_decide_eq]
  | .tup xs, .tup ys, k, l, h, g => by
    simp only [LV.key, Option.map_eq_some_iff] at h g
    obtain ⟨ks, h1, rfl⟩ := h
    obtain ⟨ls, g1, rfl⟩ := g
    simp only [keqL]
    rw [keqs_of xs ys ks ls h1 g1]
    simp
  | .tup xs, .non, k, l, h, g => by simp only [LV.key, Option.map_eq_some_iff] at h; obtain ⟨ks, h1, rfl⟩ := h; cases g; simp [keqL]
  | .tup xs, .bl _, k, l, h, g => by simp only [LV.key, Option.map_eq_some_iff] at h; obtain ⟨ks, h1, rfl⟩ := h; cases g; simp [keqL]
  | .tup xs, .int _, k, l, h, g => by simp only [LV.key, Option.map_eq_some_iff] at h; obtain ⟨ks, h1, rfl⟩ := h; cases g; simp [keqL]
  | .tup xs, .str _, k, l, h, g => by simp only [LV.key, Option.map_eq_some_iff] at h; obtain ⟨ks, h1, rfl⟩ := h; cases g; simp [keqL]
  | .tup xs, .ref _, k, l, h, g => by simp [LV.key] at g
  | .tup xs, .vl _, k, l, h, g => by simp [LV.key] at g
  | .tup xs, .fz _, k, l, h, g => by simp [LV.key] at g
  | .tup xs, .vd _ _, k, l, h, g => by simp [LV.key] at g
  | .tup xs, .sd _ _, k, l, h, g => by simp [LV.key] at g
  | .tup xs, .obj _ _, k, l, h, g => by simp [LV.key] at g
  | .ref _, _, k, l, h, g => by simp [LV.key] at h
  | .vl _, _, k, l, h, g => by simp [LV.key] at h
  | .fz _, _, k, l, h, g => by simp [LV.key] at h
  | .vd _ _, _, k, l, h, g => by simp [LV.key] at h
  | .sd _ _, _, k, l, h, g => by simp [LV.key] at h
  | .obj _ _, _, k, l, h, g => by simp [LV.key] at h
theorem keqs_of : ∀ (x y : List LV) (k l : List NestedKey), LV.keys x = some k → LV.keys y = some l → keqsL x y = decide (k = l)
  | [], [], k, l, h, g => by cases h; cases g; rfl
  | [], y :: ys, k, l, h, g => by
    cases h
    simp only [LV.keys] at g
    split at g
    · cases g; simp [keqsL]
    · cases g
  | x :: xs, [], k, l, h, g => by
    cases g
    simp only [LV.keys] at h
    split at h
    · cases h; simp [keqsL]
    · cases h
  | x :: xs, y :: ys, k, l, h, g => by
    simp only [LV.keys] at h g
    split at h
    · rename_i k1 ks1 h1 h2
      cases h
      split at g
      · rename_i l1 ls1 g1 g2
        cases g
        simp only [keqsL]
        rw [keq_of x y k1 l1 h1 g1, keqs_of xs ys ks1 ls1 h2 g2, Bool.eq_iff_iff]
        simp
      · cases g
    · cases h
end
/-- the place of a key, or the number of keys -/
def kix (x : LV) : List LV → Nat
  | [] => 0
  | y :: ys => if keqL x y = true then 0 else kix x ys + 1
theorem kix_of {x : LV} {k : NestedKey} (h : x.key = some k) : ∀ {ys : List LV} {ls : List NestedKey}, LV.keys ys = some ls → (kix x ys < ys.length → ls[kix x ys]? = some k) ∧ (¬ kix x ys < ys.length → k ∉ ls)
  | [], ls, g => by cases g; exact ⟨fun h => absurd h (Nat.not_lt_zero _), fun _ h => nomatch h⟩
  | y :: ys, ls, g => by
    simp only [LV.keys] at g
    split at g
    · rename_i l1 ls1 g1 g2
      cases g
      have e := keq_of x y k l1 h g1
      obtain ⟨i1, i2⟩ := kix_of h (ys := ys) g2
      simp only [kix]
      by_cases c : k = l1
      · subst c
        rw [e, decide_eq_true rfl, if_pos rfl]
        exact ⟨fun _ => rfl, fun q => absurd (Nat.succ_pos _) q⟩
      · rw [e, decide_eq_false c, if_neg (by decide)]
        refine ⟨fun q => i1 (by simpa using q), fun q => ?_⟩
        rw [List.mem_cons, not_or]
        exact ⟨c, i2 (fun z => q (by simpa using z))⟩
    · cases g
theorem keys_app : ∀ {xs : List LV} {ks : List NestedKey} {y : LV} {k : NestedKey}, LV.keys xs = some ks → y.key = some k → LV.keys (xs ++ [y]) = some (ks ++ [k])
  | [], ks, y, k, h, g => by cases h; simp [LV.keys, g]
  | x :: xs, ks, y, k, h, g => by
    simp only [LV.keys] at h
    split at h
    · rename_i k1 ks1 h1 h2
      cases h
      simp only [List.cons_append, LV.keys, h1, keys_app h2 g]
    · cases h
def LV.dct (h : List LO) : LV → Option (List LV × List LV)
  | .vd ks vs => some (ks, vs)
  | .ref n => match h[n]? with
    | some (.dic ks vs) => some (ks, vs)
    | _ => none
  | _ => none
section
variable {S : Sg} {F : Addr → Prop} {ι : List Addr} {H : Hp} {h : List LO}
theorem nk_pick {K : PySem.W.Frag} : ∀ {kas : List (NestedKey × Addr)} {k : NestedKey × Addr}, NkAll K H (kas.map fun k => V.ref k.2) (kas.map (·.1)) → k ∈ kas → Nk K H (.ref k.2) k.1
  | [], _, _, hk => nomatch hk
  | p :: kas, k, all, hk => by
    cases all with
    | cons h1 h2 =>
      rcases List.mem_cons.mp hk with e | e
      · rw [e]; exact h1
      · exact nk_pick h2 e
theorem dct_of (r : Rep S F ι h H) {v : LV} {x : V} {ks vs : List LV} (z : RV S F ι H v x) (e : v.dct h = some (ks, vs)) : ∃ d o kas xs, x = .ref d ∧ DN S.P S.w S.K H d o kas xs ∧ LV.keys ks = some (kas.map (·.1)) ∧ RVs S F ι H ks (kas.map fun k => V.ref k.2) ∧ RVs S F ι H vs xs := by
  have mk : ∀ {d o kas xs}, H d = some (.ext (dvF S.P S.w d o kas xs)) → (d == sysModules) = false → keysOk kas xs → LV.keys ks = some (kas.map (·.1)) → RVs S F ι H ks (kas.map fun k => V.ref k.2) → DN S.P S.w S.K H d o kas xs := fun {d o kas xs} a b c e g => by
    refine ⟨a, b, c, fun k hk => ?_⟩
    exact nk_pick (nks_of ks _ _ g e) hk
  cases z with
  | vd a n b c d g i => cases e; exact ⟨_, _, _, _, rfl, mk a b c d g, d, g, i⟩
  | @ref a n q =>
    simp only [LV.dct] at e
    split at e
    · rename_i ks' vs' hx
      cases e
      have gg := r.at hx q
      cases gg with
      | dic a b c d g i => exact ⟨_, _, _, _, rfl, mk a b c d g, d, g, i⟩
    · cases e
  | _ => cases e
end
def fInN (neg : Bool) (v w : LV) (h : List LO) : R LV := match w.dct h with
  | some (ks, _) => match v with
    | .tup xs => if kfit (.tup xs) 8 = true then .ok (.bl (if neg then !decide (kix (.tup xs) ks < ks.length) else decide (kix (.tup xs) ks < ks.length))) h else .bad
    | _ => .bad
  | none => .bad
def fIxN (v w : LV) (h : List LO) : R LV := match v.dct h with
  | some (ks, vs) => match w with
    | .tup xs => if kfit (.tup xs) 8 = true then (match vs[kix (.tup xs) ks]? with
      | some y => .ok y h
      | none => .bad) else .bad
    | _ => .bad
  | none => .bad
section
variable {S : Se} {E : XK}
theorem mem_kix {x : LV} {k : NestedKey} {ks : List LV} {ls : List NestedKey} (h : x.key = some k) (g : LV.keys ks = some ls) : decide (k ∈ ls) = decide (kix x ks < ks.length) := by
  obtain ⟨a, b⟩ := kix_of h g
  by_cases c : kix x ks < ks.length
  · rw [decide_eq_true c, decide_eq_true (List.mem_of_getElem? (a c))]
  · rw [decide_eq_false c, decide_eq_false (b c)]
theorem vo_inN {neg : Bool} : VO S E (rInN S.P S.w S.K neg) (fInN neg) := fun F ι h H x y v w Q rp zx zy o => by
  unfold fInN at o
  split at o
  · rename_i ks vs e
    obtain ⟨d, ob, kas, xs, rfl, D, hk, _, _⟩ := dct_of rp zy e
    split at o
    · rename_i ts
      split at o
      · rename_i hf
        obtain ⟨k, k1, k2⟩ := kfit_of _ _ hf
        have nk := nk_of _ _ _ zx k1
        cases zx with
        | @tup a _ _ a1 a2 =>
          refine ⟨d, a, ob, kas, xs, k, rfl, rfl, D, nk, k2, ?_⟩
          rw [mem_kix k1 hk]
          exact Ok.now (rel := RV S.toSg) o rp (.bl _)
      · exact o.elim
    · exact o.elim
  · exact o.elim
theorem vo_ixN : VO S E (rIxN S.P S.w S.K) fIxN := fun F ι h H x y v w Q rp zx zy o => by
  unfold fIxN at o
  split at o
  · rename_i ks vs e
    obtain ⟨d, ob, kas, xs, rfl, D, hk, hks, hvs⟩ := dct_of rp zx e
    split at o
    · rename_i ts
      split at o
      · rename_i hf
        obtain ⟨k, k1, k2⟩ := kfit_of _ _ hf
        have nk := nk_of _ _ _ zy k1
        split at o
        · rename_i yv hy
          obtain ⟨xv, e1, e2⟩ := hvs.at hy
          have lt : kix (.tup ts) ks < ks.length := by
            have h1 := (List.getElem?_eq_some_iff.mp e1).1
            have h2 := D.ok.2.1
            have h3 := hks.length
            rw [List.length_map] at h3
            omega
          cases zy with
          | @tup a _ _ a1 a2 => exact ⟨d, a, ob, kas, xs, k, _, xv, rfl, rfl, D, nk, k2, (kix_of k1 hk).1 lt, e1, Ok.now (rel := RV S.toSg) o rp e2⟩
        · exact o.elim
      · exact o.elim
    · exact o.elim
  · exact o.elim
theorem VO.orH {r r' : R2} {f1 f2 : LV → LV → List LO → R LV} (d : LV → LV → List LO → Bool) (h1 : VO S E r f1) (h2 : VO S E r' f2) : VO S E (fun x y H Q => r x y H Q ∨ r' x y H Q) (fun v w h => if d v w h = true then f1 v w h else f2 v w h) := fun F ι h H x y v w Q rp zx zy o => by
  dsimp only at o ⊢
  by_cases e : d v w h = true
  · rw [if_pos e] at o; exact .inl (h1 F ι h H x y v w Q rp zx zy o)
  · rw [if_neg e] at o; exact .inr (h2 F ι h H x y v w Q rp zx zy o)
end
end Rm
namespace Rm
open PySem PySem.Spec PyProof.Rows L2 RZ PpSet
/-! ### in, x[i], list(x), for: whatever x is -/
def isDct (v : LV) (h : List LO) : Bool := (v.dct h).isSome
def rInX (P : Program) (w : World) (K : PySem.W.Frag) : R2 := fun x y H Q => rInN P w K false x y H Q ∨ rInAll K x y H Q
def rNiX (P : Program) (w : World) (K : PySem.W.Frag) : R2 := fun x y H Q => rInN P w K true x y H Q ∨ rNiAll K x y H Q
def fInX (neg : Bool) : LV → LV → List LO → R LV := fun v w h => if isDct w h = true then fInN neg v w h else fIn neg v w h
def rIxX (P : Program) (w : World) (K : PySem.W.Frag) : R2 := fun x y H Q => rIxN P w K x y H Q ∨ rIx K x y H Q
def fIxX : LV → LV → List LO → R LV := fun v w h => if isDct v h = true then fIxN v w h else fIx v w h
def rListX (P : Program) (w : World) (K : PySem.W.Frag) : List V → Hp → VK → Prop := fun xs H Q => rListN P w K xs H Q ∨ rListOf K xs H Q
def fListX (vs : List LV) (h : List LO) : R LV := match vs with
  | [v] => match v.dct h with
    | some (ks, _) => .ok (.vl ks) h
    | none => fList [v] h
  | _ => .bad
section
variable {X : Cx}
theorem op_inX (hu : X.A.units + 9 < cLine) : OpR X (compareOp .In) (rInX X.prog X.w X.K) := (op_inN hu).or op_inAll
theorem op_niX (hu : X.A.units + 9 < cLine) : OpR X (compareOp .NotIn) (rNiX X.prog X.w X.K) := (op_niN hu).or op_niAll
theorem ix_X (hu : X.A.units + 9 < cLine) : IxR X (rIxX X.prog X.w X.K) := (ix_N hu).or ix_seq
theorem call_listX (hc : X.calm = true) : CallR X (.type "list") (rListX X.prog X.w X.K) := (call_list_N hc).or call_listOf
end
section
variable {S : Se} {E : XK} {ta tb tk tv te : TE} {ma mb mk mv me : ME} {tt : TT} {mt : MT} {g : TG} {mg : MG} {wi : TI} {mi : MI}
theorem vo_inX : VO S E (rInX S.P S.w S.K) (fInX false) := VO.orH (fun _ w h => isDct w h) vo_inN vo_in
theorem vo_niX : VO S E (rNiX S.P S.w S.K) (fInX true) := VO.orH (fun _ w h => isDct w h) vo_inN vo_ni
theorem vo_ixX : VO S E (rIxX S.P S.w S.K) fIxX := VO.orH (fun v _ h => isDct v h) vo_ixN vo_ix
theorem vc_listX : VC S E (rListX S.P S.w S.K) fListX := fun F ι h H xs vs Q rp z o => by
  unfold fListX at o
  split at o
  · split at o
    · rename_i v ks vs e
      cases z with
      | cons a b =>
        cases b
        obtain ⟨d, ob, kas, xs, rfl, D, hk, hks, hvs⟩ := dct_of rp a e
        exact .inl ⟨d, ob, kas, xs, rfl, D, fun p hp => ok_vl rp hks o hp⟩
    · exact .inr (vc_list F ι h H xs _ Q rp z o)
  · exact o.elim
/-! ### o[i] = v -/
def VSt (S : Se) (E : XK) (t : TSet) (f : LV → LV → LV → List LO → R Unit) : Prop := ∀ F ι h H (y i x : V) (o' iv v : LV) (Q : Hp → Prop), Rep S.toSg F ι h H → RV S.toSg F ι H o' y → RV S.toSg F ι H iv i → RV S.toSg F ι H v x → Ok (fun _ _ _ (_ _ : Unit) => True) S E F ι H (f o' iv v h) (fun _ H' => Q H') → t y i x H Q
def mGSub (f : LV → LV → LV → List LO → R Unit) (mo mi : ME) : MG := fun v ρ h => (mo ρ h).bind fun o h1 => (mi ρ h1).bind fun i h2 => (f o i v h2).bind fun _ h3 => .ok ρ h3
theorem sg_sub {t : TSet} {f : LV → LV → LV → List LO → R Unit} (hs : VSt S E t f) (ha : SE S E ta ma) (hb : SE S E tb mb) : SG S E (gSub ta tb t) (mGSub f ma mb) := fun F ι h H ρ σ v x Q rp rs z o =>
  ha F ι h H ρ σ _ rp rs (o.seq fun F1 ι1 H1 h1 w y _ e1 rp1 zy o1 => hb F1 ι1 h1 H1 ρ σ _ rp1 (rs.ext rp e1) (o1.seq fun F2 ι2 H2 h2 u i _ e2 rp2 zi o2 =>
    hs F2 ι2 h2 H2 y i x w u v _ rp2 (zy.ext rp1 e2) zi ((z.ext rp e1).ext rp1 e2) (o2.seq fun F3 ι3 H3 h3 _ _ _ e3 rp3 _ o3 => Ok.now (rel := RS S) o3 rp3 (((rs.ext rp e1).ext rp1 e2).ext rp2 e3))))
def fSetX (o i v : LV) (h : List LO) : R Unit := match o with
  | .ref n => match h[n]? with
    | some (.lst xs) => match i with
      | .int k => match ixN xs.length k with
        | some j => .ok () (h.set n (.lst (xs.set j v)))
        | none => .bad
      | _ => .bad
    | some (.dic ks vs) => match i with
      | .tup ts => if kfit (.tup ts) 8 = true ∧ ks.length < 60000 then (if kix (.tup ts) ks < ks.length then .ok () (h.set n (.dic ks (vs.set (kix (.tup ts) ks) v))) else .ok () (h.set n (.dic (ks ++ [.tup ts]) (vs ++ [v])))) else .bad
      | _ => .bad
    | _ => .bad
  | _ => .bad
def rSetX (P : Program) (w : World) (K : PySem.W.Frag) : TSet := fun y i v H Q => rSetL y i v H Q ∨ rSetN P w K y i v H Q
theorem set_X {X : Cx} (hu : X.A.units + 9 < cLine) : PSet X (rSetX X.prog X.w X.K) := by
  rintro pins s σ H y i v ov iv u Q I ry ri rv (h | h)
  · exact set_list pins s σ H y i v ov iv u Q I ry ri rv h
  · exact set_N hu pins s σ H y i v ov iv u Q I ry ri rv h
theorem keysOk_app {kas : List (NestedKey × Addr)} {xs : List V} {k : NestedKey} {q : Addr} {v : V} (K : keysOk kas xs) (h : k ∉ kas.map (·.1)) (hd : k.depth ≤ 8) (hl : kas.length < 60000) : keysOk (kas ++ [(k, q)]) (xs ++ [v]) := by
  refine ⟨?_, by rw [List.length_append, List.length_append, K.2.1]; rfl, by rw [List.length_append]; simp; omega, fun p hp => ?_⟩
  · rw [List.map_append, List.nodup_append]
    refine ⟨K.1, by simp, fun a ha b hb => ?_⟩
    have e : b = k := by simpa using hb
    rw [e]
    rintro rfl
    exact h ha
  · rcases List.mem_append.mp hp with z | z
    · exact K.2.2.2 p z
    · rw [List.mem_singleton.mp z]; exact hd
theorem vst_X : VSt S E (rSetX S.P S.w S.K) fSetX := fun F ι h H y i x o' iv v Q rp zo zi zv o => by
  unfold fSetX at o
  split at o
  · rename_i n
    cases zo with
    | @ref a _ q =>
      split at o
      · rename_i xs hx
        split at o
        · cases zi
          split at o
          · rename_i j hj
            have gg := rp.at hx q
            cases gg with
            | @lst _ _ vs2 g1 g2 =>
              have fw := (EX.write (S := S) (o := .lst (vs2.set j x)) rp (List.mem_of_getElem? q)).fwd rp
              exact .inl ⟨a, _, _, j, rfl, rfl, g1, by rw [← g2.length]; exact hj, Ok.now (rel := fun _ _ _ (_ _ : Unit) => True) (x := ()) (o.shift (EX.write rp (List.mem_of_getElem? q))) (rp.write q (.lst upd_same (RVs.set (zv.fwd fw _ _) j (g2.fwd fw _ _)))) trivial⟩
          · exact o.elim
        · exact o.elim
      · rename_i ks vs hx
        split at o
        · rename_i ts
          split at o
          · rename_i hf
            have gg := rp.at hx q
            obtain ⟨k, k1, k2⟩ := kfit_of _ _ hf.1
            have nk := nk_of _ _ _ zi k1
            obtain ⟨d, ob, kas, xs, e0, D, hk, hks, hvs⟩ := dct_of rp (.ref q) (show LV.dct h (.ref n) = some (ks, vs) by simp only [LV.dct, hx])
            cases e0
            have hlen : ks.length = kas.length := by have := hks.length; rw [List.length_map] at this; exact this
            cases zi with
            | @tup b _ _ t1 t2 =>
              refine .inr ⟨a, b, ob, kas, xs, k, rfl, rfl, D, nk, k2, by omega, ?_⟩
              split at o
              · rename_i lt
                refine .inr ⟨kix (.tup ts) ks, (kix_of k1 hk).1 lt, fun o2 => ?_⟩
                have ex := EX.write (S := S) (o := .ext (dvF S.P S.w a o2 kas (xs.set (kix (.tup ts) ks) x))) rp (List.mem_of_getElem? q)
                have fw := ex.fwd rp
                refine Ok.now (rel := fun _ _ _ (_ _ : Unit) => True) (x := ()) (o.shift ex) (rp.write q (.dic upd_same D.low ?_ hk (hks.fwd fw _ _) (RVs.set (zv.fwd fw _ _) _ (hvs.fwd fw _ _)))) trivial
                exact ⟨D.ok.1, by rw [List.length_set]; exact D.ok.2.1, D.ok.2.2⟩
              · rename_i lt
                have nin := (kix_of k1 hk).2 lt
                refine .inl ⟨nin, fun o2 => ?_⟩
                have ex := EX.write (S := S) (o := .ext (dvF S.P S.w a o2 (kas ++ [(k, b)]) (xs ++ [x]))) rp (List.mem_of_getElem? q)
                have fw := ex.fwd rp
                refine Ok.now (rel := fun _ _ _ (_ _ : Unit) => True) (x := ()) (o.shift ex) (rp.write q (.dic upd_same D.low (keysOk_app D.ok nin k2 (by omega)) ?_ ?_ ((hvs.fwd fw _ _).append (.cons (zv.fwd fw _ _) .nil)))) trivial
                · rw [List.map_append]
                  exact keys_app hk k1
                · rw [List.map_append]
                  exact (hks.fwd fw _ _).append (.cons (.tup (fw.tup _ _ t1) (t2.fwd fw _ _)) .nil)
          · exact o.elim
        · exact o.elim
      · exact o.elim
  · exact o.elim
/-! ### {}, {k: v} -/
def mNewM : ME := fun _ h => .ok (.ref h.length) (h ++ [.dic [] []])
def mNewV : ME := fun _ h => .ok (.vd [] []) h
def mDispM (mk mv : ME) : ME := fun ρ h => (mk ρ h).safe.bind fun k h1 => (mv ρ h1).safe.bind fun v h2 => match k with
  | .tup ts => if kfit (.tup ts) 8 = true then .ok (.ref h2.length) (h2 ++ [.dic [.tup ts] [v]]) else .bad
  | _ => .bad
def mDispV (mk mv : ME) : ME := fun ρ h => (mk ρ h).safe.bind fun k h1 => (mv ρ h1).safe.bind fun v h2 => match k with
  | .tup ts => if kfit (.tup ts) 8 = true then .ok (.vd [.tup ts] [v]) h2 else .bad
  | _ => .bad
theorem keysOk_nil : keysOk [] [] := ⟨.nil, rfl, Nat.zero_le _, fun _ m => nomatch m⟩
theorem se_newV : SE S E (tNewN S.P S.w) mNewV := fun F ι h H ρ σ Q rp rs o p ob hp low =>
  o F ι _ _ (EX.new hp) (rp.new hp) (.vd upd_same (nF_of_none rp hp) low keysOk_nil rfl .nil .nil)
theorem se_newM : SE S E (tNewN S.P S.w) mNewM := fun F ι h H ρ σ Q rp rs o p ob hp low =>
  o _ _ _ _ (EX.newM hp) (rp.newM hp (.dic upd_same low keysOk_nil rfl .nil .nil)) (.ref (by rw [← rp.len, List.getElem?_append_right (Nat.le_refl _)]; simp))
/-- the new dict stands apart while its pair is reckoned -/
theorem apart {F : Addr → Prop} {ι : List Addr} {H : Hp} {h : List LO} {p : Addr} {u : HO} (rp : Rep S.toSg F ι h H) (hp : H p = none) :
    EX S.toSg F ι H (fun a => F a ∨ a = p) ι (upd H p u) ∧ Rep S.toSg (fun a => F a ∨ a = p) ι h (upd H p u) := by
  have e := EX.new (S := S) (F := F) (ι := ι) (o := u) hp
  have ex : EX S.toSg F ι H (fun a => F a ∨ a = p) ι (upd H p u) := ⟨e.tup, e.keep, e.grow, fun a z => .inl z, fun a z n => z.elim (fun q => absurd q n) fun q => by rw [q]; exact hp, e.dom⟩
  refine ⟨ex, ⟨rp.len, rp.nd, fun a m => .inl (rp.inF a m), fun a z q => ?_, fun i o a q1 q2 => (rp.obj i o a q1 q2).fwd (ex.fwd rp) fun v q => by rw [upd_ne (ne_of_none q hp)]; exact q⟩⟩
  by_cases c : a = p
  · subst c; rw [upd_same] at q; cases q
  · rw [upd_ne c] at q
    exact z.elim (fun z => rp.dom a z q) c
/-- a dict apart that is written, then joins the values -/
theorem join {F1 F2 : Addr → Prop} {ι1 ι2 : List Addr} {H1 H2 : Hp} {h2 : List LO} {p : Addr} {u v : HO} (hp : H1 p = none) (ex : EX S.toSg F1 ι1 H1 F2 ι2 H2) (r : Rep S.toSg F2 ι2 h2 H2) (r1 : ∀ a, F1 a → H1 a ≠ none) (Fp : F2 p) (np : p ∉ ι2) (hu : H2 p = some u) (nt : ∀ xs, u ≠ .tup xs) (nz : ∀ o w, u ≠ .frz o w) :
    EX S.toSg F1 ι1 H1 (fun a => F2 a ∧ a ≠ p) ι2 (upd H2 p v) ∧ Rep S.toSg (fun a => F2 a ∧ a ≠ p) ι2 h2 (upd H2 p v) ∧ Fwd S.toSg F2 ι2 H2 (fun a => F2 a ∧ a ≠ p) ι2 (upd H2 p v) := by
  have keepT : ∀ a xs, SqT S.K H2 a xs → SqT S.K (upd H2 p v) a xs := fun a xs q => by
    rcases q with (z | ⟨w, z⟩) | z
    · exact .inl (.inl (by rw [upd_ne (fun c => by subst c; rw [hu] at z; exact nt _ (Option.some.inj z))]; exact z))
    · exact .inl (.inr ⟨w, by rw [upd_ne (fun c => by subst c; rw [hu] at z; exact nz _ _ (Option.some.inj z))]; exact z⟩)
    · exact .inr z
  have fw : Fwd S.toSg F2 ι2 H2 (fun a => F2 a ∧ a ≠ p) ι2 (upd H2 p v) := by
    refine ⟨keepT, fun a o n q => by rw [upd_ne (fun c => n (by rw [c]; exact Fp))]; exact q, fun a o us q => by rw [upd_ne (fun c => by subst c; rw [hu] at q; exact nz _ _ (Option.some.inj q))]; exact q, fun _ _ n _ z => n z.1, fun _ _ q => q⟩
  refine ⟨⟨fun a xs q => keepT a xs (ex.tup a xs q), fun a o n q => by rw [upd_ne (ne_of_none q hp)]; exact ex.keep a o n q, ex.grow, fun a z => ⟨ex.more a z, fun c => r1 a z (by rw [c]; exact hp)⟩, fun a z n => ex.fresh a z.1 n, fun a q => ?_⟩, ⟨r.len, r.nd, fun a m => ⟨r.inF a m, fun c => np (by rw [← c]; exact m)⟩, fun a z q => ?_, fun i o a q1 q2 => (r.obj i o a q1 q2).fwd fw fun w q => ?_⟩, fw⟩
  · by_cases c : a = p
    · subst c; exact hp
    · rw [upd_ne c] at q; exact ex.dom a q
  · rw [upd_ne z.2] at q; exact r.dom a z.1 q
  · rw [upd_ne (fun c => np (by rw [← c]; exact List.mem_of_getElem? q2))]; exact q
theorem stays {F1 F2 : Addr → Prop} {ι1 ι2 : List Addr} {H1 H2 : Hp} {p : Addr} {u : HO} (ex : EX S.toSg F1 ι1 H1 F2 ι2 H2) (np : p ∉ ι1) (hu : H1 p = some u) : H2 p = some u ∧ p ∉ ι2 := by
  refine ⟨ex.keep p u np hu, fun m => ?_⟩
  obtain ⟨more, rfl, n⟩ := ex.grow
  rcases List.mem_append.mp m with m | m
  · exact np m
  · have := n p m
    rw [hu] at this
    cases this
theorem se_dispV (hk : SE S E0 tk mk) (hv : SE S E0 tv mv) : SE S E (tDispN S.P S.w S.K tk tv) (mDispV mk mv) := fun F ι h H ρ σ Q rp rs o p ob hp low => by
  obtain ⟨ex0, rp0⟩ := apart (S := S) (u := .ext (dvF S.P S.w p ob [] [])) rp hp
  have np : p ∉ ι := fun m => rp.dom p (rp.inF p m) hp
  refine hk _ ι h _ ρ σ _ rp0 (rs.ext rp ex0) (Ok.seqB (rel := RV S.toSg) o fun F1 ι1 H1 h1 k kx _ e1 rp1 zk o1 => ?_)
  refine hv F1 ι1 h1 H1 ρ σ _ rp1 ((rs.ext rp ex0).ext rp0 e1) (Ok.seqB (rel := RV S.toSg) o1 fun F2 ι2 H2 h2 v vx _ e2 rp2 zv o2 => ?_)
  have ex02 := ex0.trans (e1.trans e2)
  obtain ⟨s1, s2⟩ := stays (e1.trans e2) np (by rw [upd_same])
  split at o2
  · rename_i ts
    split at o2
    · rename_i hf
      obtain ⟨kk, k1, k2⟩ := kfit_of _ _ hf
      have zk2 := zk.ext rp1 e2
      have nk := nk_of _ _ _ zk2 k1
      cases zk2 with
      | @tup b _ _ t1 t2 =>
        refine ⟨b, kk, vx, rfl, s1, nk, k2, fun o' => ?_⟩
        obtain ⟨j1, j2, j3⟩ := join (S := S) (v := .ext (dvF S.P S.w p o' [(kk, b)] [vx])) hp ex02 rp2 rp.dom (e2.more _ (e1.more _ (.inr rfl))) s2 s1 (fun _ z => nomatch z) (fun _ _ z => nomatch z)
        refine o2 _ _ _ _ j1 j2 (.vd upd_same (fun z => z.2 rfl) low (keysOk_app (k := kk) (q := b) (v := vx) keysOk_nil (fun m => nomatch m) k2 (by decide)) (by simp [LV.keys, k1]) (.cons (.tup (j3.tup _ _ t1) (t2.fwd j3 _ _)) .nil) (.cons (zv.fwd j3 _ _) .nil))
    · exact o2.elim
  · exact o2.elim
theorem joinM {F1 F2 : Addr → Prop} {ι1 ι2 : List Addr} {H1 H2 : Hp} {h2 : List LO} {p : Addr} {u v : HO} {q : LO} (hp : H1 p = none) (ex : EX S.toSg F1 ι1 H1 F2 ι2 H2) (r : Rep S.toSg F2 ι2 h2 H2) (Fp : F2 p) (np : p ∉ ι2) (hu : H2 p = some u) (nt : ∀ xs, u ≠ .tup xs) (nz : ∀ o w, u ≠ .frz o w) :
    Fwd S.toSg F2 ι2 H2 F2 (ι2 ++ [p]) (upd H2 p v) ∧ EX S.toSg F1 ι1 H1 F2 (ι2 ++ [p]) (upd H2 p v) ∧ (RO S.toSg F2 (ι2 ++ [p]) (upd H2 p v) q p → Rep S.toSg F2 (ι2 ++ [p]) (h2 ++ [q]) (upd H2 p v)) := by
  have keepT : ∀ a xs, SqT S.K H2 a xs → SqT S.K (upd H2 p v) a xs := fun a xs q => by
    rcases q with (z | ⟨w, z⟩) | z
    · exact .inl (.inl (by rw [upd_ne (fun c => by subst c; rw [hu] at z; exact nt _ (Option.some.inj z))]; exact z))
    · exact .inl (.inr ⟨w, by rw [upd_ne (fun c => by subst c; rw [hu] at z; exact nz _ _ (Option.some.inj z))]; exact z⟩)
    · exact .inr z
  have fw : Fwd S.toSg F2 ι2 H2 F2 (ι2 ++ [p]) (upd H2 p v) :=
    ⟨keepT, fun a o n q => by rw [upd_ne (fun c => n (by rw [c]; exact Fp))]; exact q, fun a o us q => by rw [upd_ne (fun c => by subst c; rw [hu] at q; exact nz _ _ (Option.some.inj q))]; exact q, fun _ _ n _ z => n z, fun n a q => by rw [List.getElem?_append_left (List.getElem?_eq_some_iff.mp q).1]; exact q⟩
  refine ⟨fw, ⟨fun a xs q => keepT a xs (ex.tup a xs q), fun a o n q => by rw [upd_ne (ne_of_none q hp)]; exact ex.keep a o n q, ?_, ex.more, ex.fresh, fun a q => ?_⟩, fun z => ⟨by rw [List.length_append, List.length_append, r.len]; rfl, ?_, fun a m => ?_, fun a z q => ?_, fun i o a q1 q2 => ?_⟩⟩
  · obtain ⟨more, rfl, n⟩ := ex.grow
    refine ⟨more ++ [p], by rw [List.append_assoc], fun a m => ?_⟩
    rcases List.mem_append.mp m with m | m
    · exact n a m
    · rw [List.mem_singleton.mp m]; exact hp
  · by_cases c : a = p
    · subst c; exact hp
    · rw [upd_ne c] at q; exact ex.dom a q
  · rw [List.nodup_append]
    refine ⟨r.nd, by simp, fun a ha b hb => ?_⟩
    rw [List.mem_singleton.mp hb]
    rintro rfl
    exact np ha
  · rcases List.mem_append.mp m with m | m
    · exact r.inF a m
    · rw [List.mem_singleton.mp m]; exact Fp
  · by_cases c : a = p
    · subst c; rw [upd_same] at q; cases q
    · rw [upd_ne c] at q; exact r.dom a z q
  · by_cases hi : i < h2.length
    · rw [List.getElem?_append_left hi] at q1
      rw [List.getElem?_append_left (by rw [r.len]; exact hi)] at q2
      exact (r.obj i o a q1 q2).fwd fw fun w q => by rw [upd_ne (fun c => np (by rw [← c]; exact List.mem_of_getElem? q2))]; exact q
    · have e : i = h2.length := by
        have := (List.getElem?_eq_some_iff.mp q1).1
        rw [List.length_append] at this
        simp at this
        omega
      subst e
      rw [List.getElem?_append_right (Nat.le_refl _)] at q1
      rw [← r.len, List.getElem?_append_right (Nat.le_refl _)] at q2
      simp at q1 q2
      subst q1 q2
      exact z
theorem se_dispM (hk : SE S E0 tk mk) (hv : SE S E0 tv mv) : SE S E (tDispN S.P S.w S.K tk tv) (mDispM mk mv) := fun F ι h H ρ σ Q rp rs o p ob hp low => by
  obtain ⟨ex0, rp0⟩ := apart (S := S) (u := .ext (dvF S.P S.w p ob [] [])) rp hp
  have np : p ∉ ι := fun m => rp.dom p (rp.inF p m) hp
  refine hk _ ι h _ ρ σ _ rp0 (rs.ext rp ex0) (Ok.seqB (rel := RV S.toSg) o fun F1 ι1 H1 h1 k kx _ e1 rp1 zk o1 => ?_)
  refine hv F1 ι1 h1 H1 ρ σ _ rp1 ((rs.ext rp ex0).ext rp0 e1) (Ok.seqB (rel := RV S.toSg) o1 fun F2 ι2 H2 h2 v vx _ e2 rp2 zv o2 => ?_)
  have ex02 := ex0.trans (e1.trans e2)
  obtain ⟨s1, s2⟩ := stays (e1.trans e2) np (by rw [upd_same])
  split at o2
  · rename_i ts hmk
    split at o2
    · rename_i hf
      obtain ⟨kk, k1, k2⟩ := kfit_of _ _ hf
      have zk2 := zk.ext rp1 e2
      have nk := nk_of _ _ _ zk2 k1
      cases zk2 with
      | @tup b _ _ t1 t2 =>
        refine ⟨b, kk, vx, rfl, s1, nk, k2, fun o' => ?_⟩
        obtain ⟨j3, j1, j2⟩ := joinM (S := S) (v := .ext (dvF S.P S.w p o' [(kk, b)] [vx])) (q := .dic [.tup ts] [v]) hp ex02 rp2 (e2.more _ (e1.more _ (.inr rfl))) s2 s1 (fun _ z => nomatch z) (fun _ _ z => nomatch z)
        refine o2 _ _ _ _ j1 (j2 (.dic upd_same low (keysOk_app (k := kk) (q := b) (v := vx) keysOk_nil (fun m => nomatch m) k2 (by decide)) (by simp [LV.keys, k1]) (.cons (.tup (j3.tup _ _ t1) (t2.fwd j3 _ _)) .nil) (.cons (zv.fwd j3 _ _) .nil))) (.ref ?_)
        rw [← rp2.len, List.getElem?_append_right (Nat.le_refl _)]
        simp
    · exact o2.elim
  · exact o2.elim
/-! ### for k in d -/
def mKeysI (ma : ME) : MI := fun ρ h => (ma ρ h).bind fun v h1 => match v with
  | .vd ks _ => .ok (.vals ks) h1
  | _ => .bad
theorem si_keysN (ha : SE S E ta ma) : SI S E (iKeysN S.P S.w ta) (mKeysI ma) := fun F ι h H ρ σ Q rp rs o =>
  ha F ι h H ρ σ _ rp rs (o.seq fun F1 ι1 H1 h1 v x _ e1 rp1 z o1 => by
    cases z with
    | @vd a ks vs ob kas xs hH nF low ok hk hks hvs =>
      refine ⟨a, ob, kas, xs, rfl, low, hH, ok.2.1, Ok.now (rel := WalkAt S) o1 rp1 fun F' ι' h' H' i e r => ?_⟩
      have hH' : H' a = some (.ext (dvF S.P S.w a ob kas xs)) := e.keep a _ nF hH
      have hks' := hks.fwd e _ _
      have hl := hks.length
      rw [List.length_map] at hl
      show match some ks[i]? with | some (some v) => _ | some none => _ | none => _
      cases hx : ks[i]? with
      | none => exact ⟨⟨xs, hH', ok.2.1⟩, by rw [← hl]; exact List.getElem?_eq_none_iff.mp hx⟩
      | some k =>
        obtain ⟨kv, g1, g2⟩ := hks'.at hx
        refine ⟨⟨⟨xs, hH', ok.2.1⟩, by rw [← hl]; exact (List.getElem?_eq_some_iff.mp hx).1⟩, fun y H'' hy => ?_⟩
        obtain ⟨rfl, q, q1, rfl⟩ := hy
        rw [List.getElem?_map, q1] at g1
        cases g1
        exact ⟨.refl, r, g2⟩
    | _ => exact o1.elim)
/-- any source -/
def iAny (P : Program) (w : World) (K : PySem.W.Frag) (te : TE) : TI := fun σ H R => iKeysN P w te σ H R ∨ iSeq K te σ H R
theorem pi_any {X : Cx} {tg e : Expr} {te : TE} (he : PE X e te) : PI X tg e (iAny X.prog X.w X.K te) := PI.or (pi_keysN he) (pi_seq he)
def mAnyI (ma : ME) : MI := fun ρ h => (ma ρ h).bind fun v h1 => match v with
  | .vd ks _ => .ok (.vals ks) h1
  | v => match itOf h1 v with
    | some it => .ok it h1
    | none => .bad
theorem si_any (ha : SE S E ta ma) : SI S E (iAny S.P S.w S.K ta) (mAnyI ma) := fun F ι h H ρ σ Q rp rs o => by
  cases hm : ma ρ h with
  | bad =>
    simp only [mAnyI, hm, R.bind] at o
    exact o.elim
  | er c h' =>
    refine .inr (si_seq ha F ι h H ρ σ Q rp rs ?_)
    simp only [mSeqI, mAnyI, hm, R.bind] at o ⊢
    exact o
  | ok v h1 =>
    by_cases d : ∃ ks vs, v = .vd ks vs
    · obtain ⟨ks, vs, rfl⟩ := d
      refine .inl (si_keysN ha F ι h H ρ σ Q rp rs ?_)
      simp only [mKeysI, mAnyI, hm, R.bind] at o ⊢
      exact o
    · refine .inr (si_seq ha F ι h H ρ σ Q rp rs ?_)
      simp only [mSeqI, mAnyI, hm, R.bind] at o ⊢
      split at o
      · exact absurd ⟨_, _, rfl⟩ d
      · exact o
end
end Rm
namespace Rm
open PySem PySem.Spec PyProof.Rows L2 RZ PpSet
/-! ### dicts by a comprehension -/
def dcM (it : Itr) (g : MG) (mt : MT) (mk mv : ME) (ρ : Rho) : Nat → Nat → List LO → List LV → List LV → R LV
  | 0, _, _, _, _ => .bad
  | n + 1, i, h, ks, vs => match it.at i h with
    | some (some x) => (g x ρ h).safe.bind fun ρ1 h1 => (mt ρ1 h1).safe.bind fun b h2 => if b = true then (mk ρ1 h2).safe.bind fun k h3 => (mv ρ1 h3).safe.bind fun v h4 => match k with
        | .tup ts => if kfit (.tup ts) 8 = true then (if kix (.tup ts) ks < ks.length then dcM it g mt mk mv ρ n (i + 1) h4 ks (vs.set (kix (.tup ts) ks) v) else dcM it g mt mk mv ρ n (i + 1) h4 (ks ++ [.tup ts]) (vs ++ [v])) else .bad
        | _ => .bad
      else dcM it g mt mk mv ρ n (i + 1) h2 ks vs
    | some none => .ok (.vd ks vs) h
    | none => .bad
def mDc (mi : MI) (g : MG) (mt : MT) (mk mv : ME) (vs : List Nat) : ME := fun ρ h => (mi ρ h).bind fun it h1 => dcM it g mt mk mv (wipeR ρ vs) 50000 0 h1 [] []
section
variable {S : Se} {E : XK} {tk tv : TE} {mk mv : ME} {tt : TT} {mt : MT} {g : TG} {mg : MG} {wi : TI} {mi : MI}
structure Dc (S : Se) (F1 : Addr → Prop) (ι1 : List Addr) (H1 : Hp) (D : Addr) (F : Addr → Prop) (ι : List Addr) (h : List LO) (H : Hp) (ks vs : List LV) (i : Nat) : Prop where
  ex : EX S.toSg F1 ι1 H1 F ι H
  rp : Rep S.toSg F ι h H
  FD : F D
  nD : D ∉ ι
  at' : ∃ o kas xs, H D = some (.ext (dvF S.P S.w D o kas xs)) ∧ keysOk kas xs ∧ LV.keys ks = some (kas.map (·.1)) ∧ RVs S.toSg F ι H ks (kas.map fun k => V.ref k.2) ∧ RVs S.toSg F ι H vs xs
  le : ks.length ≤ i
theorem Dc.step {F1 F F2 : Addr → Prop} {ι1 ι ι2 : List Addr} {H1 H H2 : Hp} {D : Addr} {h h2 : List LO} {ks vs : List LV} {i : Nat} (L : Dc S F1 ι1 H1 D F ι h H ks vs i) (e : EX S.toSg F ι H F2 ι2 H2) (r : Rep S.toSg F2 ι2 h2 H2) : Dc S F1 ι1 H1 D F2 ι2 h2 H2 ks vs i := by
  obtain ⟨o, kas, xs, q, c, d, z1, z2⟩ := L.at'
  obtain ⟨s1, s2⟩ := stays e L.nD q
  exact ⟨L.ex.trans e, r, e.more _ L.FD, s2, ⟨o, kas, xs, s1, c, d, z1.ext L.rp e, z2.ext L.rp e⟩, L.le⟩
/-- another dict at D -/
theorem Dc.put {F1 F : Addr → Prop} {ι1 ι : List Addr} {H1 H : Hp} {D : Addr} {h : List LO} {ks vs ks' vs' : List LV} {i j : Nat} {o' : Obj} {kas' : List (NestedKey × Addr)} {xs' : List V} (L : Dc S F1 ι1 H1 D F ι h H ks vs i) (hD : H1 D = none) (c : keysOk kas' xs') (d : LV.keys ks' = some (kas'.map (·.1)))
    (z1 : RVs S.toSg F ι H ks' (kas'.map fun k => V.ref k.2)) (z2 : RVs S.toSg F ι H vs' xs') (le : ks'.length ≤ j) : Dc S F1 ι1 H1 D F ι h (upd H D (.ext (dvF S.P S.w D o' kas' xs'))) ks' vs' j := by
  obtain ⟨o, kas, xs, q, _, _, _, _⟩ := L.at'
  have keepT : ∀ a us, SqT S.K H a us → SqT S.K (upd H D (.ext (dvF S.P S.w D o' kas' xs'))) a us := fun a us z => by
    rcases z with (z | ⟨w, z⟩) | z
    · exact .inl (.inl (by rw [upd_ne (fun c => by subst c; rw [q] at z; cases z)]; exact z))
    · exact .inl (.inr ⟨w, by rw [upd_ne (fun c => by subst c; rw [q] at z; cases z)]; exact z⟩)
    · exact .inr z
  have fw : Fwd S.toSg F ι H F ι (upd H D (.ext (dvF S.P S.w D o' kas' xs'))) := ⟨keepT, fun a o n z => by rw [upd_ne (fun c => n (by rw [c]; exact L.FD))]; exact z, fun a o us z => by rw [upd_ne (fun c => by subst c; rw [q] at z; cases z)]; exact z, fun _ _ n _ => n, fun _ _ z => z⟩
  refine ⟨⟨fun a us z => keepT a us (L.ex.tup a us z), fun a o n z => by rw [upd_ne (ne_of_none z hD)]; exact L.ex.keep a o n z, L.ex.grow, L.ex.more, L.ex.fresh, fun a z => ?_⟩, ⟨L.rp.len, L.rp.nd, L.rp.inF, fun a z e => ?_, fun i o a q1 q2 => (L.rp.obj i o a q1 q2).fwd fw fun u e => ?_⟩, L.FD, L.nD, ⟨o', kas', xs', upd_same, c, d, z1.fwd fw _ _, z2.fwd fw _ _⟩, le⟩
  · by_cases e : a = D
    · subst e; exact hD
    · rw [upd_ne e] at z; exact L.ex.dom a z
  · by_cases c : a = D
    · subst c; rw [upd_same] at e; cases e
    · rw [upd_ne c] at e; exact L.rp.dom a z e
  · rw [upd_ne (fun c => L.nD (by rw [← c]; exact List.mem_of_getElem? q2))]; exact e
theorem se_dc {vs : List Nat} (hi : SI S E wi mi) (hg : SG S E0 g mg) (gw : GW g vs) (ht : ST S E0 tt mt) (hk : SE S E0 tk mk) (hv : SE S E0 tv mv) : SE S E (tDcN S.P S.w S.K wi g tt tk tv vs) (mDc mi mg mt mk mv vs) := fun F ι h H ρ σ Q rp rs o => by
  refine hi F ι h H ρ σ _ rp rs (Ok.seq (rel := WalkAt S) o fun F1 ι1 H1 h1 it J _ e1 rp1 wk o1 => ?_)
  have rs1 := (rs.ext rp e1).wipe vs
  intro D ob hD low
  obtain ⟨ex0, rp0⟩ := apart (S := S) (u := .ext (dvF S.P S.w D ob [] [])) rp1 hD
  refine ⟨fun i k H => ∃ F ι h ks vals, Dc S F1 ι1 H1 D F ι h H ks vals i ∧ i + k = 50000 ∧ Ok (RV S.toSg) S E F1 ι1 H1 (dcM it mg mt mk mv (wipeR ρ vs) k i h ks vals) Q, ⟨50000, _, ι1, h1, [], [], ⟨ex0, rp0, .inr rfl, fun m => rp1.dom D (rp1.inF D m) hD, ⟨ob, [], [], upd_same, keysOk_nil, rfl, .nil, .nil⟩, Nat.le_refl _⟩, rfl, o1⟩, ?_⟩
  rintro i k H2 ⟨F2, ι2, h2, ks, vals, L, hkk, o2⟩
  cases k with
  | zero => exact o2.elim
  | succ k =>
    have w := wk F2 ι2 h2 H2 i (L.ex.fwd rp1) L.rp
    simp only [dcM] at o2
    split at o2
    · rename_i x hx
      rw [hx] at w
      refine .inr ⟨w.1, fun H' => ∃ F ι h ks vals, Dc S F1 ι1 H1 D F ι h H' ks vals (i + 1) ∧ (i + 1) + k = 50000 ∧ Ok (RV S.toSg) S E F1 ι1 H1 (dcM it mg mt mk mv (wipeR ρ vs) k (i + 1) h ks vals) Q, fun H' w => ⟨k, Nat.lt_succ_self k, w⟩, fun y H' hy => ?_⟩
      obtain ⟨e3, rp3, z3⟩ := w.2 y H' hy
      have L3 := L.step e3 rp3
      have gg := gw y (wipe σ vs) H' (fun σ2 H2 => tt σ2 H2 fun b H3 => if b = true then tk σ2 H3 fun y H4 => tv σ2 H4 fun z H5 => rSetN S.P S.w S.K (.ref D) y z H5 (fun H' => ∃ F ι h ks vals, Dc S F1 ι1 H1 D F ι h H' ks vals (i + 1) ∧ (i + 1) + k = 50000 ∧ Ok (RV S.toSg) S E F1 ι1 H1 (dcM it mg mt mk mv (wipeR ρ vs) k (i + 1) h ks vals) Q)
        else (∃ F ι h ks vals, Dc S F1 ι1 H1 D F ι h H3 ks vals (i + 1) ∧ (i + 1) + k = 50000 ∧ Ok (RV S.toSg) S E F1 ι1 H1 (dcM it mg mt mk mv (wipeR ρ vs) k (i + 1) h ks vals) Q))
      rw [wipe_wipe] at gg
      refine gg ?_
      have rs3 := ((rs1.ext rp1 L.ex).ext L.rp e3)
      refine hg F2 ι2 h2 H' (wipeR ρ vs) (wipe σ vs) x y _ rp3 rs3 z3 (Ok.seqB (rel := RS S) o2 fun F4 ι4 H4 h4 ρ4 σ4 _ e4 rp4 rs4 o4 => ?_)
      have L4 := L3.step e4 rp4
      refine ht F4 ι4 h4 H4 ρ4 σ4 _ rp4 rs4 (Ok.seqB (rel := eqB) o4 fun F5 ι5 H5 h5 b b' _ e5 rp5 zb o5 => ?_)
      cases zb
      have L5 := L4.step e5 rp5
      have rs5 := rs4.ext rp4 e5
      cases b with
      | false => exact ⟨F5, ι5, h5, ks, vals, ⟨L5.ex, L5.rp, L5.FD, L5.nD, L5.at', Nat.le_succ_of_le L5.le⟩, by omega, o5⟩
      | true =>
        refine hk F5 ι5 h5 H5 ρ4 σ4 _ rp5 rs5 (Ok.seqB (rel := RV S.toSg) o5 fun F6 ι6 H6 h6 kl kv _ e6 rp6 zk o6 => ?_)
        have L6 := L5.step e6 rp6
        refine hv F6 ι6 h6 H6 ρ4 σ4 _ rp6 (rs5.ext rp5 e6) (Ok.seqB (rel := RV S.toSg) o6 fun F7 ι7 H7 h7 vl vv _ e7 rp7 zv o7 => ?_)
        have L7 := L6.step e7 rp7
        obtain ⟨o, kas, xs, q, c, d, z1, z2⟩ := L7.at'
        have hlen : ks.length = kas.length := by have := z1.length; rw [List.length_map] at this; exact this
        split at o7
        · rename_i ts hmk
          split at o7
          · rename_i hf
            obtain ⟨kk, k1, k2⟩ := kfit_of _ _ hf
            have zk2 := zk.ext rp6 e7
            have nk := nk_of _ _ _ zk2 k1
            have le := L7.le
            cases zk2 with
            | @tup b _ _ t1 t2 =>
              refine ⟨D, b, o, kas, xs, kk, rfl, rfl, ⟨q, low, c, fun p hp => nk_pick (nks_of ks _ _ z1 d) hp⟩, nk, k2, by omega, ?_⟩
              split at o7
              · rename_i lt
                exact .inr ⟨kix (.tup ts) ks, (kix_of k1 d).1 lt, fun o' => ⟨F7, ι7, h7, ks, _, L7.put hD ⟨c.1, by rw [List.length_set]; exact c.2.1, c.2.2⟩ d z1 (RVs.set zv _ z2) (Nat.le_succ_of_le le), by omega, o7⟩⟩
              · rename_i lt
                have nin := (kix_of k1 d).2 lt
                refine .inl ⟨nin, fun o' => ⟨F7, ι7, h7, _, _, L7.put hD (keysOk_app c nin k2 (by omega)) ?_ ?_ (z2.append (.cons zv .nil)) (by rw [List.length_append]; exact Nat.succ_le_succ le), by omega, o7⟩⟩
                · rw [List.map_append]
                  exact keys_app d k1
                · rw [List.map_append]
                  exact z1.append (.cons (.tup t1 t2) .nil)
          · exact o7.elim
        · exact o7.elim
    · rename_i hx
      rw [hx] at w
      refine .inl ⟨w, ?_⟩
      obtain ⟨o, kas, xs, q, c, d, z1, z2⟩ := L.at'
      have n1 : ∀ a, F1 a → a ≠ D := fun a z c => rp1.dom a z (by rw [c]; exact hD)
      have fw : Fwd S.toSg F2 ι2 H2 (fun a => F2 a ∧ a ≠ D) ι2 H2 := ⟨fun _ _ q => q, fun _ _ _ q => q, fun _ _ _ q => q, fun _ _ n _ z => n z.1, fun _ _ q => q⟩
      refine o2 (fun a => F2 a ∧ a ≠ D) ι2 H2 (.ref D) ⟨L.ex.tup, L.ex.keep, L.ex.grow, fun a z => ⟨L.ex.more a z, n1 a z⟩, fun a z n => L.ex.fresh a z.1 n, L.ex.dom⟩ ?_ (.vd q (fun z => z.2 rfl) low c d (z1.fwd fw _ _) (z2.fwd fw _ _))
      exact ⟨L.rp.len, L.rp.nd, fun a m => ⟨L.rp.inF a m, fun c => L.nD (by rw [← c]; exact m)⟩, fun a z => L.rp.dom a z.1, fun j o a q1 q2 => (L.rp.obj j o a q1 q2).fwd fw fun _ q => q⟩
    · exact o2.elim
end
end Rm
namespace Rm
open PySem PySem.Spec PyProof.Rows L2
section
variable {X : Cx} {pins : List (Addr × Obj)} {σ : L2.St} {H : Hp} {s : Shared}
/-- a local name is stored, and the very value is known behind it -/
theorem raw_store {M : Model} {A : Around} {E : Value → Shared → Prop} {i : Nat} {x : Str} {v : V} {u : Value} {Q : Unit → Shared → Prop} {m : Str → Option Value} (I : Inv X pins σ H s) (hm : s.heap.Ns X.env.locals m)
    (hN : X.N.Nodup) (hi : X.N[i]? = some x) (hk : X.env.scope.names.lookup x = some .local) (r : RelV v u)
    (h : ∀ s', Inv X pins (σ.set i (some v)) H s' → s'.heap.Ns X.env.locals (fun y => if y = x then some u else m y) → Q () s') : wpAny M A (storeName X.env x u) Q E s := by
  have knd : (X.env.scope.kind == .class || (X.env.scope.kind == .module && X.env.locals != X.env.globals)) = false := by
    rw [I.ok.kind]
    rfl
  refine wpAny_storeName_local hk hm (fun g hg hs => h _ ?_ hg) knd
  have far : ∀ b, b ≠ X.env.locals → ∀ o, s.heap.get? b = some o → g.get? b = some o := fun b n o e => (hs.2 b n).trans e
  have low : ∀ b o, X.s_0.heap.get? b = some o → b ≠ X.env.locals := fun b o e z => by
    subst z
    exact absurd (Nat.lt_of_lt_of_le (Heap.lt_size e) I.ok.above) (Nat.lt_irrefl _)
  have hsz : i < σ.length := by
    rw [I.len]
    exact (List.getElem?_eq_some_iff.mp hi).1
  obtain ⟨m0, hn0, hl0⟩ := I.loc
  have same : ∀ y, m0 y = m y := fun y => by
    obtain ⟨o1, es1, ep1, a1, a2, a3, a4⟩ := hn0
    obtain ⟨o2, es2, ep2, b1, b2, b3, b4⟩ := hm
    rw [a1] at b1
    have eo := Option.some.inj b1
    subst eo
    rw [a2] at b2
    injection b2 with b2 _
    subst b2
    exact (a4 y).symm.trans (b4 y)
  constructor
  · exact I.ok
  · exact I.os
  · exact I.bare
  · have B := I.base
    constructor
    · intro b o e n z1 z2
      exact far b (low b o e) o (B.keep b o e n z1 z2)
    · intro b o e n z1 z2
      obtain ⟨sl, w⟩ := B.slot b o e n z1 z2
      exact ⟨sl, far b (low b o e) _ w⟩
    · exact B.free
    · intro b o e z2
      obtain ⟨o', w⟩ := B.there b o e z2
      exact ⟨o', far b (low b o e) _ w⟩
    · exact B.tups
    · exact B.frzs
    · exact B.tbls
  · refine ⟨_, hg, fun j y w gj gw gv => ?_⟩
    by_cases hj : j = i
    · subst hj
      rw [hi] at gj
      have ey := Option.some.inj gj
      subst ey
      rw [List.getElem?_set_self hsz] at gw
      have ew := Option.some.inj (Option.some.inj gw)
      subst ew
      exact ⟨u, r, Or.inl ⟨hk, if_pos rfl⟩⟩
    · have gw' : σ[j]? = some (some w) := by
        rw [List.getElem?_set_ne (fun z => hj z.symm)] at gw
        exact gw
      obtain ⟨u', r', q⟩ := hl0 j y w gj gw' gv
      refine ⟨u', r', ?_⟩
      rcases q with ⟨k, e⟩ | ⟨k, c, e, z⟩
      · have nyx : y ≠ x := fun e' => hj (nodup_ix hN gj (e' ▸ hi))
        refine Or.inl ⟨k, ?_⟩
        show (if y = x then some u else m y) = some u'
        rw [if_neg nyx, ← same y]
        exact e
      · exact Or.inr ⟨k, c, e, z.sameBut hs (I.cne y c e)⟩
  · intro y c e
    obtain ⟨w, z⟩ := I.cell y c e
    exact ⟨w, z.sameBut hs (I.cne y c e)⟩
  · exact I.free
  · exact I.freeC
  · intro p hp
    obtain ⟨e, n, ne, rest⟩ := I.pin p hp
    exact ⟨far p.1 ne p.2 e, n, ne, rest⟩
  · intro b ob e
    have fr := I.free
    refine (I.hok b ob e).stay (fun c w hc q => far c ?_ w q) (fun _ q => q) (fun _ _ q => q)
    intro z
    rw [z] at hc
    rcases hc with hc | hc
    · rw [hc, e] at fr
      exact nomatch fr
    · rw [fr] at hc
      exact nomatch hc
  · rw [List.length_set]
    exact I.len
end
end Rm
namespace Rm
open PySem PySem.Spec PyProof.Rows L2
/-- the target and the body together -/
abbrev TJ := V → TS
structure PJ (X : Cx) (tg : Expr) (body : List Stmt) (gb : TJ) : Prop where
  run : ∀ (pins : List (Addr × Obj)) (s : Shared) (σ : L2.St) (H : Hp) (x : V) (u : Value) (D : Ends), Inv X pins σ H s → RelV x u → gb x D σ H →
    wpAny (model X.prog X.w) X.A (assign tg X.env u) (fun _ s' => wpAny (model X.prog X.w) X.A (execs body X.env) (SP X pins D) X.xe s') X.xe s
def tForJ (wi : TI) (gb : TJ) : TS := fun D σ H => wi σ H fun J H1 => ∃ W : Nat → Nat → L2.St → Hp → Prop, (∃ m, W 0 m σ H1) ∧ ∀ i m σ H, W i m σ H →
  (J.stop i H ∧ D.nx σ H) ∨ (J.go i H ∧ ∃ N : L2.St → Hp → Prop, (∀ σ' H', N σ' H' → ∃ m', m' < m ∧ W (i + 1) m' σ' H') ∧ ∀ x H', J.yld i H x H' → gb x { D with nx := N, ct := N, bk := D.nx } σ H')
theorem ps_forJ {X : Cx} {tg iter : Expr} {body : List Stmt} {wi : TI} {gb : TJ} {pos : Pos} (own : PassesOwn (model X.prog X.w) X.A X.env X.xe) (calm : X.calm = true) (walked : PI X tg iter wi) (joint : PJ X tg body gb)
    (folded : ∀ x, foldedSetIterable iter X.env x = pure x := by intro _; rfl) : PS X (.For tg iter body [] pos) (tForJ wi gb) := by
  constructor
  intro pins s σ H D I rd
  refine wpAny_For (thn (walked.run pins s σ H _ I rd) ?_) folded
  intro v s1 h1
  refine thn h1 ?_
  rintro itv s2 ⟨it, fp, tn, J, H2, rfl, I2, T, at0, own2, W, ⟨m0, w0⟩, turn⟩
  have quiet : ∀ {G : Hp}, (∀ b ∈ fp, G b = none) → ∀ b ∈ fp, FpOk X pins G b := fun hn b hb => ⟨hn b hb, (own2 b hb).2⟩
  refine codeAny_forLoop_any (fun n s' => ∃ i σ' H', Inv X pins σ' H' s' ∧ tn i s'.heap ∧ (∀ b ∈ fp, H' b = none) ∧ W i n σ' H') ?_ m0 ⟨0, σ, H2, I2, at0, (fun b hb => (own2 b hb).1), w0⟩
  rintro n s3 ⟨i, σ3, H3, I3, at3, fr3, w3⟩
  rcases turn i n σ3 H3 w3 with ⟨stop, qn⟩ | ⟨goes, N, hN, each⟩
  · refine wpAny_passesOwn own (thn (T.done X rfl rfl rfl calm i pins s3 σ3 H3 X.xe I3 (quiet fr3) at3 stop) ?_)
    rintro r s4 ⟨rfl, I4⟩
    exact wpAny_execs_nil ⟨σ3, H3, I4, qn⟩
  · refine wpAny_passesOwn own (thn (T.item X rfl rfl rfl calm i pins s3 σ3 H3 X.xe I3 (quiet fr3) at3 goes) ?_)
    rintro r s4 ⟨u, rfl, h4⟩
    refine wpAny_passesOwn own (thn h4 ?_)
    rintro _ s5 ⟨x, H5, I5, r5, y5, at5, fr5⟩
    have I5p := I5.pinned (quiet fr5) (T.obj _ _ at5)
    refine wpAny_passesOwn own (thn (joint.run _ s5 σ3 H5 x u _ I5p r5 (each x H5 y5)) ?_)
    intro _ s6 h6
    refine wpAny_passesOwn own (thn h6 ?_)
    intro f s7 q7
    have again : ∀ {σ7 : L2.St} {H7 : Hp}, Inv X (pins ++ pinsAt fp s5.heap) σ7 H7 s7 → N σ7 H7 → ∃ m, m < n ∧ ∃ i σ' H', Inv X pins σ' H' s7 ∧ tn i s7.heap ∧ (∀ b ∈ fp, H' b = none) ∧ W i m σ' H' := by
      intro σ7 H7 I7 n7
      obtain ⟨m', lt, w7⟩ := hN σ7 H7 n7
      have pinned : ∀ b ∈ fp, ∀ o, s5.heap.get? b = some o → s7.heap.get? b = some o ∧ H7 b = none := fun b hb o e => by
        have z := I7.pin (b, o) (List.mem_append_right _ (List.mem_append_right _ (mem_pinsAt hb e)))
        exact ⟨z.1, z.2.1⟩
      refine ⟨m', lt, i + 1, σ7, H7, I7.unpinned, T.keep _ _ _ at5 (fun b hb o e => (pinned b hb o e).1), ?_, w7⟩
      intro b hb
      obtain ⟨o, e, _⟩ := T.obj _ _ at5 b hb
      exact (pinned b hb o e).2
    match f, q7 with
    | .next, ⟨_, _, I7, n7⟩ => exact again I7 n7
    | .cont, ⟨_, _, I7, n7⟩ => exact again I7 n7
    | .brk, ⟨σ7, H7, I7, q⟩ => exact ⟨σ7, H7, I7.unpinned, q⟩
    | .ret _, ⟨x7, σ7, H7, I7, r7, q⟩ => exact ⟨x7, σ7, H7, I7.unpinned, r7, q⟩
/-- a written pair of two texts whose objects differ -/
def KPair (K : PySem.W.Frag) (p : Addr) (y z : Str) : Prop :=
  ∃ (dd : Option Addr) (t u : Tok) (n : Nat) (sl : Array (Option Value)), K.lookup p = some ⟨.type "tuple", dd, .seq #[.str y t, .str z u] n, sl⟩ ∧ t ≠ 0 ∧ u ≠ 0 ∧ t ≠ u ∧ (y == z) = false
/-- old, new = the pair; text = text.replace(old, new) -/
def gRepl (K : PySem.W.Frag) (io jo tx : Nat) : TJ := fun v D σ H => ∃ p y z a, v = .ref p ∧ KPair K p y z ∧ σ[tx]? = some (some (.str a)) ∧ a.length + (a.length + 1) * z.length ≤ 16777216 ∧
  D.nx (((σ.set io (some (.str y))).set jo (some (.str z))).set tx (some (.str (Txt.replace a y z)))) H
theorem pj_repl {X : Cx} {io jo tx : Nat} {ox nx tn : Str} {po pn tp p1 p2 ap q1 q2 cp sp : Pos} {k : Nat} (calm : X.calm = true) (nd : X.N.Nodup) (h1 : X.N[io]? = some ox) (h2 : X.N[jo]? = some nx) (h3 : X.N[tx]? = some tn)
    (l1 : X.env.scope.names.lookup ox = some .local) (l2 : X.env.scope.names.lookup nx = some .local) (l3 : X.env.scope.names.lookup tn = some .local) (ne : nx ≠ ox) (n1 : tx ≠ io) (n2 : tx ≠ jo)
    (d1 : (ox == ("__debug__" : Str)) = false := by decide) (d2 : (nx == ("__debug__" : Str)) = false := by decide) (d3 : (tn == ("__debug__" : Str)) = false := by decide) (d4 : (tn == ("__classdict__" : Str)) = false := by decide)
    (hlen : (assignEach [.Name ox po, .Name nx pn] X.env).length = 2 := by rfl) (hst : (assignEach [.Name ox po, .Name nx pn] X.env).findIdx? (·.1) = none := by rfl)
    (hmp : (assignEach [.Name ox po, .Name nx pn] X.env).map (·.2) = [assign (.Name ox po) X.env, assign (.Name nx pn) X.env] := by rfl)
    (hbase : attributeBase (.Name tn p2) "replace" X.env (eval (.Name tn p2) X.env) = eval (.Name tn p2) X.env := by rfl)
    (hargs : starEach [.Name ox q1, .Name nx q2] X.env = [(false, eval (.Name ox q1) X.env), (false, eval (.Name nx q2) X.env)] := by rfl) (hline : (ap.endLine == cp.line) = true := by rfl)
    (hsw : swapsWith (.Call (.Attribute (.Name tn p2) "replace" ap) [.Name ox q1, .Name nx q2] [] cp) (some (.Name tn p1)) sp.line X.env = pure false := by rfl) :
    PJ X (.Tuple [.Name ox po, .Name nx pn] k tp) [.Assign [.Name tn p1] (.Call (.Attribute (.Name tn p2) "replace" ap) [.Name ox q1, .Name nx q2] [] cp) sp] (gRepl X.K io jo tx) := by
  constructor
  rintro pins s σ H v u D I r ⟨p, y, z, a, rfl, ⟨dd, t, w, n, sl, hK, t0, w0, tw, yz⟩, ha, hb, q⟩
  obtain rfl : u = Value.ref p := r
  have hT : IsTup s.heap p #[.str y t, .str z w] := ⟨_, I.kIn _ _ hK, rfl, n, rfl⟩
  refine assign_Tuple_tuple (I.ok.hd calm) hT hlen hst ?_
  intro g hg
  have I1 : Inv X pins σ H { s with heap := g } := I.kept (t' := s.toks) fun b o e => hg b o (Nat.ne_of_lt (Heap.lt_size e)) e
  rw [hmp]
  obtain ⟨m, hm, _⟩ := I1.loc
  refine assignInOrder_cons (wpAny_assign_Name (raw_store I1 hm nd h1 l1 (v := .str y) ⟨t, rfl⟩ ?_))
  intro s2 I2 hm2
  refine assignInOrder_cons (wpAny_assign_Name (raw_store I2 hm2 nd h2 l2 (v := .str z) ⟨w, rfl⟩ ?_))
  intro s3 I3 hm3
  refine assignInOrder_nil ?_
  have gx : ((σ.set io (some (.str y))).set jo (some (.str z)))[tx]? = some (some (.str a)) := by
    rw [List.getElem?_set_ne (fun e => n2 e.symm), List.getElem?_set_ne (fun e => n1 e.symm)]
    exact ha
  refine wpAny_execs_cons (wpAny_Assign_Name (PySem.Call_method2 hbase hargs hline (raw_name h3 (.inl l3) I3 gx ?_ d3 d4)) hsw)
  · rintro tv ⟨ta, rfl⟩
    refine ⟨"str", _, PySem.F.plainAttrs_str, PySem.F.slot_str_replace, PySem.F.type_str_replace, typeIs_str _ _ _, (fun _ e => nomatch e), Calls.callWith_builtin rfl (Calls.evalArgs_plain (Calls.spliced_cons ?_))⟩
    refine wpAny_Name (wpAny_loadName_local I3.ok.kind l1 hm3 (by rw [if_neg ne.symm, if_pos rfl]) ?_) d1
    refine Calls.spliced_cons (wpAny_Name (wpAny_loadName_local I3.ok.kind l2 hm3 (if_pos rfl) ?_) d2)
    refine Calls.spliced_nil (PySem.SC.replace t0 w0 tw yz hb ?_)
    intro t' k'
    refine store_ok (I3.tok k') nd h3 (.inl l3) (v := .str (Txt.replace a y z)) ⟨t', rfl⟩ ?_ (.inr l3)
    intro s4 I4
    exact wpAny_execs_nil ⟨_, H, I4, q⟩
end Rm
namespace Rm
open PySem PySem.Spec PyProof.Rows L2 RZ PpSet
open PySem.StrLaws (replL)
theorem replace_ofl {x y z : List Nat} (h : 1 ≤ y.length) : Txt.replace (⟨x.toArray⟩ : Str) ⟨y.toArray⟩ ⟨z.toArray⟩ = ⟨(replL y z x).toArray⟩ := by
  have e := PySem.StrLaws.replace_list (x := ⟨x.toArray⟩) (y := ⟨y.toArray⟩) (z := ⟨z.toArray⟩) (by rw [ofl_len]; exact h)
  have e2 : (Txt.replace (⟨x.toArray⟩ : Str) ⟨y.toArray⟩ ⟨z.toArray⟩).cps = (replL y z x).toArray := by
    rw [← Array.toArray_toList (xs := (Txt.replace (⟨x.toArray⟩ : Str) ⟨y.toArray⟩ ⟨z.toArray⟩).cps), e]
  show _ = (⟨(replL y z x).toArray⟩ : Str)
  rw [← e2]
/-! ### for old, new in table[word]: text = text.replace(old, new) -/
abbrev RT := List (List Nat × List (List Nat × List Nat))
structure RTab (S : Sg) (p : Addr) (t : RT) : Prop where
  ok : ∀ k ps, t.lookup k = some ps → ∃ (tR : Addr) (as : List Addr), KDct S.K S.w p ⟨k.toArray⟩ (.ref tR) ∧ (∀ H, SqT S.K H tR (as.map V.ref)) ∧ as.length = ps.length ∧
    ∀ (i : Nat) (a : Addr) (q : List Nat × List Nat), as[i]? = some a → ps[i]? = some q → KPair S.K a ⟨q.1.toArray⟩ ⟨q.2.toArray⟩ ∧ 1 ≤ q.1.length
def replM : List (List Nat × List Nat) → List Nat → Option (List Nat)
  | [], a => some a
  | q :: qs, a => if a.length ≤ 160000 ∧ q.2.length ≤ 100 then replM qs (replL q.1 q.2 a) else none
def mRepl (t : RT) (iw io jo tx : Nat) : MS := fun ρ h => match ρ[iw]? with
  | some (some (.str k)) => match ρ[tx]? with
    | some (some (.str a)) => match t.lookup k with
      | some ps => match replM ps a with
        | some b => .ok (.nx, ((ρ.set io none).set jo none).set tx (some (.str b))) h
        | none => .bad
      | none => .bad
    | _ => .bad
  | _ => .bad
theorem RS.forget {S : Se} {F : Addr → Prop} {ι : List Addr} {H : Hp} {ρ : Rho} {σ : L2.St} (s : RS S F ι H ρ σ) (i : Nat) (o : Option V) : RS S F ι H (ρ.set i none) (σ.set i o) := by
  refine ⟨by rw [List.length_set, List.length_set]; exact s.len, fun j w q => ?_⟩
  by_cases e : j = i
  · subst e
    have hl : j < ρ.length := by have := (List.getElem?_eq_some_iff.mp q).1; rw [List.length_set] at this; exact this
    rw [List.getElem?_set_self hl] at q
    cases q
  · rw [List.getElem?_set_ne (Ne.symm e)] at q
    rw [List.getElem?_set_ne (Ne.symm e)]
    exact s.get j w q
theorem set_set_ne {α : Type} (l : List α) {i j : Nat} (h : i ≠ j) (a b : α) : (l.set i a).set j b = (l.set j b).set i a := List.set_comm a b h
theorem ss_repl {S : Se} {E : XK} {p : Addr} {t : RT} {iw io jo tx : Nat} (T : RTab S.toSg p t) (n1 : tx ≠ io) (n2 : tx ≠ jo) (n3 : io ≠ jo) (n4 : iw ≠ tx) : SS S E (tForJ (iTup S.K (tOp (rIxD S.K S.w) (tC (.ref p)) (tVar iw))) (gRepl S.K io jo tx)) (mRepl t iw io jo tx) := fun F ι h H ρ σ D rp rs o => by
  unfold mRepl at o
  split at o
  · rename_i k hk
    split at o
    · rename_i a0 ha0
      split at o
      · rename_i ps hps
        split at o
        · rename_i b hb
          obtain ⟨kx, hkx, zk⟩ := rs.get iw _ hk
          cases zk
          obtain ⟨ax, hax, za⟩ := rs.get tx _ ha0
          cases za
          obtain ⟨tR, as, hd, hT, hlen, hpair⟩ := T.ok k ps hps
          have ltx : tx < ρ.length := (List.getElem?_eq_some_iff.mp ha0).1
          refine ⟨_, hkx, p, _, .ref tR, rfl, rfl, hd, tR, rfl, ⟨_, hT H⟩, fun i m σ' H' => H' = H ∧ i + m = as.length + 1 ∧ i ≤ as.length ∧ ∃ c, replM (ps.drop i) c = some b ∧ RS S F ι H (((ρ.set io none).set jo none).set tx (some (.str c))) σ', ⟨as.length + 1, rfl, by omega, Nat.zero_le _, a0, hb, ?_⟩, ?_⟩
          · have r1 := (rs.forget io (σ[io]?.getD none)).forget jo ((σ.set io (σ[io]?.getD none))[jo]?.getD none)
            have e1 : ∀ (l : L2.St) (i : Nat), l.set i (l[i]?.getD none) = l := fun l i => by
              by_cases hi : i < l.length
              · rw [List.getElem?_eq_getElem hi]
                exact List.set_getElem_self hi
              · exact List.set_eq_of_length_le (Nat.le_of_not_lt hi)
            rw [e1 (σ.set io _) jo, e1 σ io] at r1
            refine ⟨by rw [List.length_set]; exact r1.len, fun j w q => ?_⟩
            by_cases e : j = tx
            · subst e
              rw [List.getElem?_set_self (by simpa using ltx)] at q
              cases q
              exact ⟨_, hax, .str _⟩
            · rw [List.getElem?_set_ne (Ne.symm e)] at q
              exact r1.get j w q
          · rintro i m σ' H' ⟨rfl, him, hi, c, hc, rs'⟩
            by_cases lt : i < as.length
            · have hp1 : as[i]? = some as[i] := List.getElem?_eq_getElem lt
              have hp2 : ps[i]? = some (ps[i]'(by omega)) := List.getElem?_eq_getElem (by omega)
              refine .inr ⟨⟨_, .ref as[i], hT H', by rw [List.getElem?_map, hp1]; rfl⟩, fun σ2 H2 => H2 = H' ∧ (i + 1) + (m - 1) = as.length + 1 ∧ i + 1 ≤ as.length ∧ ∃ c, replM (ps.drop (i + 1)) c = some b ∧ RS S F ι H' (((ρ.set io none).set jo none).set tx (some (.str c))) σ2, fun σ2 H2 w => ⟨m - 1, by omega, w⟩, fun x H2 hy => ?_⟩
              obtain ⟨rfl, hy⟩ := hy
              have := hy _ (hT H2)
              rw [List.getElem?_map, hp1] at this
              cases this
              obtain ⟨kp, one⟩ := hpair i _ _ hp1 hp2
              rw [List.drop_eq_getElem_cons (by omega : i < ps.length)] at hc
              generalize ps[i]'(by omega) = pr at hc kp one
              simp only [replM] at hc
              split at hc
              · rename_i hz
                obtain ⟨cx, hcx, zc⟩ := rs'.get tx (.str c) (by rw [List.getElem?_set_self (by simpa using ltx)])
                cases zc
                have hm : (c.length + 1) * pr.2.length ≤ 160001 * 100 := Nat.mul_le_mul (by omega) hz.2
                refine ⟨as[i], _, _, _, rfl, kp, hcx, by rw [ofl_len, ofl_len]; omega, rfl, by omega, lt, _, hc, ?_⟩
                rw [replace_ofl one]
                have r2 := (((rs'.forget io (some (.str ⟨pr.1.toArray⟩))).forget jo (some (.str ⟨pr.2.toArray⟩))).set (RV.str (replL pr.1 pr.2 c)) tx)
                have e : ((((((ρ.set io none).set jo none).set tx (some (LV.str c))).set io none).set jo none).set tx (some (LV.str (replL pr.1 pr.2 c)))) = ((ρ.set io none).set jo none).set tx (some (LV.str (replL pr.1 pr.2 c))) := by
                  rw [set_set_ne _ n1, set_set_ne _ n2, List.set_set, set_set_ne (ρ.set io none) (Ne.symm n3), List.set_set, List.set_set]
                rw [e] at r2
                exact r2
              · cases hc
            · have e : i = as.length := by omega
              subst e
              rw [List.drop_eq_nil_of_le (by omega)] at hc
              cases hc
              exact .inl ⟨⟨_, hT H', by rw [List.length_map]; exact Nat.le_refl _⟩, Ok.now (rel := relF S) (v := (Fl.nx, _)) (x := FV.nx σ') o rp rs'⟩
        · exact o.elim
      · exact o.elim
    · exact o.elim
  · exact o.elim
end Rm
namespace Rm
open PySem PySem.Spec PyProof.Rows L2 RZ PpSet
/-! ### truth, texts -/
def truL (h : List LO) : LV → Option Bool
  | .non => some false
  | .bl b => some b
  | .int i => some (i != 0)
  | .str x => if x.length ≤ 60000 then some (((x.length : Nat) : Int) != 0) else none
  | v => match v.seq h with
    | some xs => some (!xs.isEmpty)
    | none => none
def mTru (ma : ME) : MT := fun ρ h => (ma ρ h).bind fun v h1 => match truL h1 v with
  | some b => .ok b h1
  | none => .bad
def tTruV (K : PySem.W.Frag) (ta : TE) : TT := fun σ H Q => ta σ H fun x H' => ∃ k, TruV K x H' k ∧ Q k H'
theorem pt_tru {X : Cx} {a : Expr} {ta : TE} (ha : PE X a ta) (he : ∀ whole, isTrue a X.env whole = (do let v ← whole; standAt a.pos; holding [v] (truthy v)) := by intro _; rfl) : PT X a (tTruV X.K ta) := pt_truth ha he
theorem empty_of {S : Sg} {F : Addr → Prop} {ι : List Addr} {H : Hp} {xs : List LV} {vs : List V} (z : RVs S F ι H xs vs) : xs.isEmpty = vs.isEmpty := by
  cases z <;> rfl
section
variable {S : Se} {E : XK} {ta : TE} {ma : ME}
theorem st_tru (ha : SE S E ta ma) : ST S E (tTruV S.K ta) (mTru ma) := fun F ι h H ρ σ Q rp rs o =>
  ha F ι h H ρ σ _ rp rs (o.seq fun F1 ι1 H1 h1 v x _ e1 rp1 z o1 => by
    split at o1
    · rename_i b e
      refine ⟨b, ?_, Ok.now (rel := eqB) (v := b) o1 rp1 rfl⟩
      have sq : ∀ {w : LV} {y : V}, RV S.toSg F1 ι1 H1 w y → (match w.seq h1 with | some xs => some (!xs.isEmpty) | none => none) = some b → TruV S.K y H1 b := fun {w y} zw ew => by
        split at ew
        · rename_i xs ex
          cases ew
          obtain ⟨a, vs, rfl, hs, zz⟩ := seq_of rp1 zw ex
          rcases hs with hs | hs
          · exact .inl ⟨vs, hs, by rw [empty_of zz]⟩
          · exact .inr (.inl ⟨vs, hs, by rw [empty_of zz]⟩)
        · cases ew
      cases z with
      | non => cases e; rfl
      | bl b => cases e; rfl
      | int i => cases e; rfl
      | str z =>
        simp only [truL] at e
        split at e
        · rename_i hl
          cases e
          exact ⟨le_sz (by rw [ofl_len]; exact hl), by rw [ofl_len]⟩
        · cases e
      | tup a b => exact sq (.tup a b) e
      | vl a b c => exact sq (.vl a b c) e
      | fz a b => exact sq (.fz a b) e
      | vd a b c d e2 g i => exact sq (.vd a b c d e2 g i) e
      | sd a b c d => exact sq (.sd a b c d) e
      | obj a b c d => exact sq (.obj a b c d) e
      | ref a => exact sq (.ref a) e
    · exact o1.elim)
theorem se_strL {x : Str} {l : List Nat} (h : x.cps.toList = l := by decide +kernel) : SE S E (tC (.str x)) (mC (.str l)) := by
  subst h
  exact se_str
theorem hu9 {A : Around} {k : Nat} (hr : Room k A) : A.units + 9 < cLine := by
  have := hr.units
  omega
/-! ### the rules, by the values' own part -/
theorem op_addS {X : Cx} (S : Se)  (hK : X.K = S.K := by rfl) : OpR X (binaryOp .Add) (rAddAll S.K) := by
  rw [← hK]
  exact op_addAll
theorem op_mulS {X : Cx} (S : Se)  (hK : X.K = S.K := by rfl) : OpR X (binaryOp .Mult) (rMulAll S.K) := by
  rw [← hK]
  exact op_mulAll
theorem op_eqS {X : Cx} (S : Se) (hu : X.A.units + 64 < cLine) (hK : X.K = S.K := by rfl) : OpR X (compareOp .Eq) (rEqAll S.K) := by
  rw [← hK]
  exact op_eqAll hu
theorem op_neS {X : Cx} (S : Se) (hu : X.A.units + 64 < cLine) (hK : X.K = S.K := by rfl) : OpR X (compareOp .NotEq) (rNeAll S.K) := by
  rw [← hK]
  exact op_neAll hu
theorem op_inS {X : Cx} (S : Se) (hu : X.A.units + 9 < cLine) (hK : X.K = S.K := by rfl) (hw : X.w = S.w := by rfl) (hP : X.prog = S.P := by rfl) : OpR X (compareOp .In) (rInX S.P S.w S.K) := by
  rw [← hK, ← hw, ← hP]
  exact op_inX hu
theorem op_niS {X : Cx} (S : Se) (hu : X.A.units + 9 < cLine) (hK : X.K = S.K := by rfl) (hw : X.w = S.w := by rfl) (hP : X.prog = S.P := by rfl) : OpR X (compareOp .NotIn) (rNiX S.P S.w S.K) := by
  rw [← hK, ← hw, ← hP]
  exact op_niX hu
theorem op_kdS {X : Cx} (S : Se)  (hK : X.K = S.K := by rfl) (hw : X.w = S.w := by rfl) : OpR X (compareOp .In) (rInK S.K S.w) := by
  rw [← hK, ← hw]
  exact op_in_kd
theorem ix_S {X : Cx} (S : Se) (hu : X.A.units + 9 < cLine) (hK : X.K = S.K := by rfl) (hw : X.w = S.w := by rfl) (hP : X.prog = S.P := by rfl) : IxR X (rIxX S.P S.w S.K) := by
  rw [← hK, ← hw, ← hP]
  exact ix_X hu
theorem ix_kdS {X : Cx} (S : Se)  (hK : X.K = S.K := by rfl) (hw : X.w = S.w := by rfl) : IxR X (rIxD S.K S.w) := by
  rw [← hK, ← hw]
  exact ix_kdict
theorem sl_S {X : Cx} (S : Se)  (hK : X.K = S.K := by rfl) : SlR X (rSlAll S.K) := by
  rw [← hK]
  exact sl_all
theorem call_lenS {X : Cx} (S : Se)  (hK : X.K = S.K := by rfl) : CallR X (.builtin "len") (rLenAll S.K) := by
  rw [← hK]
  exact call_lenAll
theorem call_listS {X : Cx} (S : Se) (hc : X.calm = true) (hK : X.K = S.K := by rfl) (hw : X.w = S.w := by rfl) (hP : X.prog = S.P := by rfl) : CallR X (.type "list") (rListX S.P S.w S.K) := by
  rw [← hK, ← hw, ← hP]
  exact call_listX hc
theorem call_tupS {X : Cx} (S : Se)  (hK : X.K = S.K := by rfl) : CallR X (.type "tuple") (rTupOf S.K) := by
  rw [← hK]
  exact call_tupOf
theorem call_sumS {X : Cx} (S : Se) (hc : X.calm = true) (hK : X.K = S.K := by rfl) : CallR X (.builtin "sum") (rSum S.K) := by
  rw [← hK]
  exact cr_sum hc
theorem call_allS {X : Cx} (S : Se) (hc : X.calm = true) (hK : X.K = S.K := by rfl) : CallR X (.builtin "all") (rAll S.K) := by
  rw [← hK]
  exact cr_all hc
theorem call_anyS {X : Cx} (S : Se) (hc : X.calm = true) (hK : X.K = S.K := by rfl) : CallR X (.builtin "any") (rAny S.K) := by
  rw [← hK]
  exact cr_any hc
theorem call_isiS {X : Cx} (S : Se)  (hK : X.K = S.K := by rfl) : CallR X (.builtin "isinstance") (rIsi S.K) := by
  rw [← hK]
  exact call_isi
theorem set_S {X : Cx} (S : Se) (hu : X.A.units + 9 < cLine) (hK : X.K = S.K := by rfl) (hw : X.w = S.w := by rfl) (hP : X.prog = S.P := by rfl) : PSet X (rSetX S.P S.w S.K) := by
  rw [← hK, ← hw, ← hP]
  exact set_X hu
theorem pt_truS {X : Cx} (S : Se) {a : Expr} {ta : TE} (ha : PE X a ta) (he : ∀ whole, isTrue a X.env whole = (do let v ← whole; standAt a.pos; holding [v] (truthy v)) := by intro _; rfl) (hK : X.K = S.K := by rfl) : PT X a (tTruV S.K ta) := by
  rw [← hK]
  exact pt_tru ha he
theorem pe_fldS {X : Cx} (S : Se) {e : Expr} {f : Str} {ta : TE} {pos : Pos} (he : PE X e ta) (hb : attributeBase e f X.env (eval e X.env) = eval e X.env := by rfl) (hK : X.K = S.K := by rfl) : PE X (.Attribute e f pos) (tFld S.K ta f) := by
  rw [← hK]
  exact pe_fld he hb
theorem pi_anyS {X : Cx} (S : Se) {tg e : Expr} {te : TE} (he : PE X e te) (hK : X.K = S.K := by rfl) (hw : X.w = S.w := by rfl) (hP : X.prog = S.P := by rfl) : PI X tg e (iAny S.P S.w S.K te) := by
  rw [← hK, ← hw, ← hP]
  exact pi_any he
theorem pe_joinS {X : Cx} (S : Se) {o e : Expr} {to te : TE} {apos pos : Pos} (ho : PE X o to) (he : PE X e te) (hs : starEach [e] X.env = [(false, eval e X.env)] := by rfl) (hbase : attributeBase o "join" X.env (eval o X.env) = eval o X.env := by rfl) (hline : (apos.endLine == pos.line) = true := by rfl) (hK : X.K = S.K := by rfl) : PE X (.Call (.Attribute o "join" apos) [e] [] pos) (tM1 (rJoin S.K) to te) := by
  rw [← hK]
  exact pe_join ho he hs hbase hline
theorem pe_newS {X : Cx} (S : Se) {pos : Pos} (hw : X.w = S.w := by rfl) (hP : X.prog = S.P := by rfl) : PE X (.Dict [] [] pos) (tNewN S.P S.w) := by
  rw [← hw, ← hP]
  exact pe_newN
theorem pe_dispS {X : Cx} (S : Se) {e f : Expr} {pos : Pos} {tk tv : TE} (hu : X.A.units + 9 < cLine) (he : PE X e tk) (hf : PE X f tv) (hK : X.K = S.K := by rfl) (hw : X.w = S.w := by rfl) (hP : X.prog = S.P := by rfl) : PE X (.Dict [some e] [f] pos) (tDispN S.P S.w S.K tk tv) := by
  rw [← hK, ← hw, ← hP]
  exact pe_dispN hu he hf
/-! ### what a caller knows of a def -/
structure Cal (S : Se) (mg : Str → Option Value) (base : Heap) (x : Str) (l : Nat) (ps : List Str) (n : Nat) (m : MF) (f : Addr) (fd : FuncData) : Prop where
  ok : FnOk S.P S.w S.K mg base CX0 l f fd ps (spM S n m)
  kp : PySem.W.keepIn S.K (.ref f) = true
  b : Binds S.K fd ps []
  g : mg x = some (.ref f)
structure Met (S : Se) (mg : Str → Option Value) (base : Heap) (C : Nat) (x : Str) (l : Nat) (ps : List Str) (n : Nat) (m : MF) (f : Addr) (fd : FuncData) : Prop where
  ok : FnOk S.P S.w S.K mg base CX0 l f fd ps (spM S n m)
  cl : Cls S.K (S.ct C)
  mt : Meth S.K (S.ct C) x f
  b : Binds S.K fd ps []
  nm : x ∉ S.nm C
structure Mak (S : Se) (mg : Str → Option Value) (base : Heap) (C : Nat) (x : Str) (l : Nat) (ps : List Str) (n : Nat) (m : MF) (f : Addr) (fd : FuncData) (k : Nat) : Prop where
  ok : FnOk S.P S.w S.K mg base CX0 l f fd ps (spM S n m)
  mak : Mk S.K (S.ct C) f
  b : Binds S.K fd ps []
  g : mg x = some (.ref (S.ct C))
  k : k = (S.nm C).length
end
end Rm
namespace Rm
open PySem PySem.Spec PyProof.Rows L2 RZ PpSet SrtO
def clsOf (r : R LV) (C : Nat) : Bool := match r with
  | .ok (.obj C' _) _ => decide (C' = C)
  | _ => false
/-! ### a list put in order, item by item -/
section
variable {α β : Type} {lt : α → α → Bool}
def insL (lt : α → α → Bool) (x : α) : List α → List α
  | [] => [x]
  | y :: ys => if lt y x = true then y :: insL lt x ys else x :: y :: ys
def isort (lt : α → α → Bool) : List α → List α
  | [] => []
  | x :: xs => insL lt x (isort lt xs)
theorem insL_mem {x z : α} : ∀ {ys : List α}, z ∈ insL lt x ys → z = x ∨ z ∈ ys
  | [], h => .inl (List.mem_singleton.mp h)
  | y :: ys, h => by
    simp only [insL] at h
    split at h
    · rcases List.mem_cons.mp h with e | e
      · exact .inr (by rw [e]; exact List.mem_cons_self)
      · exact (insL_mem e).imp id (List.mem_cons_of_mem _)
    · rcases List.mem_cons.mp h with e | e
      · exact .inl e
      · exact .inr e
theorem insL_srt (O : Swo lt) {x : α} : ∀ {ys : List α}, Srtd lt ys → Srtd lt (insL lt x ys)
  | [], _ => List.pairwise_singleton _ _
  | y :: ys, h => by
    have h' := List.pairwise_cons.mp h
    simp only [insL]
    by_cases c : lt y x = true
    · rw [if_pos c]
      refine List.pairwise_cons.mpr ⟨fun z hz => ?_, insL_srt O h'.2⟩
      rcases insL_mem hz with e | e
      · rw [e]; exact O.asym _ _ c
      · exact h'.1 z e
    · rw [if_neg c]
      refine List.pairwise_cons.mpr ⟨fun z hz => ?_, h⟩
      have cf : lt y x = false := Bool.eq_false_iff.mpr c
      rcases List.mem_cons.mp hz with e | e
      · rw [e]; exact cf
      · exact O.tr x y z cf (h'.1 z e)
theorem insL_stb (O : Swo lt) {x : α} : ∀ {ys : List α}, Stb lt (insL lt x ys) (x :: ys)
  | [] => Stb.refl _
  | y :: ys => by
    simp only [insL]
    by_cases c : lt y x = true
    · rw [if_pos c]
      have h1 : Stb lt ([y] ++ insL lt x ys) ([y] ++ ([x] ++ ys)) := (Stb.refl [y]).app (insL_stb O)
      have h2 : Stb lt (([y] ++ [x]) ++ ys) (([x] ++ [y]) ++ ys) := (Stb.swap O (A := [y]) (B := [x]) fun a ha b hb => by rw [List.mem_singleton.mp ha, List.mem_singleton.mp hb]; exact c).app (Stb.refl ys)
      exact h1.trans h2
    · rw [if_neg c]
      exact Stb.refl _
theorem isort_srt (O : Swo lt) : ∀ xs : List α, Srtd lt (isort lt xs)
  | [] => List.Pairwise.nil
  | x :: xs => insL_srt O (isort_srt O xs)
theorem isort_stb (O : Swo lt) : ∀ xs : List α, Stb lt (isort lt xs) xs
  | [] => Stb.refl _
  | x :: xs => (insL_stb O).trans ((Stb.refl [x]).app (isort_stb O xs))
theorem insL_map {f : α → β} {lt' : β → β → Bool} (x : α) : ∀ ys : List α, (insL (fun a b => lt' (f a) (f b)) x ys).map f = insL lt' (f x) (ys.map f)
  | [] => rfl
  | y :: ys => by
    simp only [insL, List.map_cons]
    split
    · rw [List.map_cons, insL_map x ys]
    · rfl
theorem isort_map {f : α → β} {lt' : β → β → Bool} : ∀ xs : List α, (isort (fun a b => lt' (f a) (f b)) xs).map f = isort lt' (xs.map f)
  | [] => rfl
  | x :: xs => by
    simp only [isort, List.map_cons]
    rw [insL_map, isort_map xs]
end
/-! ### pairs of truth values in order -/
section
variable {prog : Program} {w : World} {A : Around} {E : Value → Shared → Prop} {s : Shared}
theorem oneLt_b {x y : Bool} {Q : Bool → Shared → Prop} (h : Q (decide (b2i x < b2i y)) s) : wpAny (model prog w) A (oneLt' true (.bool x) (.bool y)) Q E s := by
  rw [oneLt'_eq]
  simp only [if_true]
  refine wpAny_bind (wpAny_cRoomFor_byValue rfl ?_)
  refine wpAny_bind (wpAny_callSpecialIfBound?_slot (typeIs_bool' s x) F.slot_bool_lt (call_gives F.slot_bool_lt (typeIs_bool' s x) F.entry_int_lt (F.args_int_lt_2 _ _) (gives_int_lt_bools x y) ?_))
  exact wpAny_truthy_bool h
def IsPB (h : Heap) (v : Value) (x y : Bool) : Prop := ∃ (a : Addr) (o : Obj) (n : Nat), v = .ref a ∧ h.get? a = some o ∧ o.cls = .type "tuple" ∧ o.data = .seq #[.bool x, .bool y] n
def ltB (p q : Bool × Bool) : Bool := if p.1 = q.1 then decide (b2i p.2 < b2i q.2) else decide (b2i p.1 < b2i q.1)
theorem swo_B {α : Type} (k : α → Bool × Bool) : Swo fun v u => ltB (k v) (k u) := by
  refine ⟨fun x y h => ?_, fun x y z h1 h2 => ?_⟩
  · generalize k x = p at *
    generalize k y = q at *
    obtain ⟨a, b⟩ := p
    obtain ⟨c, d⟩ := q
    cases a <;> cases b <;> cases c <;> cases d <;> revert h <;> decide
  · generalize k x = p at *
    generalize k y = q at *
    generalize k z = r at *
    obtain ⟨a, b⟩ := p
    obtain ⟨c, d⟩ := q
    obtain ⟨e, f⟩ := r
    cases a <;> cases b <;> cases c <;> cases d <;> cases e <;> cases f <;> revert h1 h2 <;> decide
theorem cmp_B {vs : List Value} {k : Value → Bool × Bool} (hp : ∀ v ∈ vs, IsPB s.heap v (k v).1 (k v).2) : Cmp prog w A s (tuples' true) (fun p => p.1 ∈ vs) (lt2 fun v u => ltB (k v) (k u)) := by
  intro p q hm hm'
  have h1 := hp _ hm
  have h2 := hp _ hm'
  show wpAny (model prog w) A (keyLt' (tuples' true) p.1 q.1) (fun r s' => s' = s ∧ r = ltB (k p.1) (k q.1)) (fun _ _ => False) s
  unfold ltB
  generalize (k p.1).1 = x1 at h1 ⊢
  generalize (k p.1).2 = y1 at h1 ⊢
  generalize (k q.1).1 = x2 at h2 ⊢
  generalize (k q.1).2 = y2 at h2 ⊢
  obtain ⟨a, o, n, e, ho, hc, hd⟩ := h1
  obtain ⟨a', o', n', e', ho', hc', hd'⟩ := h2
  rw [e, e']
  refine PySem.W.kat_lt ho hd ho' hd' ?_
  change PySem.W.KatLex prog w A true (decide (2 < 2)) _ [(.bool x1, .bool x2), (.bool y1, .bool y2)] 0 s
  refine PySem.W.kat_cons (SeqAt.EqAt.bool_bool x1 x2 prog w _ _ (PySem.W.kat_go (fun e1 => ?_) fun e1 => ?_))
  · have ex : x1 = x2 := by simpa using e1
    subst ex
    refine PySem.W.kat_yes (PySem.W.kat_cons (SeqAt.EqAt.bool_bool y1 y2 prog w _ _ (PySem.W.kat_go (fun e2 => ?_) fun e2 => ?_)))
    · have ey : y1 = y2 := by simpa using e2
      subst ey
      exact PySem.W.kat_yes (PySem.W.kat_nil ⟨rfl, by cases y1 <;> simp⟩)
    · refine PySem.W.kat_no (PySem.W.kat_one _ _ (lt_bool ?_))
      exact (show s = s ∧ decide (b2i y1 < b2i y2) = (if x1 = x1 then decide (b2i y1 < b2i y2) else decide (b2i x1 < b2i x1)) from ⟨rfl, by rw [if_pos rfl]⟩)
  · have ex : ¬ x1 = x2 := by simpa using e1
    exact PySem.W.kat_no (oneLt_b ⟨rfl, by rw [if_neg ex]⟩)
theorem firsts_B {h : Heap} : ∀ {vs : List Value}, (∀ v ∈ vs, ∃ x y, IsPB h v x y) → ∃ fs : List Value, PySem.W.KatTups h vs fs ∧ fs.length = vs.length ∧ ∀ f ∈ fs, ∃ x, f = Value.bool x
  | [], _ => ⟨[], PySem.W.KatTups.nil, rfl, fun _ hm => nomatch hm⟩
  | v :: vs, hp => by
    obtain ⟨fs, h1, h2, h3⟩ := firsts_B (vs := vs) fun u hm => hp u (List.mem_cons_of_mem _ hm)
    obtain ⟨x, y, a, o, n, rfl, ho, hc, hd⟩ := hp v List.mem_cons_self
    refine ⟨.bool x :: fs, PySem.W.KatTups.cons ho hc hd rfl h1, congrArg (· + 1) h2, fun f hm => ?_⟩
    rcases List.mem_cons.mp hm with e | hm
    · exact ⟨x, e⟩
    · exact h3 f hm
theorem able_B {a : Addr} {vs : List Value} {k : Value → Bool × Bool} (h0 : 0 < vs.length) (hp : ∀ v ∈ vs, IsPB s.heap v (k v).1 (k v).2) (ha : ∀ o, s.heap.get? a = some o → o.cls ≠ .type "tuple") : SortableO prog w A s a vs fun v u => ltB (k v) (k u) := by
  intro h' keep
  have hp' : ∀ v ∈ vs, IsPB h' v (k v).1 (k v).2 := fun v hm => by
    obtain ⟨b, o, n, e, ho, hc, hd⟩ := hp v hm
    exact ⟨b, o, n, e, keep b o (fun z => by subst z; exact ha o ho hc) ho, hc, hd⟩
  obtain ⟨fs, h1, h2, h3⟩ := firsts_B fun v hm => ⟨_, _, hp' v hm⟩
  refine ⟨tuples' true, fun Q E hq => PySem.W.kat_kind (T := .type "bool") h1 (by omega) (fun f hm => ?_) (by rfl) ?_, cmp_B hp'⟩
  · obtain ⟨x, rfl⟩ := h3 f hm
    exact PySem.W.Looks.now
  · have e : (Value.type "bool" != Value.type "tuple") = true := by first | decide +kernel | rfl | decide
    rw [e]
    exact hq
end
/-- sorted(l), l a list of pairs of truth values -/
def rSortB (K : PySem.W.Frag) : List V → Hp → VK → Prop := fun vs H Q => ∃ (a : Addr) (zs : List ((Bool × Bool) × V)), vs = [.ref a] ∧ SqL K H a (zs.map (·.2)) ∧ (∀ z ∈ zs, ∃ t, z.2 = .ref t ∧ SqT K H t [.bl z.1.1, .bl z.1.2]) ∧
  ∀ p, H p = none → Q (.ref p) (upd H p (.lst ((isort (fun x y => ltB x.1 y.1) zs).map (·.2))))
theorem back_ref {v : V} {u : Value} {t : Addr} (r : RelV v u) (e : v = .ref t) : u = .ref t := by
  subst e
  exact r
theorem cr_sortB {X : Cx} : CallR X (.builtin "sorted") (rSortB X.K) := by
  intro pins s σ H vs us Q I r h
  obtain ⟨a, zs, rfl, hs, hz, q⟩ := h
  obtain ⟨its, rv, hl, hsz⟩ := I.list hs
  obtain ⟨u, rfl, ru⟩ := vals1 r
  obtain rfl : u = Value.ref a := ru
  -- what stands at an address tells its key
  generalize hk : (fun x : V => match zs.find? (fun z => decide (z.2 = x)) with
    | some z => z.1
    | none => (false, false)) = kV
  have same : ∀ z ∈ zs, kV z.2 = z.1 := fun z hm => by
    rw [← hk]
    dsimp only
    split
    · rename_i z2 e
      have m2 := List.mem_of_find?_eq_some e
      have e2 : z2.2 = z.2 := by simpa using List.find?_some e
      obtain ⟨t, et, ht⟩ := hz z hm
      obtain ⟨t2, et2, ht2⟩ := hz z2 m2
      rw [e2, et] at et2
      cases et2
      have := I.tuple_inj ht ht2
      simp only [List.cons.injEq, V.bl.injEq, and_true] at this
      exact Prod.ext this.1.symm this.2.symm
    · rename_i e
      have := List.find?_eq_none.mp e z hm
      simp at this
  have hzs : zs = (zs.map (·.2)).map fun x => (kV x, x) := by
    rw [List.map_map]
    conv => lhs; rw [← List.map_id zs]
    refine List.map_congr_left fun z hm => ?_
    show z = (kV z.2, z.2)
    rw [same z hm]
  have hgoal : (isort (fun x y : (Bool × Bool) × V => ltB x.1 y.1) zs).map (·.2) = isort (fun x y => ltB (kV x) (kV y)) (zs.map (·.2)) := by
    have e1 := isort_map (f := fun x : V => (kV x, x)) (lt' := fun x y : (Bool × Bool) × V => ltB x.1 y.1) (zs.map (·.2))
    rw [← hzs] at e1
    rw [← e1, List.map_map]
    exact List.map_id _
  rw [hgoal] at q
  obtain ⟨e1, e2⟩ := refs_back rv fun x m => by
    obtain ⟨z, hm, rfl⟩ := List.mem_map.mp m
    obtain ⟨t, e, _⟩ := hz z hm
    exact ⟨t, e⟩
  have hpb : ∀ v ∈ its, IsPB s.heap v (kV (backV v)).1 (kV (backV v)).2 := fun v hv => by
    have hm : backV v ∈ zs.map (·.2) := by rw [e1]; exact List.mem_map.mpr ⟨v, hv, rfl⟩
    obtain ⟨z, hzm, ez⟩ := List.mem_map.mp hm
    obtain ⟨t, et, ht⟩ := hz z hzm
    obtain ⟨t', rfl⟩ := e2 v hv
    have e3 : V.ref t' = V.ref t := ez.symm.trans et
    cases e3
    obtain ⟨i2, r2, ⟨o, ho, hc, n, hd⟩, _⟩ := I.tuple ht
    obtain ⟨u1, u2, rfl, ri, rj⟩ := vals2 r2
    cases ri
    cases rj
    rw [← ez, same z hzm]
    exact ⟨_, o, n, rfl, ho, hc, hd⟩
  have hlen : its.length ≤ sizeLine := by rw [← rv.length]; exact hsz
  refine sorted_ord (swo_B fun u => kV (backV u)) hl.isList hlen (fun h2 g b hb kk => able_B (s := { s with heap := g }) (k := fun u => kV (backV u)) (by omega) (fun v hm => ?_) fun o e => ?_) fun out hs2 hb2 => ?_
  · obtain ⟨c, o, n, e, ho, hc, hd⟩ := hpb v hm
    exact ⟨c, o, n, e, (kk c o ho).2, hc, hd⟩
  · have e' : some o = some (seqObj "list" its.toArray 0) := e.symm.trans hb
    cases e'
    intro c
    exact absurd (Value.type.inj c) (by decide)
  · have h3 : ∀ u ∈ out, ∃ a, u = Value.ref a := fun u hu => e2 u (hb2.perm.mem_iff.mp hu)
    obtain ⟨n, hn⟩ := sortedAll_at s.heap its out.toArray
    have O := swo_B kV
    have b1 : Stb (fun x y => ltB (kV x) (kV y)) (out.map backV) (its.map backV) := Stb.map O backV hb2
    have b2 := isort_stb O (zs.map (·.2))
    rw [e1] at b2 q
    have b3 : Stb (fun x y => ltB (kV x) (kV y)) (out.map backV) (isort (fun x y => ltB (kV x) (kV y)) (its.map backV)) := b1.trans ⟨b2.perm.symm, fun x => (b2.cls x).symm⟩
    have e4 := stb_uniq O (srtd_map hs2) (isort_srt O _) b3
    rw [← e4] at q
    refine ⟨.ref (s.heap.objs.size + 1), upd H (s.heap.objs.size + 1) (.lst (out.map backV)), I.laid (t' := s.toks) (fun b o e => sortedAll_old e) (Nat.le_succ _) ⟨?_, out, n, vals_back h3, hn⟩, rfl, q _ (I.hok.fresh (Nat.le_succ _))⟩
    rw [b1.len, ← e1]
    exact hsz
/-- .. on values -/
def asPB : List LV → Option (List ((Bool × Bool) × LV))
  | [] => some []
  | .tup [.bl b, .bl c] :: xs => (asPB xs).map (((b, c), .tup [.bl b, .bl c]) :: ·)
  | _ => none
def fSortB (vs : List LV) (h : List LO) : R LV := match vs with
  | [v] => match v.lsf h with
    | some xs => match asPB xs with
      | some zs => .ok (.vl ((isort (fun x y => ltB x.1 y.1) zs).map (·.2))) h
      | none => .bad
    | none => .bad
  | _ => .bad
theorem asPB_of {S : Sg} {F : Addr → Prop} {ι : List Addr} {H : Hp} : ∀ {xs : List LV} {zs : List ((Bool × Bool) × LV)} {vs : List V}, asPB xs = some zs → RVs S F ι H xs vs → ∃ ws : List ((Bool × Bool) × LV × V), ws.map (fun w => (w.1, w.2.1)) = zs ∧ ws.map (fun w => w.2.2) = vs ∧
    ∀ w ∈ ws, RV S F ι H w.2.1 w.2.2 ∧ ∃ t, w.2.2 = .ref t ∧ SqT S.K H t [.bl w.1.1, .bl w.1.2]
  | [], _, _, e, z => by cases e; cases z; exact ⟨[], rfl, rfl, fun _ m => nomatch m⟩
  | x :: xs, zs, vs, e, z => by
    unfold asPB at e
    split at e
    · rename_i h1
      cases h1
    · rename_i b c ys h1
      cases h1
      simp only [Option.map_eq_some_iff] at e
      obtain ⟨zs', e1, rfl⟩ := e
      cases z with
      | cons p q =>
        obtain ⟨ws, w1, w2, w3⟩ := asPB_of e1 q
        have p' := p
        cases p with
        | @tup t _ _ hs hr =>
          refine ⟨((b, c), .tup [.bl b, .bl c], .ref t) :: ws, by rw [List.map_cons, w1], by rw [List.map_cons, w2], fun w m => ?_⟩
          rcases List.mem_cons.mp m with rfl | m
          · refine ⟨p', t, rfl, ?_⟩
            cases hr with
            | cons r1 r2 =>
              cases r1
              cases r2 with
              | cons r3 r4 =>
                cases r3
                cases r4
                exact hs
          · exact w3 w m
    · cases e
theorem RVs.maps {S : Sg} {F : Addr → Prop} {ι : List Addr} {H : Hp} : ∀ {ws : List ((Bool × Bool) × LV × V)}, (∀ w ∈ ws, RV S F ι H w.2.1 w.2.2) → RVs S F ι H (ws.map fun w => w.2.1) (ws.map fun w => w.2.2)
  | [], _ => .nil
  | w :: ws, h => .cons (h w List.mem_cons_self) (RVs.maps fun u m => h u (List.mem_cons_of_mem _ m))
theorem vc_sortB {S : Se} {E : XK} : VC S E (rSortB S.K) fSortB := fun F ι h H xs vs Q rp z o => by
  unfold fSortB at o
  split at o
  · rename_i v
    split at o
    · rename_i ys e
      split at o
      · rename_i zs e2
        cases z with
        | cons a b =>
          cases b
          obtain ⟨p, us, rfl, hs, zz⟩ := lsf_of rp a e
          obtain ⟨ws, w1, w2, w3⟩ := asPB_of e2 zz
          have m1 := isort_map (f := fun w : (Bool × Bool) × LV × V => (w.1, w.2.1)) (lt' := fun x y : (Bool × Bool) × LV => ltB x.1 y.1) ws
          have m2 := isort_map (f := fun w : (Bool × Bool) × LV × V => (w.1, w.2.2)) (lt' := fun x y : (Bool × Bool) × V => ltB x.1 y.1) ws
          rw [w1] at m1
          refine ⟨p, ws.map fun w => (w.1, w.2.2), rfl, ?_, fun z hm => ?_, fun l hl => ?_⟩
          · rw [List.map_map]
            have e3 : ws.map ((fun x : (Bool × Bool) × V => x.2) ∘ fun w => (w.1, w.2.2)) = us := w2
            rw [e3]
            exact hs
          · obtain ⟨w, hw, rfl⟩ := List.mem_map.mp hm
            exact (w3 w hw).2
          · rw [← m2, List.map_map]
            rw [← m1, List.map_map] at o
            refine ok_vl rp (RVs.maps (ws := isort (fun a b => ltB a.1 b.1) ws) fun w hw => ?_) o hl
            exact (w3 w ((isort_stb (swo_B (fun w : (Bool × Bool) × LV × V => w.1)) ws).perm.mem_iff.mp hw)).1
      · exact o.elim
    · exact o.elim
  · exact o.elim
theorem call_sortS {X : Cx} (S : Se) (hK : X.K = S.K := by rfl) : CallR X (.builtin "sorted") (rSortB S.K) := by
  rw [← hK]
  exact cr_sortB
end Rm
namespace Rm
open PySem PySem.Spec PyProof.Rows L2 RZ PpSet
/-! ### what the top has written, for the tables -/
def FnG (K : PySem.W.Frag) (x nm qual : Str) (st : Stmt) : Prop := ∃ f fd, Fun K nm qual st f fd ∧ PySem.W.nsIn K mainGlobals x = some (some (.ref f))
theorem FnG.go {K : PySem.W.Frag} {x nm qual : Str} {st : Stmt} {h : Heap} {mg : Str → Option Value} (F : FnG K x nm qual st) (X : K.In h) (G : h.Ns mainGlobals mg) : ∃ f fd, Fun K nm qual st f fd ∧ mg x = some (.ref f) := by
  obtain ⟨f, fd, F, a⟩ := F
  exact ⟨f, fd, F, PySem.W.mg_of X G a⟩
def MtG (K : PySem.W.Frag) (C : Addr) (nm qual : Str) (st : Stmt) : Prop := ∃ f fd, Fun K nm qual st f fd ∧ PySem.W.findIn K (.ref C) nm = some (some (.ref f)) ∧ PySem.W.isFn K (.ref f) = true ∧ PySem.W.keepIn K (.ref f) = true
structure ClG (K : PySem.W.Frag) (x : Str) (C : Addr) : Prop where
  g : PySem.W.nsIn K mainGlobals x = some (some (.ref C))
  cl : Cls K C
  mks : PySem.W.makesIn K C = true
  kp : PySem.W.keepIn K (.ref C) = true
  ha : PySem.W.findIn K (.ref C) "__class__" = some (some (.builtin "object.__class__"))
  hm : PySem.W.mroIn K C (.type "object") = some true
structure DictG (K : PySem.W.Frag) (w : World) (a : Addr) : Prop where
  ex : ∃ es n, K.lookup a = some ⟨.type "dict", none, .dict es n, #[]⟩ ∧ PySem.W.KeysLit w.params es.toList ∧ (a == sysModules) = false
theorem str_eq {x : Str} {l : List Nat} (h : x.cps.toList = l) : (⟨l.toArray⟩ : Str) = x := by
  subst h
  cases x
  simp
theorem DictG.kin {K : PySem.W.Frag} {w : World} {a : Addr} {x : Str} {r : Option Value} {b : Bool} (D : DictG K w a) (e : PySem.W.nsIn K a x = some r) (h : r.isSome = b) : KIn K w a x b := by
  obtain ⟨es, n, l, k, o⟩ := D.ex
  exact ⟨es, n, r, l, k, o, e, h⟩
theorem DictG.get {K : PySem.W.Frag} {w : World} {a : Addr} {x : Str} {u : Value} {v : V} (D : DictG K w a) (e : PySem.W.nsIn K a x = some (some u)) (r : RelV v u) : KDct K w a x v := by
  obtain ⟨es, n, l, k, o⟩ := D.ex
  exact ⟨es, n, u, l, k, e, r⟩
section
variable {S : Sg} {p a : Addr} {x y : Str} {k z : List Nat} {o : Option LV} {v : LV} {t : KT} {tk : Tok}
def KEnt (S : Sg) (p : Addr) (k : List Nat) (o : Option LV) : Prop := KIn S.K S.w p ⟨k.toArray⟩ o.isSome ∧ ∀ v, o = some v → ∃ x, KDct S.K S.w p ⟨k.toArray⟩ x ∧ ∀ F ι H, RV S F ι H v x
theorem kEnt_none (D : DictG S.K S.w p) (e : PySem.W.nsIn S.K p x = some none) (hx : x.cps.toList = k) : KEnt S p k none := ⟨by rw [str_eq hx]; exact D.kin e rfl, fun v h => by cases h⟩
theorem kEnt_str (D : DictG S.K S.w p) (he : ∃ tk, PySem.W.nsIn S.K p x = some (some (.str y tk))) (hx : x.cps.toList = k) (hy : y.cps.toList = z) : KEnt S p k (some (.str z)) := by
  obtain ⟨tk, e⟩ := he
  refine ⟨by rw [str_eq hx]; exact D.kin e rfl, fun v h => ?_⟩
  cases h
  refine ⟨.str y, by rw [str_eq hx]; exact D.get e ⟨_, rfl⟩, fun F ι H => ?_⟩
  rw [← str_eq hy]
  exact .str z
theorem kEnt_ref (D : DictG S.K S.w p) (e : PySem.W.nsIn S.K p x = some (some (.ref a))) (hx : x.cps.toList = k) (hz : ∀ F ι H, RV S F ι H v (.ref a)) : KEnt S p k (some v) := ⟨by rw [str_eq hx]; exact D.kin e rfl, fun u h => by
  cases h
  exact ⟨.ref a, by rw [str_eq hx]; exact D.get e rfl, hz⟩⟩
theorem kTab_nil : KTab S p [] := ⟨fun k o h => by simp at h, fun k v h => by simp at h⟩
theorem kTab_cons (e : KEnt S p k o) (r : KTab S p t) : KTab S p ((k, o) :: t) := by
  refine ⟨fun k' o' h => ?_, fun k' v h => ?_⟩
  · rw [List.lookup_cons] at h
    split at h
    · rename_i hk
      cases h
      rw [eq_of_beq hk]
      exact e.1
    · exact r.has _ _ h
  · rw [List.lookup_cons] at h
    split at h
    · rename_i hk
      cases h
      rw [eq_of_beq hk]
      exact e.2 v rfl
    · exact r.get _ _ h
end
/-- a written pair of texts -/
structure PairG (K : PySem.W.Frag) (p : Addr) (y z : Str) : Prop where
  ex : ∃ (dd : Option Addr) (t u : Tok) (n : Nat) (sl : Array (Option Value)), K.lookup p = some ⟨.type "tuple", dd, .seq #[.str y t, .str z u] n, sl⟩ ∧ t ≠ 0 ∧ u ≠ 0 ∧ t ≠ u
theorem PairG.kp {K : PySem.W.Frag} {p : Addr} {y z : Str} (h : PairG K p y z) (hyz : (y == z) = false) : KPair K p y z := by
  obtain ⟨dd, t, u, n, sl, l, a, b, c⟩ := h.ex
  exact ⟨dd, t, u, n, sl, l, a, b, c, hyz⟩
theorem sqt_ofG {K : PySem.W.Frag} {a : Addr} {dd : Option Addr} {its : Array Value} {n : Nat} {sl : Array (Option Value)} {xs : List V} (l : K.lookup a = some ⟨.type "tuple", dd, .seq its n, sl⟩) (hz : its.size ≤ 100) (r : Vals xs its.toList) (H : Hp) : SqT K H a xs :=
  .inr ⟨_, its, n, l, rfl, rfl, le_sz (by omega), r⟩
section
variable {S : Sg} {p a : Addr}
theorem rvs_strs {F : Addr → Prop} {ι : List Addr} {H : Hp} : ∀ (us : List Str), RVs S F ι H ((us.map fun u => u.cps.toList).map LV.str) (us.map V.str)
  | [] => .nil
  | u :: us => .cons (by
      have e : V.str u = V.str ⟨u.cps.toList.toArray⟩ := by rw [str_eq rfl]
      show RV S F ι H (.str u.cps.toList) (V.str u)
      rw [e]
      exact .str _) (rvs_strs us)
theorem rv_strs {us : List Str} {ls : List (List Nat)} (h : ∀ H, SqT S.K H a (us.map V.str)) (e : (us.map fun u => u.cps.toList) = ls) (F : Addr → Prop) (ι : List Addr) (H : Hp) : RV S F ι H (.tup (ls.map .str)) (.ref a) := by
  subst e
  exact .tup (h H) (rvs_strs us)
theorem PairG.rv {y z : Str} {l1 l2 : List Nat} (h : PairG S.K a y z) (e1 : y.cps.toList = l1) (e2 : z.cps.toList = l2) (F : Addr → Prop) (ι : List Addr) (H : Hp) : RV S F ι H (.tup [.str l1, .str l2]) (.ref a) := by
  obtain ⟨dd, t, u, n, sl, l, _⟩ := h.ex
  have s : SqT S.K H a [.str y, .str z] := sqt_ofG (xs := [.str y, .str z]) l (show (2 : Nat) ≤ 100 by decide) (.cons ⟨t, rfl⟩ (.cons ⟨u, rfl⟩ .nil)) H
  rw [← str_eq e1, ← str_eq e2] at s
  exact .tup s (.cons (.str _) (.cons (.str _) .nil))
def PairsG (K : PySem.W.Frag) (as : List Addr) (ps : List (List Nat × List Nat)) : Prop := as.length = ps.length ∧ ∀ (i : Nat) (a : Addr) (q : List Nat × List Nat), as[i]? = some a → ps[i]? = some q → KPair K a ⟨q.1.toArray⟩ ⟨q.2.toArray⟩ ∧ 1 ≤ q.1.length
theorem pairsG_nil {K : PySem.W.Frag} : PairsG K [] [] := ⟨rfl, fun i a q h => by simp at h⟩
theorem pairsG_cons {K : PySem.W.Frag} {as : List Addr} {ps : List (List Nat × List Nat)} {y z : Str} {l1 l2 : List Nat} (h : PairG K a y z) (ne : (y == z) = false) (e1 : y.cps.toList = l1) (e2 : z.cps.toList = l2) (n1 : 1 ≤ l1.length) (r : PairsG K as ps) : PairsG K (a :: as) ((l1, l2) :: ps) := by
  refine ⟨congrArg (· + 1) r.1, fun i b q hb hq => ?_⟩
  cases i with
  | zero =>
    cases hb; cases hq
    exact ⟨by rw [str_eq e1, str_eq e2]; exact h.kp ne, n1⟩
  | succ i => exact r.2 i b q (by simpa using hb) (by simpa using hq)
def REnt (S : Sg) (p : Addr) (k : List Nat) (ps : List (List Nat × List Nat)) : Prop := ∃ (tR : Addr) (as : List Addr), KDct S.K S.w p ⟨k.toArray⟩ (.ref tR) ∧ (∀ H, SqT S.K H tR (as.map V.ref)) ∧ as.length = ps.length ∧
    ∀ (i : Nat) (a : Addr) (q : List Nat × List Nat), as[i]? = some a → ps[i]? = some q → KPair S.K a ⟨q.1.toArray⟩ ⟨q.2.toArray⟩ ∧ 1 ≤ q.1.length
theorem rEnt {x : Str} {k : List Nat} {as : List Addr} {ps : List (List Nat × List Nat)} (D : DictG S.K S.w p) (e : PySem.W.nsIn S.K p x = some (some (.ref a))) (hx : x.cps.toList = k) (r : ∀ H, SqT S.K H a (as.map V.ref)) (q : PairsG S.K as ps) : REnt S p k ps := ⟨a, as, by rw [str_eq hx]; exact D.get e rfl, r, q.1, q.2⟩
theorem rTab_nil : RTab S p [] := ⟨fun k o h => by simp at h⟩
theorem rTab_cons {k : List Nat} {ps : List (List Nat × List Nat)} {t : RT} (e : REnt S p k ps) (r : RTab S p t) : RTab S p ((k, ps) :: t) := by
  refine ⟨fun k' o' h => ?_⟩
  rw [List.lookup_cons] at h
  split at h
  · rename_i hk
    cases h
    rw [eq_of_beq hk]
    exact e
  · exact r.ok _ _ h
end
section
variable {S : Se}
def FldP (S : Se) (f : Str) (C i : Nat) : Prop := Cls S.K (S.ct C) ∧ NoAttr S.K (S.ct C) f ∧ (S.nm C).idxOf f = i ∧ i < (S.nm C).length ∧ (S.nm C).length < 1000
theorem fldP {f : Str} {C i : Nat} {l : List Str} (c : Cls S.K (S.ct C)) (n : PySem.W.findIn S.K (.ref (S.ct C)) f = some none) (hn : S.nm C = l) (h : (l.idxOf f = i ∧ i < l.length ∧ l.length < 1000)) : FldP S f C i := by
  subst hn
  exact ⟨c, n, h⟩
theorem fld1 {f : Str} {C i : Nat} (h : FldP S f C i) : Fld S f [(C, i)] := ⟨fun D j e => by
  rw [List.lookup_cons] at e
  split at e
  · rename_i hk
    cases e
    rw [eq_of_beq hk]
    exact h
  · cases e⟩
theorem fld2 {f : Str} {C i : Nat} {t : List (Nat × Nat)} (h : FldP S f C i) (r : Fld S f t) : Fld S f ((C, i) :: t) := ⟨fun D j e => by
  rw [List.lookup_cons] at e
  split at e
  · rename_i hk
    cases e
    rw [eq_of_beq hk]
    exact h
  · exact r.ok _ _ e⟩
theorem isT2 {u : Value} {C D : Nat} {b c : Bool} (oC : ObjC S C) (oD : ObjC S D) (kC : PySem.W.kitOne S.K (.ref (S.ct C)) u = some b) (kD : PySem.W.kitOne S.K (.ref (S.ct D)) u = some c) : IsT S u (tbOwn [(C, b), (D, c)] none) := isT_own fun E d e => by
  rw [List.lookup_cons] at e
  split at e
  · rename_i hk
    cases e
    rw [eq_of_beq hk]
    exact ⟨oC, kC⟩
  · rw [List.lookup_cons] at e
    split at e
    · rename_i hk
      cases e
      rw [eq_of_beq hk]
      exact ⟨oD, kD⟩
    · cases e
/-- what is asked of a law's def -/
def spLawR (K : PySem.W.Frag) : Sp := fun vs H Q _ => ∃ (a : Addr) (ns : List Int), vs = [.ref a] ∧ SqL K H a (ns.map V.int) ∧ ns.length ≤ 63 ∧ Only H ∧ ∀ H', Q (.bl true) H'
theorem rvs_ints {S : Sg} {F : Addr → Prop} {ι : List Addr} {H : Hp} : ∀ ns : List Int, RVs S F ι H (ns.map LV.int) (ns.map V.int)
  | [] => .nil
  | _ :: ns => .cons (.int _) (rvs_ints ns)
theorem law_imp {m : MF} (hm : ∀ ns : List Int, ns.length ≤ 63 → ∃ h', m [.fz (ns.map .int)] [] = .ok (.bl true) h') (vs : List V) (H : Hp) (Q : VK) (E : XK) (h : spLawR S.K vs H Q E) : spM S 1 m vs H Q E := by
  obtain ⟨a, ns, rfl, hS, hl, hO, hQ⟩ := h
  obtain ⟨h', e⟩ := hm ns hl
  refine ⟨rfl, fun _ => False, [], [], [.fz (ns.map .int)], ⟨rfl, .nil, fun _ h => (nomatch h), fun _ h => False.elim h, fun n o a h => by simp at h⟩, .cons (.fz ?_ (rvs_ints ns)) .nil, ?_⟩
  · rcases hS with (z | ⟨o, z⟩) | z
    · rcases hO a with y | ⟨o, xs, y⟩
      · rw [z] at y; cases y
      · rw [z] at y; cases y
    · exact .inl ⟨o, z⟩
    · exact .inr z
  · rw [e]
    intro F' ι' H' x _ _ z
    cases z
    exact hQ _
end
end Rm
namespace Rm
open PySem PySem.Spec PyProof.Rows L2 RZ PpSet
/-! ### the facts of the top, read off the head -/
abbrev dfn (x : Str) (m : Option Str) (nm qual : Str) (st : Stmt) : He.DefD := ⟨(x, m), nm, qual, defArgs st, defBody st, defScope st, [], []⟩
theorem fun_ofD {K : PySem.W.Frag} {x qual : Str} {st : Stmt} {f : Addr} {fd : FuncData} (F : FunD K x qual (defArgs st) (defBody st) (defScope st) [] [] f fd) : Fun K x qual st f fd := by
  obtain ⟨oc, od, dV, kV, doc, pm, an, cdv, ct, osl, e, l, c, hd, _⟩ := F.ex
  rcases hd with ⟨_, e2⟩ | ⟨e2, _⟩
  · subst e2
    exact ⟨⟨oc, od, kV, doc, pm, an, cdv, ct, osl, e, l, c⟩, F.kp⟩
  · exact absurd rfl e2
section
variable {fa : List He.Fa} {fn : List He.DefD} {K : PySem.W.Frag} {x nm qual : Str} {st : Stmt}
theorem fnG_of (c : He.SaysD fa fn K) (i j : Nat) (hd : fn[i]? = some (dfn x none nm qual st)) (hf : fa[j]? = some (He.Fa.glo x)) : FnG K x nm qual st := by
  obtain ⟨fd, F⟩ := c.def_ i hd
  exact ⟨_, fd, fun_ofD F, He.eqO_ok (c.fact j hf)⟩
theorem mtG_of (c : He.SaysD fa fn K) (i j : Nat) (hd : fn[i]? = some (dfn x (some nm) nm qual st)) (hf : fa[j]? = some (He.Fa.meth x nm)) : MtG K (He.ga K x) nm qual st := by
  obtain ⟨fd, F⟩ := c.def_ i hd
  have m := He.meth_ok (c.fact j hf)
  exact ⟨_, fd, fun_ofD F, m.at_, m.fn, m.kp⟩
theorem clG_of (c : He.SaysD fa fn K) (i j k : Nat) (hg : fa[i]? = some (He.Fa.glo x)) (hc : fa[j]? = some (He.Fa.cls x)) (hm : fa[k]? = some (He.Fa.mkr x)) (e1 : He.eqO (PySem.W.findIn K (.ref (He.ga K x)) "__class__") (some (some (.builtin "object.__class__"))) = true)
    (e2 : decide (PySem.W.mroIn K (He.ga K x) (.type "object") = some true) = true) : ClG K x (He.ga K x) :=
  ⟨He.eqO_ok (c.fact i hg), He.cls_ok (c.fact j hc), (He.mkr_ok (c.fact k hm)).makes, (He.mkr_ok (c.fact k hm)).kp, He.eqO_ok e1, of_decide_eq_true e2⟩
end
def seqB (K : PySem.W.Frag) (a : Addr) (vs : List V) : Bool := match K.lookup a with
  | some ⟨.type c, _, .seq its _, _⟩ => decide (c = "tuple") && (decide (its.size ≤ 100) && He.relAll vs its.toList)
  | _ => false
theorem seqB_ok {K : PySem.W.Frag} {a : Addr} {vs : List V} (h : seqB K a vs = true) (H : Hp) : SqT K H a vs := by
  unfold seqB at h
  split at h
  · rename_i c od its n sl q
    obtain ⟨h1, h2⟩ := He.ba h
    obtain ⟨h3, h4⟩ := He.ba h2
    have h3 := of_decide_eq_true h3
    exact .inr ⟨_, its, n, q, congrArg Value.type (of_decide_eq_true h1), rfl, le_sz (by omega), He.relAll_ok h4⟩
  · cases h
def pairB (K : PySem.W.Frag) (a : Addr) (y z : Str) : Bool := match K.lookup a with
  | some ⟨.type c, _, .seq its _, _⟩ => decide (c = "tuple") && (match its.toList with
    | [.str y' t, .str z' u] => decide (y' = y) && (decide (z' = z) && (decide (t ≠ 0) && (decide (u ≠ 0) && decide (t ≠ u))))
    | _ => false)
  | _ => false
theorem pairB_ok {K : PySem.W.Frag} {a : Addr} {y z : Str} (h : pairB K a y z = true) : PairG K a y z := by
  unfold pairB at h
  split at h
  · rename_i c od its n sl q
    obtain ⟨h1, h2⟩ := He.ba h
    split at h2
    · rename_i y' t z' u e
      obtain ⟨h3, h2⟩ := He.ba h2
      obtain ⟨h4, h2⟩ := He.ba h2
      obtain ⟨h5, h2⟩ := He.ba h2
      obtain ⟨h6, h7⟩ := He.ba h2
      have h1 := of_decide_eq_true h1
      have h3 := of_decide_eq_true h3
      have h4 := of_decide_eq_true h4
      subst h1 h3 h4
      obtain ⟨l⟩ := its
      have e : l = [.str y' t, .str z' u] := e
      subst e
      exact ⟨od, t, u, n, sl, q, of_decide_eq_true h5, of_decide_eq_true h6, of_decide_eq_true h7⟩
    · cases h2
  · cases h
/-- the value at a key, the item of a tuple -/
def va (K : PySem.W.Frag) (p : Addr) (k : Str) : Addr := match PySem.W.nsIn K p k with
  | some (some (.ref a)) => a
  | _ => 0
def ia (K : PySem.W.Frag) (t : Addr) (i : Nat) : Addr := match K.lookup t with
  | some ⟨_, _, .seq its _, _⟩ => (match its.toList[i]? with
    | some (.ref a) => a
    | _ => 0)
  | _ => 0
def nsB (K : PySem.W.Frag) (p : Addr) (k y : Str) : Bool := match PySem.W.nsIn K p k with
  | some (some (.str z _)) => decide (z = y)
  | _ => false
theorem nsB_ok {K : PySem.W.Frag} {p : Addr} {k y : Str} (h : nsB K p k y = true) : ∃ tk, PySem.W.nsIn K p k = some (some (.str y tk)) := by
  unfold nsB at h
  split at h
  · rename_i z t q
    have h := of_decide_eq_true h
    subst h
    exact ⟨t, q⟩
  · cases h
theorem dictG_of {K : PySem.W.Frag} {w : World} {a : Addr} (h : ∃ es n, KDict K w a es n) : DictG K w a := by
  obtain ⟨es, n, d⟩ := h
  exact ⟨es, n, d.at_, d.lit, d.low⟩
/-- the objects at told addresses; what is told of them -/
def obsA (as : List Addr) (fa : List He.Fa) (fn : List He.DefD) (ts : List He.Tab) (ex : PySem.W.Frag → Bool) (g : Addr → Option Obj) : He.AlX := (He.obsT fa fn ts (He.frT g as), ex (He.frT g as))
theorem saysA_of {as : List Addr} {fa : List He.Fa} {fn : List He.DefD} {ts : List He.Tab} {ex : PySem.W.Frag → Bool} {w : World} {h : Heap} (e : obsA as fa fn ts ex h.get? = He.valX fn ts w) : He.SaysX fa fn ts [] ex w h (He.frT h.get? as) := by
  have e1 : He.obsT fa fn ts (He.frT h.get? as) = He.valT fn ts w := congrArg (fun z : He.AlX => z.1) e
  have e2 : ex (He.frT h.get? as) = true := congrArg (fun z : He.AlX => z.2) e
  exact { t := e1, more := e2, hd := fun p hp => by simp at hp, out := fun p hp => by simp at hp, empty := fun p hp => by simp at hp }
def hookA (as : List Addr) (fa : List He.Fa) (fn : List He.DefD) (ts : List He.Tab) (ex : PySem.W.Frag → Bool) : PySem.W.Hook where
  α := He.AlX
  obs := fun s => obsA as fa fn ts ex s.heap.get?
  val := fun w => He.valX fn ts w
  says := fun w h => ∃ K : PySem.W.Frag, K.In h ∧ He.SaysX fa fn ts [] ex w h K
  of := fun _ _ e => ⟨_, He.frT_in, saysA_of e⟩
  keeps := fun _ _ _ ⟨K, hK, c⟩ k => ⟨K, PySem.W.Frag.In.keeps hK k, { t := c.t, more := c.more, hd := fun p hp => by simp at hp, out := fun p hp => by simp at hp, empty := fun p hp => by simp at hp }⟩
theorem obsA_eq {as : List Addr} {fa : List He.Fa} {fn : List He.DefD} {ts : List He.Tab} {ex : PySem.W.Frag → Bool} {g : Addr → Option Obj} {s : Shared} (h : ∀ a, g a = s.heap.get? a) : obsA as fa fn ts ex g = (hookA as fa fn ts ex).obs s := by
  have e : g = s.heap.get? := funext h
  rw [e] <;> rfl
/-- one of many -/
theorem all_at {bs : List Bool} (h : bs.all id = true) (i : Nat) {b : Bool} (e : bs[i]? = some b) : b = true := List.all_eq_true.mp h b (List.mem_of_getElem? e)
end Rm
namespace Rm
open PySem PySem.Spec PyProof.Rows L2 RZ PpSet
/-! ### a tuple in a list of tuples -/
theorem hu65 {k : Nat} {A : Around} (r : Room k A) : A.units + 65 < cLine := by have := r.un; omega
def fInD (neg : Bool) (v w : LV) (h : List LO) : R LV := match LV.dat h 20000 v, LV.dat h 20000 w with
  | some d, some (.list ds) => if SeqAt.shaped d && SeqAt.shaped (.list ds) then .ok (.bl (if neg then !(ds.any fun z => PyData.eqv z d) else ds.any fun z => PyData.eqv z d)) h else .bad
  | _, _ => .bad
section
variable {S : Se} {E : XK}
theorem vo_inD : VO S E (rInD S.K) (fInD false) := fun F ι h H x y v w Q rp zx zy o => by
  unfold fInD at o
  split at o
  · rename_i d ds e1 e2
    split at o
    · rename_i hs
      rw [Bool.and_eq_true] at hs
      exact ⟨d, ds, dat_of rp _ _ _ _ e1 zx, dat_of rp _ _ _ _ e2 zy, hs.1, hs.2, Ok.now (rel := RV S.toSg) o rp (.bl _)⟩
    · exact o.elim
  · exact o.elim
theorem vo_niD : VO S E (rNotInD S.K) (fInD true) := fun F ι h H x y v w Q rp zx zy o => by
  unfold fInD at o
  split at o
  · rename_i d ds e1 e2
    split at o
    · rename_i hs
      rw [Bool.and_eq_true] at hs
      exact ⟨d, ds, dat_of rp _ _ _ _ e1 zx, dat_of rp _ _ _ _ e2 zy, hs.1, hs.2, Ok.now (rel := RV S.toSg) o rp (.bl _)⟩
    · exact o.elim
  · exact o.elim
def isFl (v w : LV) (h : List LO) : Bool := isDct w h || flatL v
def fInY (neg : Bool) : LV → LV → List LO → R LV := fun v w h => if isFl v w h = true then fInX neg v w h else fInD neg v w h
def rInY (P : Program) (w : World) (K : PySem.W.Frag) : R2 := fun x y H Q => rInX P w K x y H Q ∨ rInD K x y H Q
def rNiY (P : Program) (w : World) (K : PySem.W.Frag) : R2 := fun x y H Q => rNiX P w K x y H Q ∨ rNotInD K x y H Q
theorem vo_inY : VO S E (rInY S.P S.w S.K) (fInY false) := VO.orH isFl vo_inX vo_inD
theorem vo_niY : VO S E (rNiY S.P S.w S.K) (fInY true) := VO.orH isFl vo_niX vo_niD
theorem op_inYS {X : Cx} (S : Se) (hu : X.A.units + 65 < cLine) (hK : X.K = S.K := by rfl) (hw : X.w = S.w := by rfl) (hP : X.prog = S.P := by rfl) : OpR X (compareOp .In) (rInY S.P S.w S.K) := by
  rw [← hK, ← hw, ← hP]
  exact (op_inX (by omega)).or (op_inD hu)
theorem op_niYS {X : Cx} (S : Se) (hu : X.A.units + 65 < cLine) (hK : X.K = S.K := by rfl) (hw : X.w = S.w := by rfl) (hP : X.prog = S.P := by rfl) : OpR X (compareOp .NotIn) (rNiY S.P S.w S.K) := by
  rw [← hK, ← hw, ← hP]
  exact (op_niX (by omega)).or (op_notInD hu)
def mPar3 (i j l : Nat) (ma : MA) : MS := fun ρ h => (ma ρ h).bind fun vs h1 => match vs with
  | [u, v, w] => .ok (.nx, ((ρ.set i (some u)).set j (some v)).set l (some w)) h1
  | _ => .bad
theorem ss_par3 {i j l : Nat} {tA : TA} {mA : MA} (ha : SA S E tA mA) : SS S E (tPar3 i j l tA) (mPar3 i j l mA) := fun F ι h H ρ σ D rp rs o =>
  ha F ι h H ρ σ _ rp rs (o.seq fun F1 ι1 H1 h1 vs xs _ e1 rp1 z o1 => by
    split at o1
    · rename_i u v w
      cases z with
      | cons a b =>
        cases b with
        | cons c d =>
          cases d with
          | cons e f =>
            cases f
            exact ⟨_, _, _, rfl, Ok.now (rel := relF S) (x := FV.nx _) o1 rp1 ((((rs.ext rp e1).set a i).set c j).set e l)⟩
    · exact o1.elim)
end
end Rm
namespace Rm
open PySem PySem.Spec PyProof.Rows L2 RZ PpSet
theorem hu1 {k : Nat} {A : Around} (r : Room k A) : A.units + 1 < cLine := by have := r.un; omega
/-! ### {text: value, ..}[text] -/
def lkS : List (List Nat) → List LV → List Nat → Option LV
  | k :: ks, v :: vs, t => match lkS ks vs t with
    | some w => some w
    | none => if k = t then some v else none
  | _, _, _ => none
def mDIx (kc : List (List Nat)) (mA : MA) (mi : ME) : ME := fun ρ h => (mA ρ h).safe.bind fun vs h1 => (mi ρ h1).bind fun i h2 => match i with
  | .str t => match lkS kc vs t with
    | some v => .ok v h2
    | none => .bad
  | _ => .bad
abbrev zwK (ks : List Str) (xs : List V) : List (Key × V) := List.zipWith (fun k x => ((.inr k : Key), x)) ks xs
def PrS (S : Se) (E : XK) (trs : List (TE × TE)) (ks : List Str) (mA : MA) : Prop := ∀ F ι h H ρ σ Q, Rep S.toSg F ι h H → RS S F ι H ρ σ → Ok (RVs S.toSg) S E F ι H (mA ρ h) (fun xs H' => Q ((zwK ks xs).map fun kv => (kV kv.1, kv.2)) H') → tPairs trs σ H Q
section
variable {S : Se} {E : XK} {ti tv : TE} {mi mv : ME} {mA : MA} {trs : List (TE × TE)} {ks : List Str}
theorem pr_nil : PrS S E [] [] mNil := fun F ι h H ρ σ Q rp rs o => Ok.now (rel := RVs S.toSg) (v := []) (x := []) o rp .nil
theorem pr_cons {k : Str} (hv : SE S E tv mv) (hr : PrS S E trs ks mA) : PrS S E ((tC (.str k), tv) :: trs) (k :: ks) (mCons mv mA) := fun F ι h H ρ σ Q rp rs o =>
  hv F ι h H ρ σ (fun y H2 => tPairs trs σ H2 fun ps H3 => Q ((.str k, y) :: ps) H3) rp rs (o.seq fun F1 ι1 H1 h1 v y _ e1 rp1 zv o1 => hr F1 ι1 h1 H1 ρ σ _ rp1 (rs.ext rp e1) (o1.seq fun F2 ι2 H2 h2 vs ys _ e2 rp2 zs o2 => Ok.now (rel := RVs S.toSg) (v := v :: vs) (x := y :: ys) o2 rp2 (.cons (zv.ext rp1 e2) zs)))
theorem lk_none {s : Str} : ∀ {ks : List Str} {vs : List LV} {xs : List V} {F : Addr → Prop} {ι : List Addr} {H : Hp}, RVs S.toSg F ι H vs xs → lkS (ks.map fun k => k.cps.toList) vs s.cps.toList = none → ∀ acc, valV (mergeK acc (zwK ks xs)) (.inr s) = valV acc (.inr s)
  | [], _, _, _, _, _, _, _, acc => rfl
  | k :: ks, _, _, _, _, _, .nil, _, acc => rfl
  | k :: ks, _, _, _, _, _, .cons (xs := vs) (vs := xs) z zs, e, acc => by
    rw [List.map_cons] at e
    unfold lkS at e
    split at e
    · cases e
    · rename_i e1
      split at e
      · cases e
      · rename_i n
        show valV (mergeK (putK acc (.inr k) _) (zwK ks xs)) (.inr s) = _
        rw [lk_none zs e1, valV_put, if_neg]
        intro q
        cases q
        exact n rfl
theorem lk_some {s : Str} {v : LV} : ∀ {ks : List Str} {vs : List LV} {xs : List V} {F : Addr → Prop} {ι : List Addr} {H : Hp}, RVs S.toSg F ι H vs xs → lkS (ks.map fun k => k.cps.toList) vs s.cps.toList = some v → ∃ x, RV S.toSg F ι H v x ∧ ∀ acc, valV (mergeK acc (zwK ks xs)) (.inr s) = some x
  | [], _, _, _, _, _, _, e => by rw [List.map_nil] at e; unfold lkS at e; cases e
  | k :: ks, _, _, _, _, _, .nil, e => by rw [List.map_cons] at e; unfold lkS at e; cases e
  | k :: ks, _, _, _, _, _, .cons (xs := vs) (vs := xs) (v := x) z zs, e => by
    rw [List.map_cons] at e
    unfold lkS at e
    split at e
    · rename_i w e1
      cases e
      obtain ⟨x', z', q⟩ := lk_some zs e1
      exact ⟨x', z', fun acc => q _⟩
    · rename_i e1
      split at e
      · rename_i c
        cases e
        refine ⟨x, z, fun acc => ?_⟩
        show valV (mergeK (putK acc (.inr k) x) (zwK ks xs)) (.inr s) = _
        rw [lk_none zs e1, valV_put, if_pos]
        have : s = k := by
          cases s
          cases k
          congr 1
          exact (Array.toList_inj.mp c).symm
        rw [this]
      · cases e
theorem se_dix (kc : List (List Nat)) (hp : PrS S E0 trs ks mA) (hi : SE S E ti mi) (hk : (ks.map fun k => k.cps.toList) = kc) (hl : ks.length ≤ 15) : SE S E (tDGet (tDisp trs) ti) (mDIx kc mA mi) := fun F ι h H ρ σ Q rp rs o p hpn => by
  subst hk
  obtain ⟨ex0, rp0⟩ := apart (S := S) (u := .dK []) rp hpn
  have np : p ∉ ι := fun m => rp.dom p (rp.inF p m) hpn
  refine hp _ ι h _ ρ σ _ rp0 (rs.ext rp ex0) (Ok.seqB (rel := RVs S.toSg) o fun F1 ι1 H1 h1 vs xs _ e1 rp1 zs o1 => ?_)
  obtain ⟨s1, s2⟩ := stays e1 np (by rw [upd_same])
  refine ⟨s1, zwK ks xs, rfl, by rw [List.length_zipWith]; omega, ?_⟩
  obtain ⟨j1, j2, j3⟩ := join (S := S) (v := .dK (mergeK [] (zwK ks xs))) hpn (ex0.trans e1) rp1 rp.dom (e1.more _ (.inr rfl)) s2 s1 (fun _ z => nomatch z) (fun _ _ z => nomatch z)
  refine hi _ ι1 h1 _ ρ σ _ j2 (rs.ext rp j1) (Ok.seq (rel := RV S.toSg) (o1.shift j1) fun F3 ι3 H3 h3 i y _ e3 rp3 zi o3 => ?_)
  split at o3
  · rename_i t _
    cases zi
    split at o3
    · rename_i v e
      obtain ⟨x, z, q⟩ := lk_some (s := ⟨t.toArray⟩) (zs.fwd j3 _ _) (by simpa using e)
      refine ⟨p, x, rfl, ?_, Ok.now (rel := RV S.toSg) o3 rp3 (z.ext j2 e3)⟩
      rw [← q []]
      exact DGet.k (k := .inr ⟨t.toArray⟩) (e3.keep p _ s2 upd_same)
    · exact o3.elim
  · exact o3.elim
end
/-! ### text.split(text) -/
def fSplit (v w : LV) (h : List LO) : R LV := match v, w with
  | .str x, .str y => if (y.length == 0) = false ∧ x.length ≤ 60000 then .ok (.vl ((Txt.split ⟨x.toArray⟩ ⟨y.toArray⟩).map fun u => LV.str u.cps.toList)) h else .bad
  | _, _ => .bad
def rSplitT : V → List V → Hp → VK → Prop := fun x xs H Q => ∃ a b, x = .str a ∧ xs = [.str b] ∧ (b.length == 0) = false ∧ a.length + 2 ≤ sizeLine ∧ rNewStrs (Txt.split a b) H Q
theorem mt_splitT {X : Cx} : MtR X "str.split" rSplitT := mt_split
section
variable {S : Se} {E : XK}
theorem vo_split : VO S E (fun x y H Q => rSplitT x [y] H Q) fSplit := fun F ι h H x y v w Q rp zx zy o => by
  unfold fSplit at o
  split at o
  · cases zx; cases zy
    split at o
    · rename_i x y c
      refine ⟨_, _, rfl, rfl, c.1, ?_, fun p hp => ok_vl rp ?_ o hp⟩
      · have e : (60002 : Nat) ≤ sizeLine := by decide
        exact Nat.le_trans (Nat.add_le_add_right c.2 2) e
      · have := rvs_strs (S := S.toSg) (F := F) (ι := ι) (H := H) (Txt.split ⟨x.toArray⟩ ⟨y.toArray⟩)
        rw [List.map_map] at this
        exact this
    · exact o.elim
  · exact o.elim
end
end Rm
namespace Rm
open PySem PySem.Spec PyProof.Rows L2 RZ PpSet
/-! ### dict([(key, value), ..]), the keys tuples -/
inductive Folds : List (NestedKey × Addr) → List V → List (NestedKey × Addr × V) → List (NestedKey × Addr) → List V → Prop
  | nil {kas : List (NestedKey × Addr)} {xs : List V} : Folds kas xs [] kas xs
  | new {kas kas' : List (NestedKey × Addr)} {xs xs' : List V} {k : NestedKey} {q : Addr} {v : V} {ps : List (NestedKey × Addr × V)} : k ∉ kas.map (·.1) → Folds (kas ++ [(k, q)]) (xs ++ [v]) ps kas' xs' → Folds kas xs ((k, q, v) :: ps) kas' xs'
  | old {kas kas' : List (NestedKey × Addr)} {xs xs' : List V} {k : NestedKey} {q : Addr} {v : V} {j : Nat} {ps : List (NestedKey × Addr × V)} : (kas.map (·.1))[j]? = some k → Folds kas (xs.set j v) ps kas' xs' → Folds kas xs ((k, q, v) :: ps) kas' xs'
abbrev PV : List (NestedKey × Addr × V) → List (NestedKey × Addr × Value) → Prop := Paired fun x y => x.1 = y.1 ∧ x.2.1 = y.2.1 ∧ RelV x.2.2 y.2.2
theorem folds_core {kas kas' : List (NestedKey × Addr)} {xs xs' : List V} {ps : List (NestedKey × Addr × V)} (f : Folds kas xs ps kas' xs') : ∀ {us : List Value} {ps' : List (NestedKey × Addr × Value)}, (kas.map (·.1)).Nodup → kas.length = us.length → Vals xs us → PV ps ps' →
    ∃ us', Vals xs' us' ∧ storedAllH (entL kas us) ps' = entL kas' us' := by
  induction f with
  | nil => intro us ps' _ _ hv p; cases p; exact ⟨us, hv, rfl⟩
  | @new kas kas' xs xs' k q v ps hk f ih =>
    intro us ps' hn hl hv p
    cases p with
    | @cons _ y _ l₂ h t =>
      obtain ⟨k', q', u⟩ := y
      obtain ⟨rfl, rfl, ru⟩ := h
      have hno : atKey (entL kas us) k = none := by
        have z := at_entL hl k
        rw [decide_eq_false hk] at z
        cases e : atKey (entL kas us) k with
        | none => rfl
        | some p => rw [e] at z; cases z
      obtain ⟨us', h1, h2⟩ := ih (us := us ++ [u]) (by
        rw [List.map_append, List.nodup_append]
        refine ⟨hn, by simp, fun a ha b hb => ?_⟩
        have e : b = k := by simpa using hb
        rw [e]
        rintro rfl
        exact hk ha) (by rw [List.length_append, List.length_append, hl]; rfl) (hv.append (.cons ru .nil)) t
      refine ⟨us', h1, ?_⟩
      show storedAllH (storedH (entL kas us) k q u) l₂ = _
      rw [storedH_new hno, show entL kas us ++ [(k, q, u)] = entL (kas ++ [(k, q)]) (us ++ [u]) from (entL_app (kbs := [(k, q)]) (ws := [u]) hl).symm]
      exact h2
  | @old kas kas' xs xs' k q v j ps hj f ih =>
    intro us ps' hn hl hv p
    cases p with
    | @cons _ y _ l₂ h t =>
      obtain ⟨k', q', u⟩ := y
      obtain ⟨rfl, rfl, ru⟩ := h
      obtain ⟨⟨k2, q2⟩, hkq, e2⟩ : ∃ p, kas[j]? = some p ∧ p.1 = k := by
        rw [List.getElem?_map] at hj
        cases e : kas[j]? with
        | none => rw [e] at hj; cases hj
        | some p => rw [e] at hj; exact ⟨p, rfl, Option.some.inj hj⟩
      obtain rfl : k2 = k := e2
      have hj2 : j < us.length := by rw [← hl]; exact (List.getElem?_eq_some_iff.mp hkq).1
      obtain ⟨us', h1, h2⟩ := ih (us := us.set j u) hn (by rw [List.length_set]; exact hl) (Vals.set ru j hv) t
      refine ⟨us', h1, ?_⟩
      show storedAllH (storedH (entL kas us) k2 q u) l₂ = _
      rw [storedH_old (at_entI hl hn hkq (List.getElem?_eq_getElem hj2)), putAt_ent hn hl hj]
      exact h2
def rDictN (P : Program) (w : World) (K : PySem.W.Frag) : List V → Hp → VK → Prop := fun vs H Q => ∃ (a : Addr) (ps : List (Addr × NestedKey × Addr × V)) (kas : List (NestedKey × Addr)) (xs : List V), vs = [.ref a] ∧ SqL K H a ((ps.map (·.1)).map V.ref) ∧
  (∀ p ∈ ps, SqT K H p.1 [.ref p.2.2.1, p.2.2.2] ∧ Nk K H (.ref p.2.2.1) p.2.1 ∧ p.2.1.depth ≤ 8) ∧ Folds [] [] (ps.map (·.2)) kas xs ∧ ∀ d o, H d = none → (d == sysModules) = false → Q (.ref d) (upd H d (.ext (dvF P w d o kas xs)))
section
variable {X : Cx}
theorem pairsN_of {pins : List (Addr × Obj)} {σ : L2.St} {H : Hp} {s : Shared} (I : Inv X pins σ H s) : ∀ {ps : List (Addr × NestedKey × Addr × V)}, (∀ p ∈ ps, SqT X.K H p.1 [.ref p.2.2.1, p.2.2.2] ∧ Nk X.K H (.ref p.2.2.1) p.2.1 ∧ p.2.1.depth ≤ 8) →
    ∃ ps' : List (NestedKey × Addr × Value), PV (ps.map (·.2)) ps' ∧ ps'.length = ps.length ∧ (∀ x ∈ ps', (tkN X.prog X.w).is s.heap x.1 x.2.1) ∧ ∀ (j : Nat) (x : NestedKey × Addr × Value), ps'[j]? = some x → ∃ b : Addr, (ps.map (·.1))[j]? = some b ∧ IsTup s.heap b #[.ref x.2.1, x.2.2]
  | [], _ => ⟨[], .nil, rfl, (fun _ m => nomatch m), (fun j x e => by simp at e)⟩
  | (b, k, q, v) :: ps, h => by
    obtain ⟨ps', r, hl, hk, hp⟩ := pairsN_of I fun p m => h p (List.mem_cons_of_mem _ m)
    obtain ⟨h1, h2, h3⟩ := h _ (List.mem_cons_self ..)
    obtain ⟨its, rv, ht, _⟩ := I.tuple h1
    obtain ⟨u, y, ei, ru, ry⟩ := vals2 rv
    subst ei
    cases ru
    refine ⟨(k, q, y) :: ps', .cons ⟨rfl, rfl, ry⟩ r, by rw [List.length_cons, List.length_cons, hl], fun x m => ?_, fun j x e => ?_⟩
    · rcases List.mem_cons.mp m with rfl | m
      · exact key_is I h2 h3
      · exact hk x m
    · cases j with
      | zero =>
        have e' : (k, q, y) = x := Option.some.inj e
        subst e'
        exact ⟨b, rfl, ht⟩
      | succ j =>
        obtain ⟨b', e1, e2⟩ := hp j x (by simpa using e)
        exact ⟨b', by simpa using e1, e2⟩
theorem call_dictN (hc : X.calm = true) (hu : X.A.units + 65 < cLine) : CallR X (.type "dict") (rDictN X.prog X.w X.K) := by
  rintro pins s σ H xs us Q I r ⟨a, ps, kas, xs', rfl, hq, hp, fo, q⟩
  obtain ⟨u, rfl, rx⟩ := vals1 r
  cases rx
  obtain ⟨its, rv, pl, hz⟩ := I.list hq
  have ei := refs_at rv
  subst ei
  rw [List.length_map, List.length_map] at hz
  obtain ⟨ps', rel, hl, hk, hpr⟩ := pairsN_of I hp
  obtain ⟨o, n, ho, hcl, hd, hdat⟩ := pl
  obtain ⟨us', hv', e'⟩ := folds_core fo (us := []) (by simp) rfl .nil rel
  refine call_dict_pairsH (knd := tkN X.prog X.w) (ps := ps') (PairArg.list a _ (fun j => ((ps.map (·.1))[j]?).getD 0) (ps'.map fun x => (Value.ref x.2.1, x.2.2))) (I.ok.hd hc) (show X.A.units + 1 + 1 + 8 < cLine by omega) ⟨⟨o, n, ho, hcl, hd, hdat⟩, ⟨by simp [hl], fun j k v e => ?_⟩⟩ ⟨by simp, fun i key v e => ?_⟩ (fun h' hh x m => ?_) (by rw [List.length_map, hl]; exact hz) fun h' tk hd' hh => ?_
  · rw [List.getElem?_map] at e
    cases hx : ps'[j]? with
    | none => rw [hx] at e; cases e
    | some x =>
      rw [hx] at e
      cases e
      obtain ⟨b, e1, e2⟩ := hpr j x hx
      refine ⟨?_, .inl ?_⟩
      · have e3 : ((ps.map (·.1)).map Value.ref).toArray[j]? = some (.ref b) := by rw [List.getElem?_toArray, List.getElem?_map, e1]; rfl
        simp only [e1, Option.getD_some]
        exact e3
      · simp only [e1, Option.getD_some]
        exact e2
  · have e2 : (ps'.map fun x => (Value.ref x.2.1, x.2.2))[i]? = some (key, v) := e
    rw [List.getElem?_map] at e2
    cases hx : ps'[i]? with
    | none => rw [hx] at e2; cases e2
    | some x =>
      rw [hx] at e2
      cases e2
      exact ⟨x.1, x.2.1, rfl, rfl⟩
  · exact nestedKind_stays.stays (fun b o vs n e _ => hh b o (Nat.ne_of_lt (Heap.lt_size e)) (by simp) e) (hk x m)
  · have hm : (s.heap.objs.size == sysModules) = false := beq_eq_false_iff_ne.mpr (Nat.ne_of_gt I.big)
    rw [show storedAllH [] ps' = entL kas us' from e'] at hd'
    obtain ⟨o', es', ep', ho', hx', hdt', he', _, _⟩ := hd'
    have f : dvF X.prog X.w s.heap.objs.size o' kas xs' h' := ⟨ho', es', ep', us', hx', hdt', hv', he'⟩
    exact ⟨.ref s.heap.objs.size, _, I.laid (t' := tk) (fun b o e => hh b o (by simp) e) (Nat.le_refl _) (dvF_obj f), rfl, q _ o' (I.hok.fresh (Nat.le_refl _)) hm⟩
end
/-- the pairs, one after the other -/
def foldL (ks vs : List LV) : List LV → Option (List LV × List LV)
  | [] => some (ks, vs)
  | .tup [.tup ts, v] :: ps => if kfit (.tup ts) 8 = true then (if kix (.tup ts) ks < ks.length then foldL ks (vs.set (kix (.tup ts) ks) v) ps else foldL (ks ++ [.tup ts]) (vs ++ [v]) ps) else none
  | _ :: _ => none
def fDictN (vs : List LV) (h : List LO) : R LV := match vs with
  | [.vl ps] => if ps.length ≤ 60000 then (match foldL [] [] ps with
    | some (ks, ws) => .ok (.vd ks ws) h
    | none => .bad) else .bad
  | _ => .bad
section
variable {S : Se} {E : XK} {F : Addr → Prop} {ι : List Addr} {H : Hp}
theorem fold_ok : ∀ {ls : List LV} {us : List V} {ks vs ks' vs' : List LV} {kas : List (NestedKey × Addr)} {xs : List V}, RVs S.toSg F ι H ls us → foldL ks vs ls = some (ks', vs') → keysOk kas xs → LV.keys ks = some (kas.map (·.1)) → RVs S.toSg F ι H ks (kas.map fun k => V.ref k.2) → RVs S.toSg F ι H vs xs → kas.length + ls.length ≤ 60000 →
    ∃ (ps : List (Addr × NestedKey × Addr × V)) (kas' : List (NestedKey × Addr)) (xs' : List V), us = (ps.map (·.1)).map V.ref ∧ (∀ p ∈ ps, SqT S.K H p.1 [.ref p.2.2.1, p.2.2.2] ∧ Nk S.K H (.ref p.2.2.1) p.2.1 ∧ p.2.1.depth ≤ 8) ∧ Folds kas xs (ps.map (·.2)) kas' xs' ∧
      keysOk kas' xs' ∧ LV.keys ks' = some (kas'.map (·.1)) ∧ RVs S.toSg F ι H ks' (kas'.map fun k => V.ref k.2) ∧ RVs S.toSg F ι H vs' xs'
  | [], _, _, _, _, _, kas, xs, .nil, e, ok, hk, z1, z2, _ => by
    unfold foldL at e
    cases e
    exact ⟨[], kas, xs, rfl, (fun _ m => nomatch m), .nil, ok, hk, z1, z2⟩
  | l :: ls, _, ks, vs, ks', vs', kas, xs, .cons (v := u) (vs := us) z zs, e, ok, hk, z1, z2, hl => by
    unfold foldL at e
    split at e
    · rename_i a; cases a
    · rename_i ts v ps a
      cases a
      split at e
      · rename_i hf
        obtain ⟨k, k1, k2⟩ := kfit_of _ _ hf
        cases z with
        | @tup b _ ys t1 t2 =>
          cases t2 with
          | @cons _ _ kx _ zk t3 =>
            cases t3 with
            | @cons _ _ vx _ zv t4 =>
              cases t4
              have nk := nk_of _ _ _ zk k1
              have hlen : ks.length = kas.length := by have := z1.length; rw [List.length_map] at this; exact this
              cases zk with
              | @tup q _ _ q1 q2 =>
                rw [List.length_cons] at hl
                split at e
                · rename_i lt
                  have hj := (kix_of k1 hk).1 lt
                  obtain ⟨ps, kas', xs', e1, e2, e3, e4⟩ := fold_ok zs e ⟨ok.1, by rw [List.length_set]; exact ok.2.1, ok.2.2⟩ hk z1 (z2.set zv _) (by omega)
                  refine ⟨(b, k, q, vx) :: ps, kas', xs', by rw [e1]; rfl, fun p m => ?_, .old hj e3, e4⟩
                  rcases List.mem_cons.mp m with rfl | m
                  · exact ⟨t1, nk, k2⟩
                  · exact e2 p m
                · rename_i lt
                  have nin := (kix_of k1 hk).2 lt
                  obtain ⟨ps, kas', xs', e1, e2, e3, e4⟩ := fold_ok (kas := kas ++ [(k, q)]) zs e (keysOk_app (v := vx) ok nin k2 (by omega)) (by rw [List.map_append]; exact keys_app hk k1) (by rw [List.map_append]; exact z1.append (.cons (.tup q1 q2) .nil)) (z2.append (.cons zv .nil)) (by rw [List.length_append, List.length_singleton]; omega)
                  refine ⟨(b, k, q, vx) :: ps, kas', xs', by rw [e1]; rfl, fun p m => ?_, .new nin e3, e4⟩
                  rcases List.mem_cons.mp m with rfl | m
                  · exact ⟨t1, nk, k2⟩
                  · exact e2 p m
      · cases e
    · cases e
theorem vc_dictN : VC S E (rDictN S.P S.w S.K) fDictN := fun F ι h H xs vs Q rp z o => by
  unfold fDictN at o
  split at o
  · rename_i ps
    split at o
    · rename_i hl
      split at o
      · rename_i ks ws e
        cases z with
        | cons a b =>
          cases b
          cases a with
          | @vl a _ us g1 g2 g3 =>
            obtain ⟨pz, kas, xs', e1, e2, e3, ok, e4, e5, e6⟩ := fold_ok g3 e keysOk_nil rfl .nil .nil (by simpa using hl)
            subst e1
            exact ⟨a, pz, kas, xs', rfl, .inl (.inl g1), e2, e3, fun d ob hp low => o F ι _ _ (EX.new hp) (rp.new hp) (.vd upd_same (nF_of_none rp hp) low ok e4 (e5.fwd (Fwd.new rp hp) _ _) (e6.fwd (Fwd.new rp hp) _ _))⟩
      · exact o.elim
    · exact o.elim
  · exact o.elim
end
theorem call_dictNS {X : Cx} (S : Se) (hc : X.calm = true) (hu : X.A.units + 65 < cLine) (hK : X.K = S.K := by rfl) (hw : X.w = S.w := by rfl) (hP : X.prog = S.P := by rfl) : CallR X (.type "dict") (rDictN S.P S.w S.K) := by
  rw [← hK, ← hw, ← hP]
  exact call_dictN hc hu
end Rm
namespace Rm
open PySem PySem.Spec PyProof.Rows L2 RZ PpSet
/-! ### {text: value, ..} that stays, .get(text, value), [text] -/
def mSd (kc : List (List Nat)) (mA : MA) : ME := fun ρ h => (mA ρ h).safe.bind fun vs h1 => .ok (.sd kc vs) h1
def mGet2 (md mi mx : ME) : ME := fun ρ h => (md ρ h).bind fun d h1 => match d with
  | .sd kc vs => (mi ρ h1).bind fun i h2 => (mx ρ h2).bind fun x h3 => match i with
    | .str t => .ok ((lkS kc vs t).getD x) h3
    | _ => .bad
  | _ => .bad
section
variable {S : Se} {E : XK} {td ti tx : TE} {md mi mx : ME} {mA : MA} {trs : List (TE × TE)} {ks : List Str}
theorem se_sd (kc : List (List Nat)) (hp : PrS S E0 trs ks mA) (hk : (ks.map fun k => k.cps.toList) = kc) (hl : ks.length ≤ 15) : SE S E (tDisp trs) (mSd kc mA) := fun F ι h H ρ σ Q rp rs o p hpn => by
  obtain ⟨ex0, rp0⟩ := apart (S := S) (u := .dK []) rp hpn
  have np : p ∉ ι := fun m => rp.dom p (rp.inF p m) hpn
  refine hp _ ι h _ ρ σ _ rp0 (rs.ext rp ex0) (Ok.seqB (rel := RVs S.toSg) o fun F1 ι1 H1 h1 vs xs _ e1 rp1 zs o1 => ?_)
  obtain ⟨s1, s2⟩ := stays e1 np (by rw [upd_same])
  refine ⟨s1, zwK ks xs, rfl, by rw [List.length_zipWith]; omega, ?_⟩
  obtain ⟨j1, j2, j3⟩ := join (S := S) (v := .dK (mergeK [] (zwK ks xs))) hpn (ex0.trans e1) rp1 rp.dom (e1.more _ (.inr rfl)) s2 s1 (fun _ z => nomatch z) (fun _ _ z => nomatch z)
  exact o1 _ _ _ _ j1 j2 (.sd (ks := ks) upd_same (fun z => z.2 rfl) hk (zs.fwd j3 _ _))
theorem se_get2 (hd : SE S E td md) (hi : SE S E ti mi) (hx : SE S E tx mx) : SE S E (tDGet2 td ti tx) (mGet2 md mi mx) := fun F ι h H ρ σ Q rp rs o =>
  hd F ι h H ρ σ _ rp rs (o.seq fun F1 ι1 H1 h1 d dx _ e1 rp1 zd o1 => by
    cases zd with
    | @sd a ks kc vs xs g1 g2 g3 g4 =>
      refine ⟨a, rfl, .inl ⟨_, .inl g1⟩, hi F1 ι1 h1 H1 ρ σ _ rp1 (rs.ext rp e1) (o1.seq fun F2 ι2 H2 h2 i y _ e2 rp2 zi o2 => hx F2 ι2 h2 H2 ρ σ _ rp2 ((rs.ext rp e1).ext rp1 e2) (o2.seq fun F3 ι3 H3 h3 x z _ e3 rp3 zx o3 => ?_))⟩
      obtain ⟨s1, s2⟩ := stays e2 (fun m => g2 (rp1.inF _ m)) g1
      have s3 := e3.keep a _ s2 s1
      split at o3
      · rename_i t _
        cases zi
        refine ⟨_, DGet.k (k := .inr ⟨t.toArray⟩) s3, ?_⟩
        have zs := (g4.ext rp1 e2).ext rp2 e3
        cases e : lkS kc vs t with
        | some v =>
          obtain ⟨x', z', q⟩ := lk_some (s := ⟨t.toArray⟩) (ks := ks) zs (by rw [g3]; simpa using e)
          rw [e] at o3
          rw [q []]
          exact Ok.now (rel := RV S.toSg) o3 rp3 z'
        | none =>
          have q := lk_none (s := ⟨t.toArray⟩) (ks := ks) zs (by rw [g3]; simpa using e) []
          rw [e] at o3
          rw [q]
          exact Ok.now (rel := RV S.toSg) o3 rp3 zx
      · exact o3.elim
    | _ => exact o1.elim)
end
/-! ### -i, xs[::-1], xs.pop(0) -/
def fNeg (v : LV) (h : List LO) : R LV := match v with
  | .int i => .ok (.int (-i)) h
  | _ => .bad
def mRev (ma : ME) : ME := fun ρ h => (ma ρ h).bind fun v h1 => match v.lsf h1 with
  | some xs => .ok (.vl xs.reverse) h1
  | none => .bad
def fPop0 (v w : LV) (h : List LO) : R LV := match v, w with
  | .ref n, .int 0 => match h[n]? with
    | some (.lst (y :: ys)) => .ok y (h.set n (.lst ys))
    | _ => .bad
  | _, _ => .bad
def mPop0 (ma mb : ME) : ME := fun ρ h => (ma ρ h).bind fun v h1 => match v.lst h1 with
  | some _ => (mb ρ h1).bind fun w h2 => fPop0 v w h2
  | none => .bad
section
variable {S : Se} {E : XK} {ta tb : TE} {ma mb : ME}
theorem vu_neg : VU S E (rU fun i => .int (-i)) fNeg := fun F ι h H x v Q rp z o => by
  unfold fNeg at o
  split at o
  · cases z
    exact ⟨_, rfl, Ok.now (rel := RV S.toSg) o rp (.int _)⟩
  · exact o.elim
theorem RVs.reverse {S : Sg} {F : Addr → Prop} {ι : List Addr} {H : Hp} : ∀ {xs : List LV} {vs : List V}, RVs S F ι H xs vs → RVs S F ι H xs.reverse vs.reverse
  | [], _, .nil => .nil
  | x :: xs, _, .cons a b => by
    rw [List.reverse_cons, List.reverse_cons]
    exact (RVs.reverse b).append (.cons a .nil)
theorem se_rev (ha : SE S E ta ma) : SE S E (tRevL S.K ta) (mRev ma) := fun F ι h H ρ σ Q rp rs o =>
  ha F ι h H ρ σ _ rp rs (o.seq fun F1 ι1 H1 h1 v x _ e1 rp1 z o1 => by
    split at o1
    · rename_i xs e
      obtain ⟨a, vs, rfl, q, zs⟩ := lsf_of rp1 z e
      exact ⟨a, vs, rfl, q, fun p hp => ok_vl rp1 zs.reverse o1 hp⟩
    · exact o1.elim)
theorem se_pop0 (ha : SE S E ta ma) (hb : SE S E tb mb) : SE S E (tBM S.K "list" rPopAt ta (tCons tb tNil)) (mPop0 ma mb) := fun F ι h H ρ σ Q rp rs o =>
  ha F ι h H ρ σ _ rp rs (o.seq fun F1 ι1 H1 h1 v x _ e1 rp1 zx o1 => by
    split at o1
    · rename_i xs0 e0
      obtain ⟨a0, vs0, rfl, q0, _⟩ := lst_of rp1 zx e0
      refine ⟨.inl ⟨rfl, vs0, .of q0⟩, hb F1 ι1 h1 H1 ρ σ _ rp1 (rs.ext rp e1) (o1.seq fun F2 ι2 H2 h2 w y _ e2 rp2 zy o2 => ?_)⟩
      have zx2 := zx.ext rp1 e2
      unfold fPop0 at o2
      split at o2
      · split at o2
        · rename_i u us hx
          cases zy
          cases zx2 with
          | ref q =>
            have g := rp2.at hx q
            cases g with
            | @lst _ _ vv g1 g2 =>
              cases g2 with
              | @cons _ _ yv ws zu zus =>
                exact ⟨_, _, 0, 0, yv, rfl, rfl, g1, by decide, by decide, (by show seqIndex? 0 (ws.length + 1) = some 0; unfold seqIndex?; simp), rfl, ok_set rp2 q zus zu o2⟩
        · exact o2.elim
      · exact o2.elim
    · exact o1.elim)
end
theorem pe_revLS {X : Cx} (S : Se) {e : Expr} {te : TE} {k : Nat} {p1 p2 p3 pos : Pos} (he : PE X e te) (hK : X.K = S.K := by rfl) : PE X (.Subscript e (.Slice none none (some (.UnaryOp .USub (.Constant (.int 1) k p1) p2)) p3) pos) (tRevL S.K te) := by
  rw [← hK]
  exact pe_revL he
end Rm
namespace Rm
open PySem PySem.Spec PyProof.Rows L2 RZ PpSet
/-! ### enumerate(text) -/
def Ites (x : Str) : It := ⟨fun i _ => i < x.cps.size, fun i H v H' => ∃ T c, v = .ref T ∧ H T = none ∧ H' = upd H T (.tup [.int (i : Nat), .str ⟨#[c]⟩]) ∧ x.cps[i]? = some c, fun i _ => x.cps.size ≤ i⟩
theorem turn_enumS {P : Program} {w : World} {K : PySem.W.Frag} {elts : List Expr} {kk : Nat} {tpos : Pos} (e it : Addr) (x : Str) (t : Tok) (ty : String) (hty : ty = "str_ascii_iterator" ∨ ty = "str_iterator") :
    Turn P w K (.Tuple elts kk tpos) (Ites x) [e, it] e (fun i h => (∃ old, IsEnum h e it ((i : Nat) : Int) old) ∧ h.IsStrIter it ty x t i ∧ e ≠ it ∧ i ≤ x.cps.size) where
  mem := by simp
  obj := fun i h st b hb => by
    obtain ⟨⟨old, he⟩, ⟨o, ho, hc, hd⟩, _⟩ := st
    have e' : b = e ∨ b = it := by simpa using hb
    rcases e' with z | z
    · rw [z]; exact ⟨_, he, fun v q => nomatch q⟩
    · rw [z]; exact ⟨o, ho, fun v q => by rw [hd] at q; cases q⟩
  keep := fun i h h' st k => let ⟨⟨old, he⟩, ⟨o, ho, r⟩, hne, hle⟩ := st; ⟨⟨old, k e (by simp) _ he⟩, ⟨o, k it (by simp) o ho, r⟩, hne, hle⟩
  item := by
    intro X hP hw hK hc i pins s σ H E I hf st hg
    subst hP hw hK
    obtain ⟨⟨old, he⟩, hit, hne, hle⟩ := st
    have D : Draws X.prog X.w X.A.in1 it [it] x.cps.size (fun i v => ∃ c u, x.cps[i]? = some c ∧ v = .str ⟨#[c]⟩ u) (fun i h => h.IsStrIter it ty x t i) := by
      rcases hty with e | e
      · rw [e]; exact Draws.strAscii (show X.A.in1.handled = none from I.ok.hd hc) it x t
      · rw [e]; exact Draws.strWide (show X.A.in1.handled = none from I.ok.hd hc) it x t
    have hel : e < s.heap.objs.size := Heap.lt_size he
    have hil : it < s.heap.objs.size := by obtain ⟨_, q, _⟩ := hit; exact Heap.lt_size q
    refine wpAny_pyNext_enum_itemD D he hit hg hne (by simpa using hne) fun v h' tk hv ho hit' hT hsz hk => ?_
    obtain ⟨c, u, hcx, rfl⟩ := hv
    refine ⟨_, rfl, wpAny_letOwnedTupleGo_enum (s := { s with heap := h', toks := tk + 1 }) ho fun h'' he' sb => ?_⟩
    have hT2 : h''.get? s.heap.objs.size = some { cls := .type "tuple", data := .seq #[.int i tk, .str ⟨#[c]⟩ u] } := (sb.2 _ (Nat.ne_of_gt hel)).trans hT
    have new : ObjOk X.prog X.w (upd H s.heap.objs.size (.tup [.int (i : Nat), .str ⟨#[c]⟩])) h'' s.heap.objs.size (.tup [.int (i : Nat), .str ⟨#[c]⟩]) :=
      ⟨by show 2 ≤ sizeLine; decide, [.int i tk, .str ⟨#[c]⟩ u], .cons ⟨_, rfl⟩ (.cons ⟨_, rfl⟩ .nil), ⟨_, hT2, rfl, _, rfl⟩⟩
    have I1 : Inv X pins σ (upd H s.heap.objs.size (.tup [.int (i : Nat), .str ⟨#[c]⟩])) { s with heap := h'', toks := tk + 1 } :=
      I.turnedNew (ch := [e, it]) (fun b ob hb q => (sb.2 b (fun z => hb (by simp [z]))).trans (hk b ob (fun z => hb (by simp [z])) (fun z => hb (by simp [z])) q)) hf (Nat.le_refl _) new
    have hit2 : h''.IsStrIter it ty x t (i + 1) := by
      obtain ⟨o, q, r⟩ := hit'
      exact ⟨o, (sb.2 it (Ne.symm hne)).trans q, r⟩
    refine ⟨.ref s.heap.objs.size, _, I1, rfl, ⟨_, c, rfl, I.hok.fresh (Nat.le_refl _), rfl, hcx⟩, ⟨⟨.str ⟨#[c]⟩ u, ?_⟩, hit2, hne, hg⟩, fun b hb => ?_⟩
    · have e1 : ((i + 1 : Nat) : Int) = (i : Int) + 1 := by omega
      rw [e1]; exact he'
    · have hb' : b < s.heap.objs.size := by
        have e' : b = e ∨ b = it := by simpa using hb
        rcases e' with z | z
        · rw [z]; exact hel
        · rw [z]; exact hil
      rw [upd_ne (Nat.ne_of_lt hb')]
      exact (hf b hb).1
  done := by
    intro X hP hw hK hc i pins s σ H E I hf st hg
    subst hP hw hK
    obtain ⟨⟨old, he⟩, hit, hne, hle⟩ := st
    have ei : i = x.cps.size := Nat.le_antisymm hle hg
    subst ei
    have D : Draws X.prog X.w X.A.in1 it [it] x.cps.size (fun i v => ∃ c u, x.cps[i]? = some c ∧ v = .str ⟨#[c]⟩ u) (fun i h => h.IsStrIter it ty x t i) := by
      rcases hty with e | e
      · rw [e]; exact Draws.strAscii (show X.A.in1.handled = none from I.ok.hd hc) it x t
      · rw [e]; exact Draws.strWide (show X.A.in1.handled = none from I.ok.hd hc) it x t
    obtain ⟨f0, f1, f2, f3, f4, f5⟩ := hf it (by simp)
    exact wpAny_pyNext_enum_endD D he hit fun h' eb => ⟨rfl, I.turned (t' := s.toks) (fun b o hb q => eb b o hb q) f0 f1 f3 f4 f5⟩
  self := fun A i s Q E st h => let ⟨⟨_, he⟩, _⟩ := st; wpAny_pyIter_enum he h
def iEnumS (ta : TA) : TI := fun σ H R => ta σ H fun vs H1 => ∃ x, vs = [.str x] ∧ R (Ites x) H1
theorem strIter_ty (x : Str) : strIterType x = "str_ascii_iterator" ∨ strIterType x = "str_iterator" := by
  unfold strIterType
  split
  · exact .inl rfl
  · exact .inr rfl
theorem pi_enumT {X : Cx} {e : Expr} {ta : TA} {p pos tpos : Pos} {elts : List Expr} {kk : Nat} (hg : Gl X "enumerate") (hm : X.mg "enumerate" = none) (ha : PA X [e] ta) (hs : starEach [e] X.env = [(false, eval e X.env)] := by rfl) :
    PI X (.Tuple elts kk tpos) (.Call (.Name "enumerate" p) [e] [] pos) (iEnumS ta) := by
  refine ⟨fun pins s σ H R I h => ?_⟩
  refine Call_ (ld_blt I hg hm boot_enumerate (PyProof.Rows.callWith_type1 (thn (ha.run pos pins s σ H _ I h) fun us s1 ⟨vs, H1, I1, r1, q1⟩ => ?_) hs rfl))
  obtain ⟨x, ex, q⟩ := q1
  subst ex
  cases r1 with
  | cons r rr =>
    cases rr
    obtain ⟨t, rfl⟩ := r
    refine call_enumerate_str fun h' he hit hsz hk => wpAny_pyIter_enum he ?_
    have I2 : Inv X pins σ H1 { s1 with heap := h' } := I1.kept (t' := s1.toks) hk
    refine ⟨s1.heap.objs.size + 1, [s1.heap.objs.size + 1, s1.heap.objs.size], _, _, H1, rfl, I2, turn_enumS (s1.heap.objs.size + 1) s1.heap.objs.size x t _ (strIter_ty x), ⟨⟨.none, he⟩, hit, Nat.succ_ne_self _, Nat.zero_le _⟩, fun b hb => ?_, q⟩
    have e' : b = s1.heap.objs.size + 1 ∨ b = s1.heap.objs.size := by simpa using hb
    have hle : s1.heap.objs.size ≤ b := by
      rcases e' with z | z
      · rw [z]; exact Nat.le_add_right _ _
      · rw [z]; exact Nat.le_refl _
    exact I1.fpOk hle (I1.hok.fresh hle)
def iEnumX (K : PySem.W.Frag) (ta : TA) : TI := fun σ H R => iEnum K ta σ H R ∨ iEnumS ta σ H R
theorem pi_enumX {X : Cx} (S : Se) {e : Expr} {ta : TA} {p pos tpos : Pos} {elts : List Expr} {kk : Nat} (hg : Gl X "enumerate") (hm : X.mg "enumerate" = none) (ha : PA X [e] ta) (hs : starEach [e] X.env = [(false, eval e X.env)] := by rfl) (hK : X.K = S.K := by rfl) :
    PI X (.Tuple elts kk tpos) (.Call (.Name "enumerate" p) [e] [] pos) (iEnumX S.K ta) := by
  rw [← hK]
  exact PI.or (pi_enum hg hm ha hs) (pi_enumT hg hm ha hs)
def mEnumX (ma : MA) : MI := fun ρ h => (ma ρ h).bind fun vs h1 => match vs with
  | [.vl xs] => .ok (.vals (enumL 0 xs)) h1
  | [.str a] => .ok (.vals (enumL 0 (a.map fun c => .str [c]))) h1
  | _ => .bad
section
variable {S : Se} {E : XK} {tA : TA} {mA : MA}
theorem si_enumS (ha : SA S E tA mA) : SI S E (iEnumS tA) (fun ρ h => (mA ρ h).bind fun vs h1 => match vs with
  | [.str a] => .ok (.vals (enumL 0 (a.map fun c => .str [c]))) h1
  | _ => .bad) := fun F ι h H ρ σ Q rp rs o =>
  ha F ι h H ρ σ _ rp rs (o.seq fun F1 ι1 H1 h1 vs xs0 q0 e1 rp1 z o1 => by
    clear q0
    split at o1
    · rename_i a
      cases z with
      | cons z b =>
        cases b
        cases z
        refine ⟨_, rfl, Ok.now (rel := WalkAt S) o1 rp1 fun F' ι' h' H' i e r => ?_⟩
        show match some (enumL 0 (a.map fun c => LV.str [c]))[i]? with | some (some v) => _ | some none => _ | none => _
        rw [enumL_get, List.getElem?_map]
        cases hx : a[i]? with
        | none =>
          have := List.getElem?_eq_none_iff.mp hx
          show (a.toArray).size ≤ i
          simpa using this
        | some c =>
          refine ⟨(by show i < (a.toArray).size; simpa using (List.getElem?_eq_some_iff.mp hx).1), fun v H'' hv => ?_⟩
          obtain ⟨T, c2, rfl, hT, rfl, q1⟩ := hv
          have e2 : c2 = c := by
            have q2 : a[i]? = some c2 := by simpa using q1
            rw [hx] at q2
            exact (Option.some.inj q2).symm
          subst e2
          rw [Nat.zero_add]
          exact new_pair r hT (.int _) (.str [c2])
    · exact o1.elim)
theorem si_enumX (ha : SA S E tA mA) : SI S E (iEnumX S.K tA) (mEnumX mA) := fun F ι h H ρ σ Q rp rs o => by
  cases hm : mA ρ h with
  | bad =>
    simp only [mEnumX, hm, R.bind] at o
    exact o.elim
  | er c h' =>
    refine .inl (si_enum ha F ι h H ρ σ Q rp rs ?_)
    simp only [mEnum, mEnumX, hm, R.bind] at o ⊢
    exact o
  | ok vs h1 =>
    by_cases d : ∃ a, vs = [.str a]
    · obtain ⟨a, rfl⟩ := d
      refine .inr (si_enumS ha F ι h H ρ σ Q rp rs ?_)
      simp only [mEnumX, hm, R.bind] at o ⊢
      exact o
    · refine .inl (si_enum ha F ι h H ρ σ Q rp rs ?_)
      simp only [mEnum, mEnumX, hm, R.bind] at o ⊢
      split at o
      · exact o
      · exact absurd ⟨_, rfl⟩ d
      · exact o.elim
end
/-! ### list(text) -/
def signsV (x : Str) : List V := x.cps.toList.map fun c => V.str ⟨#[c]⟩
def rListT : List V → Hp → VK → Prop := fun xs H Q => ∃ x : Str, xs = [.str x] ∧ x.cps.size ≤ 60000 ∧ ∀ p, H p = none → Q (.ref p) (upd H p (.lst (signsV x)))
theorem call_listT {X : Cx} (hc : X.calm = true) : CallR X (.type "list") rListT := by
  rintro pins s σ H xs us Q I r ⟨x, rfl, hl, q⟩
  obtain ⟨u, rfl, t, rfl⟩ := vals1 r
  refine call_list_str (I.ok.hd hc) x t (fun h' tk acc' c' kp e it => ?_) (le_sz hl)
  have rv : Vals (signsV x) acc'.toList := by
    refine vals_of_idx _ _ (by rw [Array.length_toList, it.1]; simp [signsV]) fun j v hj => ?_
    obtain ⟨c, u, hcx, rfl⟩ := it.2 j v (by rw [← Array.getElem?_toList]; exact hj)
    refine ⟨.str ⟨#[c]⟩, ?_, ⟨u, rfl⟩⟩
    unfold signsV
    rw [List.getElem?_map, Array.getElem?_toList, hcx]
    rfl
  exact ⟨.ref s.heap.objs.size, _, I.laid (t' := tk) kp (Nat.le_refl _) (show ObjOk X.prog X.w _ h' _ (.lst (signsV x)) from ⟨le_sz (by simpa [signsV] using hl), acc'.toList, c', rv, by simpa using e⟩), rfl, q _ (I.hok.fresh (Nat.le_refl _))⟩
def rListY (P : Program) (w : World) (K : PySem.W.Frag) : List V → Hp → VK → Prop := fun xs H Q => rListX P w K xs H Q ∨ rListT xs H Q
def fListY (vs : List LV) (h : List LO) : R LV := match vs with
  | [.str a] => if a.length ≤ 60000 then .ok (.vl (a.map fun c => .str [c])) h else .bad
  | vs => fListX vs h
theorem rvs_signs {S : Sg} {F : Addr → Prop} {ι : List Addr} {H : Hp} : ∀ a : List Nat, RVs S F ι H (a.map fun c => LV.str [c]) (a.map fun c => V.str ⟨#[c]⟩)
  | [] => .nil
  | c :: a => .cons (.str [c]) (rvs_signs a)
theorem vc_listY {S : Se} {E : XK} : VC S E (rListY S.P S.w S.K) fListY := fun F ι h H xs vs Q rp z o => by
  unfold fListY at o
  split at o
  · rename_i a
    split at o
    · rename_i hl
      cases z with
      | cons z b =>
        cases b
        cases z
        refine .inr ⟨_, rfl, by simpa using hl, fun p hp => ok_vl rp ?_ o hp⟩
        exact rvs_signs a
    · exact o.elim
  · exact .inl (vc_listX F ι h H xs _ Q rp z o)
theorem call_listYS {X : Cx} (S : Se) (hc : X.calm = true) (hK : X.K = S.K := by rfl) (hw : X.w = S.w := by rfl) (hP : X.prog = S.P := by rfl) : CallR X (.type "list") (rListY S.P S.w S.K) := by
  rw [← hK, ← hw, ← hP]
  exact (call_listX hc).or (call_listT hc)
/-! ### xs + ys that changes later -/
def fAddM (v w : LV) (h : List LO) : R LV := match v.lst h, w.lst h with
  | some xs, some ys => if xs.length + ys.length ≤ 60000 then .ok (.ref h.length) (h ++ [.lst (xs ++ ys)]) else .bad
  | _, _ => .bad
theorem vo_addM {S : Se} {E : XK} : VO S E (rAddAll S.K) fAddM := fun F ι h H x y v w Q rp zx zy o => by
  unfold fAddM at o
  split at o
  · rename_i xs ys e1 e2
    split at o
    · rename_i hl
      obtain ⟨a, vs, rfl, h1, z1⟩ := lst_of rp zx e1
      obtain ⟨b, ws, rfl, h2, z2⟩ := lst_of rp zy e2
      refine .inr (.inr (.inl ⟨_, _, _, _, rfl, rfl, h1, h2, le_sz (by rw [← z1.length, ← z2.length]; exact hl), fun p hp => o _ _ _ _ (EX.newM hp) (rp.newM hp (.lst upd_same ((z1.append z2).fwd ((EX.newM (S := S) hp).fwd rp) _ _))) (.ref ?_)⟩))
      rw [← rp.len, List.getElem?_append_right (Nat.le_refl _)]
      simp
    · exact o.elim
  · exact o.elim
end Rm
namespace Rm
open PySem PySem.Spec PyProof.Rows L2 RZ PpSet CwR
/-! ### a token is out behind a written text -/
structure PE1 (X : Cx) (e : Expr) (t : TE) : Prop where
  run : ∀ (pins : List (Addr × Obj)) (s : Shared) (σ : L2.St) (H : Hp) (Q : VK), Inv X pins σ H s → t σ H Q → wpAny (model X.prog X.w) X.A (eval e X.env) (fun u s' => 1 ≤ s'.toks ∧ EP X pins σ Q u s') X.xe s
theorem pe1_addK {X : Cx} {a : Expr} {c : Str} {j : Nat} {cp pos : Pos} {r : R2} {ta : TE} (ho : OpR X (binaryOp .Add) r) (ha : PE X a ta) : PE1 X (.BinOp a .Add (.Constant (.str c) j cp) pos) (tOp r ta (tC (.str c))) := by
  constructor
  intro pins s σ H Q I h
  refine wpAny_BinOp (thn (ha.run pins s σ H _ I h) ?_)
  rintro v s1 ⟨x, H1, I1, r1, q1⟩
  refine Calls.Constant_str ?_
  have z := ho pins { s1 with toks := s1.toks + 1 } σ H1 x (.str c) v (.str c s1.toks) Q (I1.tok _) r1 ⟨_, rfl⟩ q1
  refine wpAny_mono (PySem.wpAny_toks z) ?_ (fun _ _ z => z.2)
  rintro u s2 ⟨hk, e⟩
  exact ⟨Nat.le_trans (Nat.succ_le_succ (Nat.zero_le _)) hk, e⟩
theorem pa1_cons {X : Cx} {e : Expr} {es : List Expr} {te : TE} {ta : TA} (ha : PE1 X e te) (hr : PAT X es ta) (hs : starEach (e :: es) X.env = (false, eval e X.env) :: starEach es X.env := by rfl) : PA X (e :: es) (tCons te ta) := by
  constructor
  intro pos pins s σ H Q I h
  rw [hs]
  refine Calls.spliced_cons (wpAny_mono (ha.run pins s σ H _ I h) ?_ (fun _ _ z => z))
  rintro v s1 ⟨hk, x, H1, I1, r1, q1⟩
  refine wpAny_mono (hr pos pins s1 σ H1 _ hk I1 q1) ?_ (fun _ _ z => z)
  rintro us s2 ⟨xs, H2, I2, r2, q2⟩
  exact ⟨x :: xs, H2, I2, .cons r1 r2, q2⟩
/-! ### text.replace(written, written) -/
def mReplC (m : ME) (y z : List Nat) : ME := fun ρ h => (m ρ h).bind fun v h1 => match v with
  | .str x => if x.length ≤ 1000 ∧ z.length ≤ 1000 then .ok (.str (Txt.replace ⟨x.toArray⟩ ⟨y.toArray⟩ ⟨z.toArray⟩).cps.toList) h1 else .bad
  | _ => .bad
section
variable {S : Se} {E : XK} {ta : TE} {ma : ME}
theorem se_replC {y z : Str} {yl zl : List Nat} (ha : SE S E ta ma) (hy : y.cps.toList = yl := by decide +kernel) (hz : z.cps.toList = zl := by decide +kernel) : SE S E (tReplC ta y z) (mReplC ma yl zl) := fun F ι h H ρ σ Q rp rs o => by
  subst hy hz
  refine ha F ι h H ρ σ _ rp rs (o.seq fun F1 ι1 H1 h1 v x _ e1 rp1 zx o1 => ?_)
  cases zx with
  | str a =>
    dsimp only at o1
    split at o1
    · rename_i c
      refine ⟨_, rfl, ?_, ?_⟩
      · have h1 : (⟨a.toArray⟩ : Str).length = a.length := by show a.toArray.size = _; simp
        have h2 : z.length = z.cps.toList.length := by show z.cps.size = _; simp
        rw [h1, h2]
        have : (a.length + 1) * z.cps.toList.length ≤ 1001 * 1000 := Nat.mul_le_mul (by omega) c.2
        omega
      · exact Ok.now (rel := RV S.toSg) o1 rp1 (by
          have := RV.str (S := S.toSg) (F := F1) (ι := ι1) (H := H1) (Txt.replace ⟨a.toArray⟩ y z).cps.toList
          simpa using this)
    · exact o1.elim
  | _ => exact o1.elim
end
end Rm
namespace Rm
open PySem PySem.Spec PyProof.Rows L2 RZ PpSet
/-! ### != by an own __eq__, at the library's level -/
section
variable {M : Model} {prog : Program} {w : World} {A : Around} {E : Value → Shared → Prop} {s : Shared} {K : PySem.W.Frag} {x C f : Addr} {ox : Obj} {od : Option Obj} {y tb : Value}
theorem ifBound_objNe {args : List Value} {Q : Option Value → Shared → Prop} (X : K.In s.heap) (I : PySem.W.InstAt s.heap x ox C od) (hs : PySem.W.findIn K (.ref C) "__ne__" = some (some (.builtin "object.__ne__")))
    (h : wpAny M A (call (.builtin "object.__ne__") (.ref x :: args)) (fun v => Q (some v)) E s) : wpAny M A (callSpecialIfBound? (.ref x) "__ne__" args) Q E s := by
  simp only [callSpecialIfBound?, bindSpecialIfBound?]
  refine wpAny_holding (wpAny_bind (wpAny_bind (wpAny_bind (I.type.here ((PySem.W.looks_findIn X hs).here ?_)))))
  refine wpAny_bind (wpAny_askSetting (wpAny_ite ?_))
  have fin : wpAny M A (call (.builtin "object.__ne__") ([.ref x] ++ args) >>= fun v => pure (some v)) Q E s := wpAny_bind (wpAny_mono h (fun v s' h' => wpAny_pure h') fun _ _ h' => h')
  split
  · exact wpAny_bind (wpAny_of_eq (F.cmp_object.ne.bind _) (wpAny_pure (by exact fin)))
  · exact wpAny_tryCatch (wpAny_bind (wpAny_of_eq (F.cmp_object.ne.bind _) (wpAny_pure (by exact fin))))
theorem entry_ne {Q : Fin → Shared → Prop} (hu : A.units < cLine) (X : K.In s.heap) (I : PySem.W.InstAt s.heap x ox C od) (hs : PySem.W.findIn K (.ref C) "__eq__" = some (some (.ref f))) (hf : PySem.W.isFn K (.ref f) = true)
    (h : wpAny (model prog w) A (call (.ref f) [.ref x, y]) (fun v s' => ∃ b, v = .bool b ∧ Q (.done (.ret (.bool (!b)))) s') E s) : wpAny (model prog w) A (Builtin.«object.__ne__» ⟨[.ref x, y], []⟩) Q E s := by
  unfold Builtin.«object.__ne__»
  repeat (first
    | with_reducible refine wpAny_cRoomFor hu ?_
    | (refine wpAny_bind (m := callSpecialIfBound? (.ref x) (Str.ofString "__eq__") [y])
        (PySem.W.ifBound_K X I hs hf (wpAny_mono h (fun r s' hr => by
          obtain ⟨b, rfl, hq⟩ := hr
          repeat (first | exact hq | exact wpAny_pure hq | exact wpAny_truthy_bool hq | (refine wpAny_bind (m := truthy (.bool _)) (wpAny_truthy_bool ?_)) | wp_step)) fun _ _ e => e)))
    | wp_step)
theorem cmp_ne {Q : Value → Shared → Prop} (hu : A.units + 1 < cLine) (X : K.In s.heap) (I : PySem.W.InstAt s.heap x ox C od) (hb : PySem.W.Looks (model prog w) s.heap (typeOf y) tb) (hn : PySem.W.notFirst K C tb = true)
    (hm : PySem.W.mroIn K C (.type "object") = some true) (hne : PySem.W.findIn K (.ref C) "__ne__" = some (some (.builtin "object.__ne__"))) (hs : PySem.W.findIn K (.ref C) "__eq__" = some (some (.ref f))) (hf : PySem.W.isFn K (.ref f) = true)
    (h : wpAny (model prog w) A.in1 (call (.ref f) [.ref x, y]) (fun v s' => ∃ b, v = .bool b ∧ Q (.bool (!b)) s') E s) : wpAny (model prog w) A (richCompare .NotEq (.ref x) y) Q E s := by
  have one : wpAny (model prog w) A (tryCompare (.ref x) (cmpInfo .NotEq).2.1 y) (fun r s' => ∃ v, r = some v ∧ Q v s') E s := by
    unfold tryCompare
    refine wpAny_bind (ifBound_objNe X I hne (wpAny_call (codeAny_call_builtin F.cmp_object.ne.plain F.cmpEntry_ne (PySem.W.check_slot F.cmpKind_ne F.cmpSplit_ne (I.type.andThen (PySem.W.looks_mroIn X hm)) (F.cmpArgs_ne _ _) (entry_ne (A := A.in1) hu X I hs hf (wpAny_mono h (fun v s' hv => ?_) fun _ _ e => e))))))
    obtain ⟨b, rfl, q⟩ := hv
    exact ⟨b, rfl, wpAny_pure ⟨_, rfl, q⟩⟩
  unfold richCompare
  simp only [oneThing_ref]
  refine wpAny_holding (wpAny_bind (wpAny_cRoomFor (Nat.lt_of_succ_lt hu) ?_))
  refine wpAny_bind (I.type.here (wpAny_bind (hb.here ?_)))
  split
  · rename_i q
    have e : PySem.W.subIn K tb (.ref C) = some false := by
      rcases Bool.or_eq_true_iff.mp hn with e | e
      · rw [beq_iff_eq.mp e] at q; simp at q
      · exact beq_iff_eq.mp e
    refine wpAny_bind ((PySem.W.looks_subIn X e).here ?_)
    simp only [Bool.false_eq_true, if_false]
    refine wpAny_bind (wpAny_mono one (fun r s' z => ?_) fun _ _ e => e)
    obtain ⟨v, rfl, hq⟩ := z
    exact wpAny_pure hq
  · refine wpAny_bind (wpAny_pure ?_)
    simp only [Bool.false_eq_true, if_false]
    refine wpAny_bind (wpAny_mono one (fun r s' z => ?_) fun _ _ e => e)
    obtain ⟨v, rfl, hq⟩ := z
    exact wpAny_pure hq
end
/-! ### == and != by an own __eq__, over the abstract heap -/
def rOwnE (K : PySem.W.Frag) (C : Addr) (neg : Bool) (sp : Sp) (E : XK) : R2 := fun x y H Q => ∃ a dx fs t, x = .ref a ∧ H a = some (.ins C dx fs) ∧ TyX K H y t ∧ PySem.W.notFirst K C t = true ∧ sp [x, y] H (fun v H' => ∃ b, v = .bl b ∧ Q (.bl (if neg then !b else b)) H') E
section
variable {X : Cx} {n : Nat} {C f : Addr} {fd : FuncData} {ps : List Str} {sp : Sp} {E : XK} {CX : CXT}
theorem own_run (F : FnOk X.prog X.w X.K X.mg X.base CX n f fd ps sp) (hb : Binds X.K fd ps []) (hx : Passes CX X E) {A : Around} {pins : List (Addr × Obj)} {σ : L2.St} {H : Hp} {s : Shared} {x y : V} {u v : Value} {Q : VK} (hr : Room n A) (e0 : Env0 X.prog X.w X.K X.mg X.base A X.stack s H) (I : Inv X pins σ H s) (rx : RelV x u) (ry : RelV y v)
    (q : sp [x, y] H (fun v H' => ∃ b, v = .bl b ∧ Q (.bl b) H') E) : wpAny (model X.prog X.w) A (call (.ref f) [u, v]) (fun w s' => ∃ b H', w = .bool b ∧ Inv X pins σ H' s' ∧ Q (.bl b) H') X.xe s := by
  have hl := F.len _ _ _ _ q
  have r2 : Vals [x, y] [u, v] := .cons rx (.cons ry .nil)
  refine wpAny_call (codeAny_mono (F.run A X.stack s H ⟨[u, v], []⟩ [u, v] [x, y] _ E hr e0 (by
    have := hb s [u, v] I.kIn (by simpa using hl)
    simpa using this) r2 q) fun r s' hq => ?_)
  cases r with
  | error e => exact hx pins σ H s e s' I hq
  | ok fl =>
    cases fl with
    | ret w =>
      obtain ⟨z, H', I', rz, b, ez, ex⟩ := I.after hq
      subst ez
      cases rz
      exact ⟨b, H', rfl, I', ex⟩
    | next => exact False.elim hq
    | brk => exact False.elim hq
    | cont => exact False.elim hq
theorem op_ownEq (F : FnOk X.prog X.w X.K X.mg X.base CX n f fd ps sp) (hb : Binds X.K fd ps []) (hx : Passes CX X E) (hr : Room n X.A) (hs : PySem.W.findIn X.K (.ref C) "__eq__" = some (some (.ref f))) (hf : PySem.W.isFn X.K (.ref f) = true) : OpR X (compareOp .Eq) (rOwnE X.K C false sp E) := by
  intro pins s σ H x y v u Q I rx ry h
  obtain ⟨a, dx, fs, t, rfl, ha, ty, hn, q⟩ := h
  cases (show v = Value.ref a from rx)
  obtain ⟨mA, J, _⟩ := ins_get I.hok ha
  obtain ⟨od, J, _⟩ := J.look
  obtain ⟨m, hF⟩ := I.fr
  obtain ⟨P, Z, p, _⟩ := kit_of I ry ty
  show wpAny (model X.prog X.w) X.A (richCompare .Eq (.ref a) u) (EP X pins σ Q) X.xe s
  refine PySem.W.cmp_K (op := .Eq) (tb := t) hr.units0 hF I.ok.mod.kin J (Z.ty _ _ I.kIn p) hn hs hf (wpAny_mono (own_run F hb hx hr I.env0 I rx ry q) (fun w s' z => ?_) fun _ _ x => x)
  obtain ⟨b, H', rfl, I', q'⟩ := z
  exact ⟨.bl b, H', I', rfl, q'⟩
theorem op_ownNe (F : FnOk X.prog X.w X.K X.mg X.base CX n f fd ps sp) (hb : Binds X.K fd ps []) (hx : Passes CX X E) (hr : Room (n + 1) X.A) (hs : PySem.W.findIn X.K (.ref C) "__eq__" = some (some (.ref f))) (hf : PySem.W.isFn X.K (.ref f) = true)
    (hm : PySem.W.mroIn X.K C (.type "object") = some true) (hne : PySem.W.findIn X.K (.ref C) "__ne__" = some (some (.builtin "object.__ne__"))) : OpR X (compareOp .NotEq) (rOwnE X.K C true sp E) := by
  intro pins s σ H x y v u Q I rx ry h
  obtain ⟨a, dx, fs, t, rfl, ha, ty, hn, q⟩ := h
  cases (show v = Value.ref a from rx)
  obtain ⟨mA, J, _⟩ := ins_get I.hok ha
  obtain ⟨od, J, _⟩ := J.look
  obtain ⟨P, Z, p, _⟩ := kit_of I ry ty
  have hu : X.A.units + 1 < cLine := by
    have := hr.in1.units0
    exact this
  show wpAny (model X.prog X.w) X.A (richCompare .NotEq (.ref a) u) (EP X pins σ Q) X.xe s
  refine cmp_ne (tb := t) hu I.kIn J (Z.ty _ _ I.kIn p) hn hm hne hs hf (wpAny_mono (own_run (Q := fun z H' => ∃ b, z = .bl b ∧ Q (.bl (!b)) H') F hb hx hr.in1 I.env0.in1 I rx ry ?_) (fun w s' z => ?_) fun _ _ x => x)
  · have e : (fun v H' => ∃ b, v = V.bl b ∧ Q (.bl (if true = true then !b else b)) H') = fun v H' => ∃ b, v = V.bl b ∧ ∃ c, V.bl b = V.bl c ∧ Q (.bl (!c)) H' := by
      funext v H'
      refine propext ⟨fun ⟨b, e, q⟩ => ⟨b, e, b, rfl, q⟩, fun ⟨b, e, c, e2, q⟩ => ?_⟩
      cases e2
      exact ⟨b, e, q⟩
    rw [← e]
    exact q
  · obtain ⟨b, H', rfl, I', c, e, q'⟩ := z
    cases e
    exact ⟨b, rfl, .bl (!b), H', I', rfl, q'⟩
end
/-! ### over values -/
theorem sub_ty {K : PySem.W.Frag} {C : Addr} {n : String} (h : n = "NoneType" ∨ n = "bool" ∨ n = "int" ∨ n = "str" ∨ n = "tuple" ∨ n = "list") : PySem.W.notFirst K C (.type n) = true := by
  have e1 : fastBuiltinMro "NoneType" = some [.type "NoneType", .type "object"] := by decide +kernel
  have e2 : fastBuiltinMro "bool" = some [.type "bool", .type "int", .type "object"] := by decide +kernel
  have e3 : fastBuiltinMro "int" = some [.type "int", .type "object"] := by decide +kernel
  have e4 : fastBuiltinMro "str" = some [.type "str", .type "object"] := by decide +kernel
  have e5 : fastBuiltinMro "tuple" = some [.type "tuple", .type "object"] := by decide +kernel
  have e6 : fastBuiltinMro "list" = some [.type "list", .type "object"] := by decide +kernel
  unfold PySem.W.notFirst PySem.W.subIn
  rcases h with h | h | h | h | h | h <;> subst h <;> simp [e1, e2, e3, e4, e5, e6]
/-- the class C has its own ==, at f; and it stands above none of those of ds -/
structure EqC (S : Se) (C : Nat) (f : Addr) (ds : List Nat) : Prop where
  eq : PySem.W.findIn S.K (.ref (S.ct C)) "__eq__" = some (some (.ref f))
  fn : PySem.W.isFn S.K (.ref f) = true
  ne : PySem.W.findIn S.K (.ref (S.ct C)) "__ne__" = some (some (.builtin "object.__ne__"))
  mro : PySem.W.mroIn S.K (S.ct C) (.type "object") = some true
  oth : ∀ D ∈ ds, ObjC S D ∧ PySem.W.notFirst S.K (S.ct C) (.ref (S.ct D)) = true
def tyE (ds : List Nat) (h : List LO) (w : LV) : Bool := match w with
  | .obj D _ => ds.contains D
  | w => (tyN h w).isSome
def mEqI (neg : Bool) (C : Nat) (ds : List Nat) (f : MF) (ma mb : ME) : ME := fun ρ h => (ma ρ h).bind fun v h1 => match v with
  | .obj C' fs => if C' = C then (mb ρ h1).bind fun w h2 => (if tyE ds h2 w = true then (if LV.pures [.obj C' fs, w] = true then match f [.obj C' fs, w] [] with
      | .ok v h' => match outV h' v with
        | some (.bl b) => .ok (.bl (if neg then !b else b)) h2
        | _ => .bad
      | _ => .bad
    else .bad) else .bad) else .bad
  | _ => .bad
section
variable {S : Se} {E E' : XK} {ta tb : TE} {ma mb : ME} {C : Nat} {f : Addr} {ds : List Nat} {g : MF}
theorem tyE_of (k : EqC S C f ds) {F : Addr → Prop} {ι : List Addr} {H : Hp} {h : List LO} (rp : Rep S.toSg F ι h H) {w : LV} {y : V} (z : RV S.toSg F ι H w y) (e : tyE ds h w = true) : ∃ t, TyX S.K H y t ∧ PySem.W.notFirst S.K (S.ct C) t = true := by
  by_cases c : ∃ D xs, w = .obj D xs
  · obtain ⟨D, xs, rfl⟩ := c
    cases z with
    | obj a n c d =>
      have e : ds.contains D = true := e
      obtain ⟨oc, nf⟩ := k.oth D (by simpa using e)
      exact ⟨_, .base (.ins a oc.cl oc.ha oc.hn oc.htk oc.hm), nf⟩
  · have e2 : (tyN h w).isSome = true := by
      cases w <;> first | exact e | exact absurd ⟨_, _, rfl⟩ c
    obtain ⟨n, hn⟩ := Option.isSome_iff_exists.mp e2
    refine ⟨_, tyN_of rp z hn, sub_ty ?_⟩
    cases w <;> simp [tyN] at hn <;> first | (subst hn; simp; done) | skip
    split at hn
    · injection hn with hn
      subst hn
      simp
    · cases hn
theorem se_eqI (neg : Bool) (k : EqC S C f ds) (ha : SE S E ta ma) (hb : SE S E tb mb) : SE S E (tOp (rOwnE S.K (S.ct C) neg (spM S 2 g) E') ta tb) (mEqI neg C ds g ma mb) := fun F ι h H ρ σ Q rp rs o =>
  ha F ι h H ρ σ _ rp rs (o.seq fun F1 ι1 H1 h1 v x _ e1 rp1 z o1 => by
    cases z with
    | @obj a C' dx fs xs q nF hnm hfs =>
      dsimp only at o1
      split at o1
      · rename_i hC
        subst hC
        refine hb F1 ι1 h1 H1 ρ σ _ rp1 (rs.ext rp e1) (o1.seq fun F2 ι2 H2 h2 w y _ e2 rp2 zw o2 => ?_)
        have z0 : RV S.toSg F1 ι1 H1 (.obj C' xs) (.ref a) := .obj q nF hnm hfs
        have z1 : RV S.toSg F2 ι2 H2 (.obj C' xs) (.ref a) := z0.ext rp1 e2
        split at o2
        · rename_i ht
          split at o2
          · rename_i hp
            obtain ⟨t, ty, nf⟩ := tyE_of k rp2 zw ht
            cases z1 with
            | @obj _ _ dx2 fs2 _ q2 nF2 hnm2 hfs2 =>
              refine ⟨a, dx2, fs2, t, rfl, q2, ty, nf, ?_⟩
              refine iso_run (S := S) (E := E) (f := g) (n := 2) (vs := [.obj C' xs, w]) rp2 (.cons (.obj q2 nF2 hnm2 hfs2) (.cons zw .nil)) rfl hp ?_
              cases r : g [.obj C' xs, w] [] with
              | ok v h' =>
                rw [r] at o2
                dsimp only at o2 ⊢
                split at o2
                · rename_i b hb'
                  rw [hb']
                  intro F3 ι3 H3 x3 e3 rp3 z3
                  cases z3
                  exact ⟨b, rfl, o2 F3 ι3 H3 _ e3 rp3 (.bl _)⟩
                · exact o2.elim
              | er c h' => rw [r] at o2; exact o2.elim
              | bad => rw [r] at o2; exact o2.elim
          · exact o2.elim
        · exact o2.elim
      · exact o1.elim
    | _ => exact o1.elim)
end
end Rm
namespace Rm
open PySem PySem.Spec PyProof.Rows L2 RZ PpSet
/-! ### None in a dict of tuples -/
section
variable {prog : Program} {w : World} {A : Around} {E : Value → Shared → Prop} {s : Shared} {d : Addr} {xs : List (NestedKey × Addr × Value)}
theorem mayTell_none {stored : List Value} {Q : Bool → Shared → Prop} (hst : ∀ v ∈ stored, ∃ k b, v = Value.ref b ∧ (tkN prog w).is s.heap k b) (h : Q false s) : wpAny (model prog w) A (tableMayTell .none stored) Q E s := by
  unfold tableMayTell
  split
  · exact wpAny_pure h
  · refine wpAny_bind (QuietAt.byValue (n := 8) (v := .none) rfl _ _ _ ?_)
    simp only [Bool.not_true, Bool.false_eq_true, if_false]
    refine wpAny_bind ?_
    refine wpAny_forIn_list _ (fun rest r s' => s' = s ∧ r = (none, ()) ∧ ∀ v ∈ rest, ∃ k b, v = Value.ref b ∧ (tkN prog w).is s.heap k b) _ ?_ ?_ _ _ ⟨rfl, rfl, hst⟩
    · rintro x rest r s' ⟨rfl, rfl, hr⟩
      obtain ⟨k', b, rfl, hb⟩ := hr x List.mem_cons_self
      refine wpAny_bind ((tkN prog w).quiet hb ?_)
      simp only [Bool.not_true, Bool.false_eq_true, if_false]
      exact wpAny_pure ⟨rfl, rfl, fun v hv => hr v (List.mem_cons_of_mem _ hv)⟩
    · rintro r s' ⟨rfl, rfl, _⟩
      exact wpAny_pure h
theorem find_none {o : Obj} {es ep} {hN : Int} {Q : Option Nat → Shared → Prop} (hu : A.units + 9 < cLine) (ho : s.heap.get? d = some o) (hd : o.data = .dict es ep) (he : es.toList = xs.map (entryOfKey (tkN prog w))) (his : ∀ x ∈ xs, (tkN prog w).is s.heap x.1 x.2.1)
    (h : Q none s) : wpAny (model prog w) A (dictFind d .none hN) Q E s := by
  have hmem : ∀ e ∈ es, ∃ x ∈ xs, e = entryOfKey (tkN prog w) x := by
    intro e hin
    have : e ∈ xs.map (entryOfKey (tkN prog w)) := he ▸ Array.mem_toList_iff.mpr hin
    obtain ⟨x, hx, rfl⟩ := List.mem_map.mp this
    exact ⟨x, hx, rfl⟩
  have hst : ∀ v ∈ (placesWithHash es.size (fun i => es[i]?.map (·.hash)) hN).filterMap (fun i => es[i]?.map (·.key)), ∃ k' b, v = Value.ref b ∧ (tkN prog w).is s.heap k' b := by
    intro v hv
    obtain ⟨i, _, hi⟩ := List.mem_filterMap.mp hv
    cases hei : es[i]? with
    | none => rw [hei] at hi; cases hi
    | some e =>
      rw [hei] at hi
      obtain rfl : e.key = v := by simpa using hi
      obtain ⟨x, hx, rfl⟩ := hmem e (Array.mem_of_getElem? hei)
      exact ⟨x.1, x.2.1, rfl, his x hx⟩
  unfold dictFind
  try with_reducible refine wpAny_holding ?_
  refine wpAny_bind (wpAny_dictEntries ho hd ?_)
  dsimp only
  by_cases hall : ((Value.none :: (placesWithHash es.size (fun i => es[i]?.map (·.hash)) hN).filterMap (fun i => es[i]?.map (·.key))).all carriedByValue) = true
  · rw [if_pos hall]
    have hp : ∀ i ∈ placesWithHash es.size (fun i => es[i]?.map (·.hash)) hN, es[i]? = none := by
      intro i hi
      cases hei : es[i]? with
      | none => rfl
      | some e =>
        have hm : e.key ∈ (placesWithHash es.size (fun i => es[i]?.map (·.hash)) hN).filterMap (fun i => es[i]?.map (·.key)) := List.mem_filterMap.mpr ⟨i, hi, by rw [hei]; rfl⟩
        obtain ⟨k', b, e2, _⟩ := hst _ hm
        have := List.all_eq_true.mp hall _ (List.mem_cons_of_mem _ hm)
        rw [e2] at this
        cases this
    unfold dictWalkPlain
    refine wpAny_bind ?_
    refine wpAny_forIn_list _ (fun rest b s' => s' = s ∧ b = (none, ()) ∧ ∀ i ∈ rest, es[i]? = none) _ ?_ ?_ _ _ ⟨rfl, rfl, hp⟩
    · rintro x rest b s' ⟨rfl, rfl, hr⟩
      rw [hr x List.mem_cons_self]
      exact wpAny_pure ⟨rfl, rfl, fun i hi => hr i (List.mem_cons_of_mem _ hi)⟩
    · rintro b s' ⟨rfl, rfl, _⟩
      exact wpAny_pure h
  · rw [if_neg hall]
    by_cases hone : (((placesWithHash es.size (fun i => es[i]?.map (·.hash)) hN).filterMap (fun i => es[i]?.map (·.key))) == [Value.none]) = true <;>
    (first | rw [if_pos hone] | rw [if_neg hone]) <;> (first | refine wpAny_bind (wpAny_pure ?_) | refine wpAny_bind (mayTell_none hst ?_)) <;> (
      rw [if_neg (by simp)]
      refine wpAny_bind ?_
      refine wpAny_forIn_list _ (fun rest b s' => s' = s ∧ b = (none, none)) _ ?_ ?_ _ _ ⟨rfl, rfl⟩
      · rintro x rest b s' ⟨rfl, rfl⟩
        cases hei : es[x]? with
        | none => exact wpAny_pure ⟨rfl, rfl⟩
        | some e =>
          obtain ⟨y, hy, rfl⟩ := hmem e (Array.mem_of_getElem? hei)
          have hib := his y hy
          have hk : NestedKey.beq y.1 .none = false := by
            cases hq : y.1 with
            | none => rw [hq] at hib; cases hib.1
            | num i => rw [hq] at hib; cases hib.1
            | text t => rw [hq] at hib; cases hib.1
            | tup ks => rfl
          dsimp only
          by_cases hh : ((entryOfKey (tkN prog w) y).hash == hN) = true
          · rw [if_pos hh]
            have hnone : NestedIs s'.heap .none .none := .none
            refine wpAny_bind (wpAny_dictEpoch ho hd (wpAny_bind (eqAt_key y.1 .none A s' _ _ hib.1 hnone (by have := hib.2; simp only [NestedKey.depth]; omega) prog w _ _ (wpAny_bind (wpAny_dictEpoch ho hd ?_)))))
            show wpAny _ _ (if (ep != ep) = true then _ else _) _ E _
            rw [if_neg (by simp)]
            rw [hk]
            simp only [Bool.false_eq_true, if_false]
            refine wpAny_bind (wpAny_rule ?_)
            first | rw [if_neg (by simp)] | skip
            first
              | exact wpAny_pure ⟨rfl, rfl⟩
              | exact wpAny_bind (wpAny_pure (wpAny_pure ⟨rfl, rfl⟩))
          · rw [if_neg hh]
            exact wpAny_pure ⟨rfl, rfl⟩
      · rintro b s' ⟨rfl, rfl⟩
        exact wpAny_pure h)
theorem get_none {Q : Option Value → Shared → Prop} (hu : A.units + 9 < cLine) (hm : s.heap.DictOfH (tkN prog w) d xs) (h : Q none { s with toks := s.toks + NestedKey.draws .none }) : wpAny (model prog w) A (dictGet d .none) Q E s := by
  obtain ⟨o, es, ep, ho, _, hd, he, his, hn⟩ := hm
  unfold dictGet
  try with_reducible refine wpAny_holding ?_
  refine wpAny_bind (pyHash_key (w := w) .none .none A s _ .none (by simp only [NestedKey.depth]; omega) (wpAny_bind (find_none (s := { s with toks := s.toks + NestedKey.draws .none }) hu ho hd he his (wpAny_pure ?_))))
  exact h
theorem has_none {Q : Value → Shared → Prop} (hu : A.in1.units + 9 < cLine) (hd : (d == sysModules) = false) (hm : s.heap.DictOfH (tkN prog w) d xs) (h : Q (.bool false) { s with toks := s.toks + NestedKey.draws .none }) : wpAny (model prog w) A (contains (.ref d) .none) (fun b s' => Q (.bool b) s') E s := by
  unfold contains
  try with_reducible refine wpAny_holding ?_
  refine wpAny_bind (wpAny_specialOf hm.typeIs slot_dict_contains.lookup ?_)
  show wpAny _ _ (if (some (Value.builtin "dict.__contains__") == some Value.none) = true then _ else _) _ E s
  rw [if_neg (by rw [beq_builtin_none]; exact Bool.false_ne_true)]
  refine wpAny_bind (wpAny_callSpecialUnlessNone?_slot (name := Str.ofString "__contains__") hm.typeIs slot_dict_contains
    (wpAny_call_entry slot_dict_contains hm.typeIs entry_dict_contains ?_ (args_dict_contains _ _)))
  show wpAny _ _ (dictGet d .none >>= _) _ _ s
  refine wpAny_bind (get_none hu hm ?_)
  show wpAny _ _ (Builtin.Dict.pendingKey? d .none >>= _) _ _ _
  exact wpAny_bind (wpAny_pendingKey_other hd (wpAny_pure ⟨_, rfl, wpAny_truthy_bool h⟩))
end
def rNonIn (P : Program) (w : World) (K : PySem.W.Frag) (neg : Bool) : R2 := fun x y H Q => ∃ (d : Addr) (o : Obj) (kas : List (NestedKey × Addr)) (xs : List V), x = .non ∧ y = .ref d ∧ DN P w K H d o kas xs ∧ Q (.bl neg) H
section
variable {X : Cx}
theorem op_nonNi (hu : X.A.units + 11 < cLine) : OpR X (compareOp .NotIn) (rNonIn X.prog X.w X.K true) := by
  rintro pins s σ H x y v u Q I rx ry ⟨d, o, kas, xs, rfl, rfl, D, hQ⟩
  cases rx
  cases ry
  obtain ⟨_, es, ep, us, _, _, _, hl, _, dd⟩ := D.dict I
  show wpAny _ _ (do return Value.bool (!(← contains (.ref d) .none))) _ _ s
  refine wpAny_bind (wpAny_mono (has_none (Q := fun b s' => b = .bool false ∧ s' = { s with toks := s.toks + NestedKey.draws .none }) (show X.A.units + 1 + 9 < cLine by omega) D.low dd ⟨rfl, rfl⟩) (fun b s' z => ?_) fun _ _ x => x)
  obtain ⟨e, rfl⟩ := z
  cases e
  exact wpAny_pure ⟨.bl _, H, I.tok _, rfl, hQ⟩
theorem op_nonIn (hu : X.A.units + 11 < cLine) : OpR X (compareOp .In) (rNonIn X.prog X.w X.K false) := by
  rintro pins s σ H x y v u Q I rx ry ⟨d, o, kas, xs, rfl, rfl, D, hQ⟩
  cases rx
  cases ry
  obtain ⟨_, es, ep, us, _, _, _, hl, _, dd⟩ := D.dict I
  show wpAny _ _ (do return Value.bool (← contains (.ref d) .none)) _ _ s
  refine wpAny_bind (wpAny_mono (has_none (Q := fun b s' => b = .bool false ∧ s' = { s with toks := s.toks + NestedKey.draws .none }) (show X.A.units + 1 + 9 < cLine by omega) D.low dd ⟨rfl, rfl⟩) (fun b s' z => ?_) fun _ _ x => x)
  obtain ⟨e, rfl⟩ := z
  cases e
  exact wpAny_pure ⟨.bl _, H, I.tok _, rfl, hQ⟩
end
def isNo : LV → Bool
  | .non => true
  | _ => false
def fNon (neg : Bool) (v w : LV) (h : List LO) : R LV := match v with
  | .non => match w.dct h with
    | some _ => .ok (.bl neg) h
    | none => .bad
  | _ => .bad
def fInZ (neg : Bool) : LV → LV → List LO → R LV := fun v w h => if isNo v = true then fNon neg v w h else fInY neg v w h
section
variable {S : Se} {E : XK}
theorem vo_non {neg : Bool} : VO S E (rNonIn S.P S.w S.K neg) (fNon neg) := fun F ι h H x y v w Q rp zx zy o => by
  unfold fNon at o
  split at o
  · split at o
    · rename_i p e
      obtain ⟨ks, vs⟩ := p
      obtain ⟨d, ob, kas, xs, rfl, D, hk, _, _⟩ := dct_of rp zy e
      cases zx
      exact ⟨d, ob, kas, xs, rfl, rfl, D, Ok.now (rel := RV S.toSg) o rp (.bl _)⟩
    · exact o.elim
  · exact o.elim
def rInZ (P : Program) (w : World) (K : PySem.W.Frag) : R2 := fun x y H Q => rNonIn P w K false x y H Q ∨ rInY P w K x y H Q
def rNiZ (P : Program) (w : World) (K : PySem.W.Frag) : R2 := fun x y H Q => rNonIn P w K true x y H Q ∨ rNiY P w K x y H Q
theorem vo_inZ : VO S E (rInZ S.P S.w S.K) (fInZ false) := VO.orH (fun v _ _ => isNo v) vo_non vo_inY
theorem vo_niZ : VO S E (rNiZ S.P S.w S.K) (fInZ true) := VO.orH (fun v _ _ => isNo v) vo_non vo_niY
theorem op_inZS {X : Cx} (S : Se) (hu : X.A.units + 65 < cLine) (hK : X.K = S.K := by rfl) (hw : X.w = S.w := by rfl) (hP : X.prog = S.P := by rfl) : OpR X (compareOp .In) (rInZ S.P S.w S.K) := by
  have h1 := op_nonIn (X := X) (by omega)
  rw [hK, hw, hP] at h1
  exact h1.or (op_inYS S hu hK hw hP)
theorem op_niZS {X : Cx} (S : Se) (hu : X.A.units + 65 < cLine) (hK : X.K = S.K := by rfl) (hw : X.w = S.w := by rfl) (hP : X.prog = S.P := by rfl) : OpR X (compareOp .NotIn) (rNiZ S.P S.w S.K) := by
  have h1 := op_nonNi (X := X) (by omega)
  rw [hK, hw, hP] at h1
  exact h1.or (op_niYS S hu hK hw hP)
end
/-! ### dict(pairs) that changes later -/
def fDictM (vs : List LV) (h : List LO) : R LV := match vs with
  | [.vl ps] => if ps.length ≤ 60000 then (match foldL [] [] ps with
    | some (ks, ws) => .ok (.ref h.length) (h ++ [.dic ks ws])
    | none => .bad) else .bad
  | _ => .bad
theorem vc_dictM {S : Se} {E : XK} : VC S E (rDictN S.P S.w S.K) fDictM := fun F ι h H xs vs Q rp z o => by
  unfold fDictM at o
  split at o
  · rename_i ps
    split at o
    · rename_i hl
      split at o
      · rename_i ks ws e
        cases z with
        | cons a b =>
          cases b
          cases a with
          | @vl a _ us g1 g2 g3 =>
            obtain ⟨pz, kas, xs', e1, e2, e3, ok, e4, e5, e6⟩ := fold_ok g3 e keysOk_nil rfl .nil .nil (by simpa using hl)
            subst e1
            refine ⟨a, pz, kas, xs', rfl, .inl (.inl g1), e2, e3, fun d ob hp low => o _ _ _ _ (EX.newM hp) (rp.newM hp (.dic upd_same low ok e4 (e5.fwd ((EX.newM (S := S) hp).fwd rp) _ _) (e6.fwd ((EX.newM (S := S) hp).fwd rp) _ _))) (.ref ?_)⟩
            rw [← rp.len, List.getElem?_append_right (Nat.le_refl _)]
            simp
      · exact o.elim
    · exact o.elim
  · exact o.elim
/-! ### == by an own __eq__, of what may still change: it reads what stands at that time -/
theorem iso_any {S : Se} {F F0 F' : Addr → Prop} {ι ι' : List Addr} {H H' : Hp} {h : List LO} (r : Rep S.toSg F ι h H) (e : EX S.toSg F0 [] H F' ι' H') : EX S.toSg F ι H F ι H' ∧ Rep S.toSg F ι h H' := by
  have k : ∀ a o, H a = some o → H' a = some o := fun a o q => e.keep a o (fun m => nomatch m) q
  have ex : EX S.toSg F ι H F ι H' := ⟨e.tup, fun a o _ q => k a o q, ⟨[], by simp, fun _ m => nomatch m⟩, fun _ z => z, fun _ z n => absurd z n, e.dom⟩
  exact ⟨ex, ⟨r.len, r.nd, r.inF, fun a z q => r.dom a z (e.dom a q), fun n o a q1 q2 => (r.obj n o a q1 q2).fwd (ex.fwd r) fun u q => k a u q⟩⟩
def mEqD (neg : Bool) (C : Nat) (ds : List Nat) (f : MF) (ma mb : ME) : ME := fun ρ h => (ma ρ h).bind fun v h1 => (mb ρ h1).bind fun w h2 => match LV.deep h2 100000 v with
  | some (.obj C' fs) => if C' = C then (match LV.deep h2 100000 w with
      | some w' => if tyE ds [] w' = true then (match f [.obj C' fs, w'] [] with
          | .ok (.bl b) _ => .ok (.bl (if neg then !b else b)) h2
          | _ => .bad) else .bad
      | none => .bad) else .bad
  | _ => .bad
theorem se_eqD {S : Se} {E E' : XK} {ta tb : TE} {ma mb : ME} {C : Nat} {f : Addr} {ds : List Nat} {g : MF} (neg : Bool) (k : EqC S C f ds) (ha : SE S E ta ma) (hb : SE S E tb mb) : SE S E (tOp (rOwnE S.K (S.ct C) neg (spM S 2 g) E') ta tb) (mEqD neg C ds g ma mb) := fun F ι h H ρ σ Q rp rs o =>
  ha F ι h H ρ σ _ rp rs (o.seq fun F1 ι1 H1 h1 v x _ e1 rp1 z o1 => hb F1 ι1 h1 H1 ρ σ _ rp1 (rs.ext rp e1) (o1.seq fun F2 ι2 H2 h2 w y _ e2 rp2 zw o2 => by
    have z2 := z.ext rp1 e2
    have rn : Rep S.toSg (fun _ => False) [] [] H2 := ⟨rfl, .nil, fun _ m => (nomatch m), fun _ z => z.elim, fun n o a q => by simp at q⟩
    split at o2
    · rename_i C' fs hv
      split at o2
      · rename_i hC
        subst hC
        split at o2
        · rename_i w' hw
          split at o2
          · rename_i ht
            have d1 : RV S.toSg (fun _ => False) [] H2 (.obj C' fs) x := RV.deep rp2 (fun _ _ z => z) (fun _ z => z.elim) _ _ _ _ hv z2
            have d2 : RV S.toSg (fun _ => False) [] H2 w' y := RV.deep rp2 (fun _ _ z => z) (fun _ z => z.elim) _ _ _ _ hw zw
            obtain ⟨t, ty, nf⟩ := tyE_of k rn d2 ht
            cases d1 with
            | @obj a _ dx fs2 _ q nF hnm hfs =>
              refine ⟨a, dx, fs2, t, rfl, q, ty, nf, rfl, _, [], [], [.obj C' fs, w'], rn, .cons (.obj q nF hnm hfs) (.cons d2 .nil), ?_⟩
              cases r : g [.obj C' fs, w'] [] with
              | ok v h' =>
                rw [r] at o2
                cases v with
                | bl b =>
                  intro F3 ι3 H3 x3 e3 rp3 z3
                  cases z3
                  obtain ⟨ex, rpb⟩ := iso_any rp2 e3
                  exact ⟨b, rfl, o2 F2 ι2 H3 _ ex rpb (.bl _)⟩
                | _ => exact o2.elim
              | er c h' => rw [r] at o2; exact o2.elim
              | bad => rw [r] at o2; exact o2.elim
          · exact o2.elim
        · exact o2.elim
      · exact o2.elim
    · exact o2.elim))
/-! ### list(x) that changes later -/
def fListM (vs : List LV) (h : List LO) : R LV := match vs with
  | [v] => match v.seq h with
    | some xs => .ok (.ref h.length) (h ++ [.lst xs])
    | none => .bad
  | _ => .bad
theorem vc_listM {S : Se} {E : XK} : VC S E (rListY S.P S.w S.K) fListM := fun F ι h H xs vs Q rp z o => by
  unfold fListM at o
  split at o
  · cases z with
    | cons a b =>
      cases b
      split at o
      · rename_i ys e
        obtain ⟨p, zs, rfl, hs, z⟩ := seq_of rp a e
        refine .inl (.inr ⟨p, zs, rfl, hs, fun l hl => o _ _ _ _ (EX.newM hl) (rp.newM hl (.lst upd_same (z.fwd ((EX.newM (S := S) hl).fwd rp) _ _))) (.ref ?_)⟩)
        rw [← rp.len, List.getElem?_append_right (Nat.le_refl _)]
        simp
      · exact o.elim
  · exact o.elim
/-! ### len(dict) -/
def rLenDN (P : Program) (w : World) (K : PySem.W.Frag) : List V → Hp → VK → Prop := fun vs H Q => ∃ (d : Addr) (o : Obj) (kas : List (NestedKey × Addr)) (xs : List V), vs = [.ref d] ∧ DN P w K H d o kas xs ∧ kas.length ≤ 60000 ∧ Q (.int kas.length) H
theorem call_lenDN {X : Cx} : CallR X (.builtin "len") (rLenDN X.prog X.w X.K) := by
  intro pins s σ H xs us Q I r h
  obtain ⟨p, o, kas, ys, rfl, D, hl0, q⟩ := h
  obtain ⟨u, rfl, rx⟩ := vals1 r
  obtain rfl : u = .ref p := rx
  obtain ⟨_, es, ep, ws, _, _, _, hl, _, dd⟩ := D.dict I
  refine call_len_dictH D.low dd (by rw [entL_len hl]; omega) ?_
  rw [entL_len hl]
  exact ⟨.int ((kas.length : Nat) : Int), H, I.tok _, ⟨_, rfl⟩, q⟩
theorem call_lenDNS {X : Cx} (S : Se) (hK : X.K = S.K := by rfl) (hw : X.w = S.w := by rfl) (hP : X.prog = S.P := by rfl) : CallR X (.builtin "len") (rLenDN S.P S.w S.K) := by
  rw [← hK, ← hw, ← hP]
  exact call_lenDN
def fLenD (vs : List LV) (h : List LO) : R LV := match vs with
  | [v] => match v.dct h with
    | some (ks, _) => if ks.length ≤ 60000 then .ok (.int ks.length) h else .bad
    | none => .bad
  | _ => .bad
theorem vc_lenD {S : Se} {E : XK} : VC S E (rLenDN S.P S.w S.K) fLenD := fun F ι h H xs vs Q rp z o => by
  unfold fLenD at o
  split at o
  · split at o
    · rename_i ks ws e
      split at o
      · rename_i hl
        cases z with
        | cons a b =>
          cases b
          obtain ⟨d, ob, kas, xs', rfl, D, hk, h1, h2⟩ := dct_of rp a e
          have e2 := h1.length
          rw [List.length_map] at e2
          refine ⟨d, ob, kas, xs', rfl, D, by omega, ?_⟩
          rw [← e2]
          exact Ok.now (rel := RV S.toSg) o rp (.int _)
      · exact o.elim
    · exact o.elim
  · exact o.elim
/-! ### isinstance of an own class: instances, and values of built-in types -/
def tbOwnX (t : List (Nat × Bool)) (tys : List String) (h : List LO) (v : LV) : Option Bool := match v with
  | .obj C _ => t.lookup C
  | v => match tyN h v with
    | some n => if n ∈ tys then some false else none
    | none => none
theorem isT_ownX {S : Se} {u : Value} {t : List (Nat × Bool)} {tys : List String} (hk : ∀ C b, t.lookup C = some b → ObjC S C ∧ PySem.W.kitOne S.K (.ref (S.ct C)) u = some b) (ht : ∀ n ∈ tys, PySem.W.kitOne S.K (.type n) u = some false) : IsT S u (tbOwnX t tys) := ⟨fun F ι h H v x b rp z e => by
  by_cases c : ∃ D xs, v = .obj D xs
  · obtain ⟨D, xs, rfl⟩ := c
    cases z with
    | obj a n c d =>
      obtain ⟨oc, k⟩ := hk _ _ e
      exact ⟨_, .base (.ins a oc.cl oc.ha oc.hn oc.htk oc.hm), k⟩
  · have e2 : (match tyN h v with | some n => if n ∈ tys then some false else none | none => none) = some b := by
      cases v <;> first | exact e | exact absurd ⟨_, _, rfl⟩ c
    split at e2
    · rename_i n hn
      split at e2
      · rename_i hm
        cases e2
        exact ⟨.type n, tyN_of rp z hn, ht n hm⟩
      · cases e2
    · cases e2⟩
theorem isT2X {S : Se} {u : Value} {C D : Nat} {b c : Bool} (oC : ObjC S C) (oD : ObjC S D) (kC : PySem.W.kitOne S.K (.ref (S.ct C)) u = some b) (kD : PySem.W.kitOne S.K (.ref (S.ct D)) u = some c) (k1 : PySem.W.kitOne S.K (.type "list") u = some false) (k2 : PySem.W.kitOne S.K (.type "int") u = some false) : IsT S u (tbOwnX [(C, b), (D, c)] ["list", "int"]) := isT_ownX (fun E d e => by
    simp only [List.lookup_cons, List.lookup_nil] at e
    split at e
    · rename_i q
      cases e
      rw [beq_iff_eq.mp q]
      exact ⟨oC, kC⟩
    · split at e
      · rename_i q
        cases e
        rw [beq_iff_eq.mp q]
        exact ⟨oD, kD⟩
      · cases e) fun n hn => by
    simp only [List.mem_cons, List.not_mem_nil, or_false] at hn
    rcases hn with e | e <;> rw [e] <;> assumption
theorem eqC2 {S : Se} {C D : Nat} {f : Addr} (eq : PySem.W.findIn S.K (.ref (S.ct C)) "__eq__" = some (some (.ref f))) (fn : PySem.W.isFn S.K (.ref f) = true) (ne : PySem.W.findIn S.K (.ref (S.ct C)) "__ne__" = some (some (.builtin "object.__ne__"))) (oC : ObjC S C) (oD : ObjC S D)
    (nf : PySem.W.notFirst S.K (S.ct C) (.ref (S.ct D)) = true) : EqC S C f [C, D] := ⟨eq, fn, ne, oC.hm, fun E hE => by
    simp only [List.mem_cons, List.not_mem_nil, or_false] at hE
    rcases hE with e | e
    · subst e
      exact ⟨oC, by unfold PySem.W.notFirst; simp⟩
    · subst e
      exact ⟨oD, nf⟩⟩
end Rm
namespace Rm
open PySem PySem.Spec PyProof.Rows L2 RZ PpSet
/-! ### a list made from the keys of a dict that changed before, and is not changed by it -/
mutual
def flT : LV → Bool
  | .non => true
  | .bl _ => true
  | .int _ => true
  | .str _ => true
  | .tup xs => flTs xs
  | _ => false
def flTs : List LV → Bool
  | [] => true
  | x :: xs => flT x && flTs xs
end
section
variable {S : Sg} {F F' : Addr → Prop} {ι ι' : List Addr} {H : Hp}
mutual
theorem flT_rv : ∀ (x : LV) (v : V), flT x = true → RV S F ι H x v → RV S F' ι' H x v
  | .non, _, _, h => by cases h; exact .non
  | .bl _, _, _, h => by cases h; exact .bl _
  | .int _, _, _, h => by cases h; exact .int _
  | .str _, _, _, h => by cases h; exact .str _
  | .tup xs, _, p, h => by cases h with | tup a b => exact .tup a (flTs_rv xs _ (by simpa [flT] using p) b)
  | .vl _, _, p, _ => by simp [flT] at p
  | .fz _, _, p, _ => by simp [flT] at p
  | .vd _ _, _, p, _ => by simp [flT] at p
  | .sd _ _, _, p, _ => by simp [flT] at p
  | .obj _ _, _, p, _ => by simp [flT] at p
  | .ref _, _, p, _ => by simp [flT] at p
theorem flTs_rv : ∀ (xs : List LV) (vs : List V), flTs xs = true → RVs S F ι H xs vs → RVs S F' ι' H xs vs
  | [], _, _, h => by cases h; exact .nil
  | x :: xs, _, p, h => by
    have p' : flT x = true ∧ flTs xs = true := by simpa [flTs] using p
    cases h with | cons a b => exact .cons (flT_rv x _ p'.1 a) (flTs_rv xs _ p'.2 b)
end
end
def isoR (i : Nat) (ks vs : List LV) (ρ : Rho) : Rho := (ρ.map fun o => o.bind fun v => if v.pure = true then some v else none).set i (some (.vd ks vs))
def mIsoD (i : Nat) (me : ME) : ME := fun ρ h => match ρ[i]? with
  | some (some (.ref n)) => match h[n]? with
    | some (.dic ks vs) => if LV.pures ks = true ∧ LV.pures vs = true then (match me (isoR i ks vs ρ) [] with
      | .ok (.vl ys) _ => if flTs ys = true then .ok (.vl ys) h else .bad
      | _ => .bad) else .bad
    | _ => .bad
  | _ => .bad
theorem se_isoD {S : Se} {E : XK} {te : TE} {me : ME} (i : Nat) (ha : SE S E te me) : SE S E te (mIsoD i me) := fun F ι h H ρ σ Q rp rs o => by
  unfold mIsoD at o
  split at o
  · rename_i n hn
    split at o
    · rename_i ks vs hd
      split at o
      · rename_i hp
        obtain ⟨x, ex, rx⟩ := rs.get i _ hn
        cases rx with
        | @ref d _ qd =>
          have g := rp.at hd qd
          cases g with
          | dic g1 low ok g2 g3 g4 =>
            obtain ⟨F0, hF0⟩ : ∃ F0 : Addr → Prop, F0 = fun a => F a ∧ a ≠ d := ⟨_, rfl⟩
            have sub : ∀ a, F0 a → F a := fun a q => by rw [hF0] at q; exact q.1
            have nd : ¬ F0 d := fun q => by rw [hF0] at q; exact q.2 rfl
            have rn : Rep S.toSg F0 [] [] H := ⟨rfl, .nil, (fun _ m => nomatch m), fun a q => rp.dom a (sub a q), fun n o a q => by simp at q⟩
            have rv : RV S.toSg F0 [] H (.vd ks vs) (.ref d) := .vd g1 nd low ok g2 (RVs.unF sub _ _ hp.1 g3) (RVs.unF sub _ _ hp.2 g4)
            have rs' : RS S F0 [] H (isoR i ks vs ρ) σ := by
              refine ⟨by unfold isoR; rw [List.length_set, List.length_map]; exact rs.len, fun j w q => ?_⟩
              unfold isoR at q
              by_cases c : i = j
              · subst c
                have hl := (List.getElem?_eq_some_iff.mp hn).1
                rw [List.getElem?_set_self (by rw [List.length_map]; exact hl)] at q
                cases q
                exact ⟨_, ex, rv⟩
              · rw [List.getElem?_set_ne c, List.getElem?_map] at q
                cases e : ρ[j]? with
                | none => rw [e] at q; cases q
                | some o =>
                  rw [e] at q
                  cases o with
                  | none => cases q
                  | some u =>
                    have q : some (if u.pure = true then some u else none) = some (some w) := q
                    split at q
                    · rename_i pu
                      cases q
                      obtain ⟨y, ey, ry⟩ := rs.get j _ e
                      exact ⟨y, ey, RV.unF sub _ _ pu ry⟩
                    · cases q
            refine ha F0 [] [] H _ σ Q rn rs' ?_
            cases r : me (isoR i ks vs ρ) [] with
            | ok v h' =>
              rw [r] at o
              cases v with
              | vl ys =>
                dsimp only at o
                split at o
                · rename_i fl
                  intro F3 ι3 H3 x3 e3 rp3 z3
                  obtain ⟨exo, rpb⟩ := iso_any rp e3
                  refine o F ι H3 x3 exo rpb ?_
                  cases z3 with
                  | @vl a _ zs q1 q2 q3 =>
                    refine .vl q1 (fun fa => ?_) (flTs_rv _ _ fl q3)
                    by_cases c : a = d
                    · subst c
                      have := e3.keep a _ (fun m => nomatch m) g1
                      rw [q1] at this
                      cases this
                    · exact q2 (e3.more a (by rw [hF0]; exact ⟨fa, c⟩))
                · exact o.elim
              | _ => exact o.elim
            | er c h' => rw [r] at o; exact o.elim
            | bad => rw [r] at o; exact o.elim
      · exact o.elim
    · exact o.elim
  · exact o.elim
end Rm
namespace Rm
open PySem PySem.Spec PyProof.Rows L2 RZ PpSet
/-! ### a call that may change our objects, and whose own ones are gone behind it -/
def mapO (f : LV → Option LV) : List LV → Option (List LV)
  | [] => some []
  | x :: xs => match f x, mapO f xs with
    | some y, some ys => some (y :: ys)
    | _, _ => none
/-- a value that a call hands out: what is new in it stays from now on -/
def outT (lo : Nat) (h : List LO) : Nat → LV → Option LV
  | 0, v => if v.pure = true then some v else none
  | k + 1, v => if v.pure = true then some v else match v with
    | .ref i => if i < lo then some (.ref i) else match h[i]? with
      | some (.lst xs) => (mapO (outT lo h k) xs).map .vl
      | some (.dic ks vs) => if LV.pures ks = true then (mapO (outT lo h k) vs).map (.vd ks) else none
      | some (.ins C n xs) => if xs.length = n then (mapO (outT lo h k) xs).map (.obj C) else none
      | none => none
    | .tup xs => (mapO (outT lo h k) xs).map .tup
    | _ => none
def lowE (n : Nat) : LV → Bool
  | .ref i => decide (i < n)
  | x => x.pure
def lowO (n : Nat) : LO → Bool
  | .lst xs => xs.all (lowE n)
  | .dic ks vs => ks.all (lowE n) && vs.all (lowE n)
  | .ins _ _ xs => xs.all (lowE n)
section
variable {S : Se} {F F' : Addr → Prop} {ι ι' : List Addr} {H H' : Hp} {h h' : List LO}
theorem RVs.mapO {f : LV → Option LV} (hf : ∀ x y v, f x = some y → RV S.toSg F' ι' H' x v → RV S.toSg F ι H' y v) : ∀ {xs ys : List LV} {vs : List V}, mapO f xs = some ys → RVs S.toSg F' ι' H' xs vs → RVs S.toSg F ι H' ys vs
  | [], ys, vs, e, z => by cases e; cases z; exact .nil
  | x :: xs, ys, vs, e, z => by
    simp only [Rm.mapO] at e
    split at e
    · rename_i y ys' h1 h2
      cases e
      cases z with | cons a b => exact .cons (hf _ _ _ h1 a) (RVs.mapO hf h2 b)
    · cases e
theorem RV.outT (r : Rep S.toSg F' ι' h' H') (hF : ∀ a, F a → F' a) {more : List Addr} (hm : ι' = ι ++ more) (nf : ∀ a ∈ more, ¬ F a) : ∀ (k : Nat) (x y : LV) (v : V), Rm.outT ι.length h' k x = some y → RV S.toSg F' ι' H' x v → RV S.toSg F ι H' y v
  | 0, x, y, v, e, z => by
    unfold Rm.outT at e
    split at e
    · rename_i p
      cases e
      exact z.unF hF x v p
    · cases e
  | k + 1, x, y, v, e, z => by
    unfold Rm.outT at e
    split at e
    · rename_i p
      cases e
      exact z.unF hF x v p
    · have ih := RV.outT r hF hm nf k
      split at e
      · rename_i i
        cases z with
        | @ref a _ q =>
          split at e
          · rename_i hi
            cases e
            refine .ref ?_
            rw [hm, List.getElem?_append_left hi] at q
            exact q
          · rename_i hi
            have na : ¬ F a := nf a (by
              rw [hm, List.getElem?_append_right (Nat.le_of_not_lt hi)] at q
              exact List.mem_of_getElem? q)
            split at e
            · rename_i xs hx
              have g := r.at hx q
              simp only [Option.map_eq_some_iff] at e
              obtain ⟨ys, e1, rfl⟩ := e
              cases g with
              | lst g1 g2 => exact .vl g1 na (RVs.mapO ih e1 g2)
            · rename_i ks vs hx
              have g := r.at hx q
              split at e
              · rename_i pk
                simp only [Option.map_eq_some_iff] at e
                obtain ⟨ys, e1, rfl⟩ := e
                cases g with
                | dic g1 low ok g2 g3 g4 => exact .vd g1 na low ok g2 (RVs.unF hF _ _ pk g3) (RVs.mapO ih e1 g4)
              · cases e
            · rename_i C n xs hx
              have g := r.at hx q
              split at e
              · rename_i hl
                simp only [Option.map_eq_some_iff] at e
                obtain ⟨ys, e1, rfl⟩ := e
                cases g with
                | ins g1 g2 g3 g4 =>
                  refine .obj g1 na ?_ (RVs.mapO ih e1 g4)
                  rw [g3, hl, g2, List.take_length]
              · cases e
            · cases e
      · rename_i xs
        simp only [Option.map_eq_some_iff] at e
        obtain ⟨ys, e1, rfl⟩ := e
        cases z with | tup a b => exact .tup a (RVs.mapO ih e1 b)
      · cases e
theorem lowE_rv (hF : ∀ a, F a → F' a) {more : List Addr} (hm : ι' = ι ++ more) {x : LV} {v : V} (l : lowE ι.length x = true) (z : RV S.toSg F' ι' H' x v) : RV S.toSg F ι H' x v := by
  by_cases c : ∃ i, x = .ref i
  · obtain ⟨i, rfl⟩ := c
    have l : decide (i < ι.length) = true := l
    cases z with
    | ref q =>
      refine .ref ?_
      rw [hm, List.getElem?_append_left (by simpa using l)] at q
      exact q
  · have p : x.pure = true := by
      cases x <;> first | exact absurd ⟨_, rfl⟩ c | exact l
    exact z.unF hF x v p
theorem lowE_rvs (hF : ∀ a, F a → F' a) {more : List Addr} (hm : ι' = ι ++ more) : ∀ {xs : List LV} {vs : List V}, xs.all (lowE ι.length) = true → RVs S.toSg F' ι' H' xs vs → RVs S.toSg F ι H' xs vs
  | [], _, _, z => by cases z; exact .nil
  | x :: xs, _, l, z => by
    simp only [List.all_cons, Bool.and_eq_true] at l
    cases z with | cons a b => exact .cons (lowE_rv hF hm l.1 a) (lowE_rvs hF hm l.2 b)
theorem cut_back (r : Rep S.toSg F ι h H) (e : EX S.toSg F ι H F' ι' H') (r' : Rep S.toSg F' ι' h' H') (low : (h'.take h.length).all (lowO h.length) = true) :
    EX S.toSg F ι H F ι H' ∧ Rep S.toSg F ι (h'.take h.length) H' ∧ ∃ more, ι' = ι ++ more ∧ ∀ a ∈ more, ¬ F a := by
  obtain ⟨more, hm, n⟩ := e.grow
  have nf : ∀ a ∈ more, ¬ F a := fun a m z => r.dom a z (n a m)
  refine ⟨⟨e.tup, e.keep, ⟨[], by simp, fun _ m => nomatch m⟩, fun _ z => z, fun _ z n => absurd z n, e.dom⟩, ⟨?_, r.nd, r.inF, fun a z q => r.dom a z (e.dom a q), fun i o a q1 q2 => ?_⟩, more, hm, nf⟩
  · have := r'.len
    rw [hm, List.length_append] at this
    have := r.len
    rw [List.length_take]
    omega
  · have hi : i < ι.length := (List.getElem?_eq_some_iff.mp q2).1
    have hl : lowO ι.length o = true := by
      rw [r.len]
      exact List.all_eq_true.mp low o (List.mem_of_getElem? q1)
    rw [List.getElem?_take_of_lt (by rw [← r.len]; exact hi)] at q1
    have g := r'.obj i o a q1 (by rw [hm, List.getElem?_append_left hi]; exact q2)
    cases g with
    | lst g1 g2 => exact .lst g1 (lowE_rvs e.more hm hl g2)
    | dic g1 low ok g2 g3 g4 =>
      simp only [lowO, Bool.and_eq_true] at hl
      exact .dic g1 low ok g2 (lowE_rvs e.more hm hl.1 g3) (lowE_rvs e.more hm hl.2 g4)
    | ins g1 g2 g3 g4 => exact .ins g1 g2 g3 (lowE_rvs e.more hm hl g4)
end
def cutT (n : Nat) : R LV → R LV
  | .ok v h' => if (h'.take n).all (lowO n) = true then (match outT n h' 4 v with
    | some w => .ok w (h'.take n)
    | none => .bad) else .bad
  | _ => .bad
section
variable {S : Se} {E E' : XK} {tA : TA} {mA : MA} {ta tb : TE} {ma mb : ME} {n : Nat} {f : MF}
theorem cut_run {F : Addr → Prop} {ι : List Addr} {H : Hp} {h : List LO} {vs : List LV} {xs : List V} {Q : VK} (rp : Rep S.toSg F ι h H) (z : RVs S.toSg F ι H vs xs) (hn : vs.length = n)
    (o : Ok (RV S.toSg) S E F ι H (cutT h.length (f vs h)) Q) : spM S n f xs H Q E' := by
  refine ⟨by rw [← z.length]; exact hn, F, ι, h, vs, rp, z, ?_⟩
  cases q : f vs h with
  | ok v h' =>
    rw [q] at o
    unfold cutT at o
    dsimp only at o
    split at o
    · rename_i low
      split at o
      · rename_i w hw
        intro F' ι' H' x e r2 z2
        obtain ⟨ex, rp2, more, hm, nf⟩ := cut_back rp e r2 low
        rw [← rp.len] at hw
        exact o F ι H' x ex rp2 (RV.outT r2 e.more hm nf 4 _ _ _ hw z2)
      · exact o.elim
    · exact o.elim
  | er c h' => rw [q] at o; exact o.elim
  | bad => rw [q] at o; exact o.elim
def mCallT (n : Nat) (f : MF) (ma : MA) : ME := fun ρ h => (ma ρ h).bind fun vs h1 => if vs.length = n then cutT h1.length (f vs h1) else .bad
theorem se_callT (ha : SA S E tA mA) : SE S E (tCall (spM S n f) [] E' tA) (mCallT n f mA) := fun F ι h H ρ σ Q rp rs o =>
  ha F ι h H ρ σ _ rp rs (o.seq fun F1 ι1 H1 h1 vs xs _ e1 rp1 z o1 => by
    rw [List.append_nil]
    split at o1
    · rename_i hn
      exact cut_run rp1 z hn o1
    · exact o1.elim)
/-- a method of an instance that changes -/
def mMethT (C n : Nat) (f : MF) (ma : ME) (mr : MA) : ME := fun ρ h => (ma ρ h).bind fun v h1 => match v with
  | .ref i => match h1[i]? with
    | some (.ins C' _ _) => if C' = C then (mr ρ h1).bind fun vs h2 => (if vs.length + 1 = n then cutT h2.length (f (.ref i :: vs) h2) else .bad) else .bad
    | _ => .bad
  | _ => .bad
theorem se_methT {C : Nat} {m : Str} (nm : m ∉ S.nm C) (ha : SE S E ta ma) (hr : SA S E tA mA) : SE S E (tMeth (S.ct C) m (spM S n f) [] E' ta tA) (mMethT C n f ma mA) := fun F ι h H ρ σ Q rp rs o =>
  ha F ι h H ρ σ _ rp rs (o.seq fun F1 ι1 H1 h1 v x _ e1 rp1 z o1 => by
    cases z with
    | @ref a i q0 =>
      dsimp only at o1
      split at o1
      · rename_i C' k xs hx
        have g := rp1.at hx q0
        split at o1
        · rename_i hC
          subst hC
          cases g with
          | @ins _ _ _ dx fs _ g1 g2 g3 g4 =>
            refine ⟨a, dx, fs, rfl, g1, lookup_none (by rw [g3]; exact fun q => nm (List.mem_of_mem_take q)), hr F1 ι1 h1 H1 ρ σ _ rp1 (rs.ext rp e1) (o1.seq fun F2 ι2 H2 h2 vs ys _ e2 rp2 zs o2 => ?_)⟩
            rw [List.append_nil]
            have z0 : RV S.toSg F1 ι1 H1 (.ref i) (.ref a) := .ref q0
            split at o2
            · rename_i hn
              exact cut_run rp2 (.cons (z0.ext rp1 e2) zs) (by rw [List.length_cons]; exact hn) o2
            · exact o2.elim
        · exact o1.elim
      · exact o1.elim
    | _ => exact o1.elim)
/-- xs += ys -/
def mAugE (i : Nat) (ma : ME) : MS := fun ρ h => match ρ[i]? with
  | some (some (.ref n)) => (ma ρ h).bind fun w h1 => match w.lst h1, h1[n]? with
    | some zs, some (.lst xs) => if xs.length + zs.length ≤ 60000 then .ok (.nx, ρ.set i (some (.ref n))) (h1.set n (.lst (xs ++ zs))) else .bad
    | _, _ => .bad
  | _ => .bad
theorem ss_augE {i : Nat} (ha : SE S E ta ma) : SS S E (tAug i ta rExt2) (mAugE i ma) := fun F ι h H ρ σ D rp rs o => by
  unfold mAugE at o
  split at o
  · rename_i n hn
    obtain ⟨x, hx, zx⟩ := rs.get i _ hn
    refine ⟨_, hx, ha F ι h H ρ σ _ rp rs (o.seq fun F1 ι1 H1 h1 w y _ e1 rp1 zy o1 => ?_)⟩
    have zx1 := zx.ext rp e1
    split at o1
    · rename_i zs xs hw hx1
      split at o1
      · rename_i hl
        cases zx1 with
        | @ref a _ q =>
          have g := rp1.at hx1 q
          cases g with
          | @lst _ _ vs g1 g2 =>
            obtain ⟨b, ws, rfl, hb, zz⟩ := lst_of rp1 zy hw
            refine ⟨a, b, vs, ws, rfl, rfl, g1, hb, le_sz (by rw [← g2.length, ← zz.length]; exact hl), ?_⟩
            have ex := EX.write (S := S) (o := .lst (vs ++ ws)) rp1 (List.mem_of_getElem? q)
            have f := ex.fwd rp1
            have rp2 := rp1.write (S := S) (o := .lst (vs ++ ws)) q (.lst upd_same ((g2.append zz).fwd f _ _))
            refine o1 F1 ι1 _ (FV.nx _) ex rp2 ?_
            exact ((rs.ext rp e1).ext rp1 ex).set (.ref q) i
      · exact o1.elim
    · exact o1.elim
  · exact o.elim
/-- xs.clear(), xs.reverse() -/
def mSetL (g : List LV → List LV) (ma : ME) : ME := fun ρ h => (ma ρ h).bind fun v h1 => match v with
  | .ref n => match h1[n]? with
    | some (.lst xs) => .ok .non (h1.set n (.lst (g xs)))
    | _ => .bad
  | _ => .bad
theorem se_clear (ha : SE S E ta ma) : SE S E (tBM0 S.K "list" rClear ta) (mSetL (fun _ => []) ma) := fun F ι h H ρ σ Q rp rs o =>
  ha F ι h H ρ σ _ rp rs (o.seq fun F1 ι1 H1 h1 v x _ e1 rp1 zx o1 => by
    split at o1
    · split at o1
      · rename_i xs hx
        cases zx with
        | ref q =>
          have g := rp1.at hx q
          cases g with
          | lst g1 g2 => exact ⟨.inl ⟨rfl, _, .of g1⟩, _, _, rfl, rfl, g1, ok_set rp1 q .nil .non o1⟩
      · exact o1.elim
    · exact o1.elim)
theorem se_reverse (ha : SE S E ta ma) : SE S E (tBM0 S.K "list" rReverse ta) (mSetL List.reverse ma) := fun F ι h H ρ σ Q rp rs o =>
  ha F ι h H ρ σ _ rp rs (o.seq fun F1 ι1 H1 h1 v x _ e1 rp1 zx o1 => by
    split at o1
    · split at o1
      · rename_i xs hx
        cases zx with
        | ref q =>
          have g := rp1.at hx q
          cases g with
          | lst g1 g2 => exact ⟨.inl ⟨rfl, _, .of g1⟩, _, _, rfl, rfl, g1, ok_set rp1 q g2.reverse .non o1⟩
      · exact o1.elim
    · exact o1.elim)
end
end Rm
namespace Rm
open PySem PySem.Spec PyProof.Rows L2 RZ PpSet
/-! ### a call, all alone, whose answer may change later: the lists and dicts that it shows are ours from then on -/
def purO : LO → Bool
  | .lst xs => LV.pures xs
  | .dic ks vs => LV.pures ks && LV.pures vs
  | .ins _ _ _ => false
def posN (j : Nat) : List Nat → Option Nat
  | [] => none
  | k :: ks => if k = j then some 0 else (posN j ks).map (· + 1)
theorem posN_at {j : Nat} : ∀ {js : List Nat} {i : Nat}, posN j js = some i → js[i]? = some j
  | [], _, e => by cases e
  | k :: ks, i, e => by
    unfold posN at e
    split at e
    · rename_i h
      cases e
      subst h
      rfl
    · simp only [Option.map_eq_some_iff] at e
      obtain ⟨i', e1, rfl⟩ := e
      simpa using posN_at e1
def exA (js : List Nat) (lo : Nat) (v : LV) : Option LV := if v.pure = true then some v else match v with
  | .ref j => (posN j js).map fun i => .ref (lo + i)
  | _ => none
def refs1 : List LV → List Nat
  | [] => []
  | .ref j :: r => j :: refs1 r
  | _ :: r => refs1 r
def pick (h' : List LO) : List Nat → Option (List LO)
  | [] => some []
  | j :: js => match h'[j]?, pick h' js with
    | some o, some os => if purO o = true then some (o :: os) else none
    | _, _ => none
def exF (h' : List LO) (lo : Nat) (C : Nat) (fs : List LV) : Option (LV × List LO) := if (refs1 fs).Nodup then (match pick h' (refs1 fs), mapO (exA (refs1 fs) lo) fs with
   | some os, some gs => some (.obj C gs, os)
   | _, _ => none) else none
def exV (h' : List LO) (lo : Nat) (v : LV) : Option (LV × List LO) := if v.pure = true then some (v, []) else match v with
  | .ref i => match h'[i]? with
     | some (.ins C k xs) => if xs.length = k then exF h' lo C xs else none
     | some o => if purO o = true then some (.ref lo, [o]) else none
     | none => none
  | .obj C fs => exF h' lo C fs
  | _ => none
theorem pick_at {h' : List LO} : ∀ {js : List Nat} {os : List LO}, pick h' js = some os → os.length = js.length ∧ ∀ (i j : Nat), js[i]? = some j → ∃ o, os[i]? = some o ∧ h'[j]? = some o ∧ purO o = true
  | [], os, e => by cases e; exact ⟨rfl, fun i j q => by simp at q⟩
  | k :: js, os, e => by
    simp only [pick] at e
    split at e
    · rename_i o os' h1 h2
      split at e
      · rename_i p
        cases e
        obtain ⟨l, a⟩ := pick_at h2
        refine ⟨by simp [l], fun i j q => ?_⟩
        cases i with
        | zero => cases q; exact ⟨o, rfl, h1, p⟩
        | succ i => simpa using a i j (by simpa using q)
      · cases e
    · cases e
section
variable {S : Se} {F F' : Addr → Prop} {ι ι' : List Addr} {H H' : Hp} {h h' : List LO}
theorem pick_back {js : List Nat} {os : List LO} (r : Rep S.toSg F ι h H) (e : EX S.toSg F [] H F' ι' H') (r' : Rep S.toSg F' ι' h' H') (nd : js.Nodup) (p : pick h' js = some os) :
    ∃ as : List Addr, (∀ (i j : Nat), js[i]? = some j → ∃ a, ι'[j]? = some a ∧ (ι ++ as)[h.length + i]? = some a) ∧ (∀ a ∈ as, ∃ (j : Nat) (o : LO), ι'[j]? = some a ∧ h'[j]? = some o ∧ purO o = true) ∧
      EX S.toSg F ι H (fun a => F a ∨ a ∈ as) (ι ++ as) H' ∧ Rep S.toSg (fun a => F a ∨ a ∈ as) (ι ++ as) (h ++ os) H' ∧ (∀ a, F a ∨ a ∈ as → F' a) := by
  obtain ⟨pl, pa⟩ := pick_at p
  obtain ⟨_, rp2, nf⟩ := iso_back r e
  have lt : ∀ (i j : Nat), js[i]? = some j → j < ι'.length := fun i j q => by
    obtain ⟨o, _, h2, _⟩ := pa i j q
    rw [r'.len]
    exact (List.getElem?_eq_some_iff.mp h2).1
  refine ⟨js.map fun j => ι'.getD j 0, ?_⟩
  generalize has : (js.map fun j => ι'.getD j 0) = as
  have al : as.length = js.length := by rw [← has, List.length_map]
  have at1 : ∀ (i j : Nat), js[i]? = some j → ∃ a, ι'[j]? = some a ∧ as[i]? = some a := fun i j q => by
    have l := lt i j q
    refine ⟨ι'[j], List.getElem?_eq_getElem l, ?_⟩
    rw [← has, List.getElem?_map, q]
    simp [l]
  have mem : ∀ a ∈ as, ∃ (i j : Nat), js[i]? = some j ∧ as[i]? = some a ∧ ι'[j]? = some a := fun a m => by
    obtain ⟨i, hi⟩ := List.mem_iff_getElem?.mp m
    have hl : i < js.length := by rw [← al]; exact (List.getElem?_eq_some_iff.mp hi).1
    obtain ⟨b, b1, b2⟩ := at1 i _ (List.getElem?_eq_getElem hl)
    rw [hi] at b2
    cases b2
    exact ⟨i, _, List.getElem?_eq_getElem hl, hi, b1⟩
  have min : ∀ a ∈ as, a ∈ ι' := fun a m => by
    obtain ⟨i, j, _, _, q⟩ := mem a m
    exact List.mem_of_getElem? q
  have fr : ∀ a ∈ as, H a = none := fun a m => by
    obtain ⟨more, hm, n⟩ := e.grow
    have := min a m
    rw [hm] at this
    exact n a (by simpa using this)
  have sub : ∀ a, F a ∨ a ∈ as → F' a := fun a z => z.elim (e.more a) fun m => r'.inF a (min a m)
  have ex : EX S.toSg F ι H (fun a => F a ∨ a ∈ as) (ι ++ as) H' :=
    ⟨e.tup, fun a o _ q => e.keep a o (fun m => nomatch m) q, ⟨as, rfl, fr⟩, fun _ z => .inl z, fun a z n => z.elim (fun q => absurd q n) (fr a), e.dom⟩
  refine ⟨fun i j q => ?_, fun a m => ?_, ex, ⟨?_, ?_, ?_, ?_, ?_⟩, sub⟩
  · obtain ⟨a, a1, a2⟩ := at1 i j q
    refine ⟨a, a1, ?_⟩
    rw [← r.len, List.getElem?_append_right (Nat.le_add_right _ _), Nat.add_sub_cancel_left]
    exact a2
  · obtain ⟨i, j, q1, _, q2⟩ := mem a m
    obtain ⟨o, _, o2, o3⟩ := pa i j q1
    exact ⟨j, o, q2, o2, o3⟩
  · rw [List.length_append, List.length_append, r.len, al, pl]
  · rw [List.nodup_append]
    refine ⟨r.nd, ?_, fun a ha b hb q => ?_⟩
    · rw [← has]
      refine List.pairwise_map.mpr (List.Pairwise.imp_of_mem (R := fun a b => a ≠ b) ?_ nd)
      intro j k hj hk ne q
      obtain ⟨i1, e1⟩ := List.mem_iff_getElem?.mp hj
      obtain ⟨i2, e2⟩ := List.mem_iff_getElem?.mp hk
      have l1 := lt _ _ e1
      have l2 := lt _ _ e2
      apply ne
      have q2 : ι'[j]? = ι'[k]? := by
        rw [List.getElem?_eq_getElem l1, List.getElem?_eq_getElem l2]
        simpa [l1, l2] using q
      exact (List.getElem?_inj l1 r'.nd).mp q2
    · subst q
      exact nf _ (min _ hb) (r.inF _ ha)
  · intro a m
    rcases List.mem_append.mp m with m | m
    · exact .inl (r.inF a m)
    · exact .inr m
  · intro a z q
    exact r'.dom a (sub a z) q
  · intro n o a q1 q2
    by_cases hn : n < h.length
    · rw [List.getElem?_append_left hn] at q1
      rw [List.getElem?_append_left (by rw [r.len]; exact hn)] at q2
      exact (r.obj n o a q1 q2).fwd (ex.fwd r) fun u q => e.keep a u (fun m => nomatch m) q
    · have hge := Nat.le_of_not_lt hn
      rw [List.getElem?_append_right hge] at q1
      rw [List.getElem?_append_right (by rw [r.len]; exact hge), r.len] at q2
      have hl : n - h.length < js.length := by rw [← al]; exact (List.getElem?_eq_some_iff.mp q2).1
      obtain ⟨b, b1, b2⟩ := at1 _ _ (List.getElem?_eq_getElem hl)
      rw [q2] at b2
      cases b2
      obtain ⟨o', o1, o2, o3⟩ := pa _ _ (List.getElem?_eq_getElem hl)
      rw [q1] at o1
      cases o1
      have g := r'.obj _ o a o2 b1
      cases g with
      | lst g1 g2 => exact .lst g1 (RVs.unF sub _ _ o3 g2)
      | dic g1 low ok g2 g3 g4 =>
        have o3 : (LV.pures _ && LV.pures _) = true := o3
        rw [Bool.and_eq_true] at o3
        exact .dic g1 low ok g2 (RVs.unF sub _ _ o3.1 g3) (RVs.unF sub _ _ o3.2 g4)
      | ins g1 g2 g3 g4 => cases o3
theorem exF_of {C : Nat} {fs : List LV} {vs : List V} {w : LV} {os : List LO} (r : Rep S.toSg F ι h H) (e : EX S.toSg F [] H F' ι' H') (r' : Rep S.toSg F' ι' h' H') (q : exF h' h.length C fs = some (w, os)) (z : RVs S.toSg F' ι' H' fs vs) :
    ∃ F'' ι'' gs, w = .obj C gs ∧ EX S.toSg F ι H F'' ι'' H' ∧ Rep S.toSg F'' ι'' (h ++ os) H' ∧ RVs S.toSg F'' ι'' H' gs vs ∧ (∀ a, F'' a → F' a ∧ ∀ (i C k : Nat) (xs : List LV), h'[i]? = some (LO.ins C k xs) → ι'[i]? ≠ some a ∨ F a) := by
  unfold exF at q
  split at q
  · rename_i nd
    split at q
    · rename_i os' gs p1 p2
      cases q
      obtain ⟨as, a1, a2, ex, rp, sub⟩ := pick_back r e r' nd p1
      refine ⟨_, _, gs, rfl, ex, rp, RVs.mapO (fun x y v hx zx => ?_) p2 z, fun a m => ⟨sub a m, fun i C k xs hi => ?_⟩⟩
      · by_cases pv : x.pure = true
        · unfold exA at hx; rw [if_pos pv] at hx
          cases hx
          exact zx.unF sub x v pv
        · unfold exA at hx; rw [if_neg pv] at hx
          cases zx with
          | @ref _ j q0 =>
            have hx : (posN j (refs1 fs)).map (fun i => LV.ref (h.length + i)) = some y := hx
            simp only [Option.map_eq_some_iff] at hx
            obtain ⟨i, hi, rfl⟩ := hx
            obtain ⟨b, b1, b2⟩ := a1 i j (posN_at hi)
            rw [q0] at b1
            cases b1
            exact .ref b2
          | _ => cases hx
      · rcases m with m | m
        · exact .inr m
        · refine .inl fun hc => ?_
          obtain ⟨j, o, j1, j2, j3⟩ := a2 a m
          have e2 : i = j := (List.getElem?_inj (List.getElem?_eq_some_iff.mp hc).1 r'.nd).mp (hc.trans j1.symm)
          subst e2
          rw [hi] at j2
          cases j2
          cases j3
    · cases q
  · cases q
theorem exV_of {v w : LV} {x : V} {os : List LO} (r : Rep S.toSg F ι h H) (e : EX S.toSg F [] H F' ι' H') (r' : Rep S.toSg F' ι' h' H') (q : exV h' h.length v = some (w, os)) (z : RV S.toSg F' ι' H' v x) :
    ∃ F'' ι'', EX S.toSg F ι H F'' ι'' H' ∧ Rep S.toSg F'' ι'' (h ++ os) H' ∧ RV S.toSg F'' ι'' H' w x := by
  obtain ⟨ex, rp2, nf⟩ := iso_back r e
  unfold exV at q
  split at q
  · rename_i pv
    cases q
    exact ⟨F, ι, ex, by rw [List.append_nil]; exact rp2, z.unF e.more v x pv⟩
  · split at q
    · rename_i i _
      cases z with
      | @ref a _ q0 =>
        split at q
        · rename_i C k xs hi
          split at q
          · rename_i hk
            have g := r'.at hi q0
            cases g with
            | @ins _ _ _ dx fs _ g1 g2 g3 g4 =>
              obtain ⟨F2, ι2, gs, rfl, e2, r2, z2, s2⟩ := exF_of r e r' q g4
              refine ⟨F2, ι2, e2, r2, .obj g1 (fun m => ?_) ?_ z2⟩
              · rcases (s2 a m).2 i _ _ _ hi with c | c
                · exact c q0
                · exact nf a (List.mem_of_getElem? q0) c
              · rw [g3, hk, g2, List.take_length]
          · cases q
        · rename_i o _ ho
          split at q
          · rename_i po
            cases q
            obtain ⟨as, a1, a2, e2, r2, sub⟩ := pick_back (js := [i]) (os := [o]) r e r' (by simp) (by simp only [pick, ho, po, if_true])
            obtain ⟨b, b1, b2⟩ := a1 0 i rfl
            rw [q0] at b1
            cases b1
            exact ⟨_, _, e2, r2, .ref (by simpa using b2)⟩
          · cases q
        · cases q
    · rename_i C fs
      cases z with
      | obj g1 g2 g3 g4 =>
        obtain ⟨F2, ι2, gs, rfl, e2, r2, z2, s2⟩ := exF_of r e r' q g4
        exact ⟨F2, ι2, e2, r2, .obj g1 (fun m => g2 (s2 _ m).1) g3 z2⟩
    · cases q
end
def mCallF (n : Nat) (f : MF) (ma : MA) : ME := fun ρ h => (ma ρ h).bind fun vs h1 => if vs.length = n then (if LV.pures vs = true then match f vs [] with
    | .ok v h' => match exV h' h1.length v with
      | some (w, os) => .ok w (h1 ++ os)
      | none => .bad
    | _ => .bad
  else .bad) else .bad
def mMakeF (C k n : Nat) (f : MF) (ma : MA) : ME := fun ρ h => (ma ρ h).bind fun vs h1 => if vs.length + 1 = n ∧ LV.pures vs = true then match f (.ref 0 :: vs) [.ins C k []] with
    | .ok .non h' => match exV h' h1.length (.ref 0) with
      | some (w, os) => .ok w (h1 ++ os)
      | none => .bad
    | _ => .bad
  else .bad
section
variable {S : Se} {E E' : XK} {tA : TA} {mA : MA} {ta tb : TE} {ma mb : ME} {n : Nat} {f : MF}
theorem ex_run {F : Addr → Prop} {ι : List Addr} {H : Hp} {h : List LO} {vs : List LV} {xs : List V} {Q : VK} (rp : Rep S.toSg F ι h H) (z : RVs S.toSg F ι H vs xs) (hn : vs.length = n) (hp : LV.pures vs = true)
    (o : Ok (RV S.toSg) S E F ι H (match f vs [] with
    | .ok v h' => match exV h' h.length v with
      | some (w, os) => .ok w (h ++ os)
      | none => .bad
    | _ => .bad) Q) : spM S n f xs H Q E' := by
  refine ⟨by rw [← z.length]; exact hn, F, [], [], vs, rp.nil, RVs.pure [] vs xs hp z, ?_⟩
  cases q : f vs [] with
  | ok v h' =>
    rw [q] at o
    dsimp only at o
    split at o
    · rename_i w os hw
      intro F' ι' H' x e r2 z2
      obtain ⟨F2, ι2, e2, r3, z3⟩ := exV_of rp e r2 hw z2
      exact o F2 ι2 H' x e2 r3 z3
    · exact o.elim
  | er c h' => rw [q] at o; exact o.elim
  | bad => rw [q] at o; exact o.elim
theorem se_callF (ha : SA S E tA mA) : SE S E (tCall (spM S n f) [] E' tA) (mCallF n f mA) := fun F ι h H ρ σ Q rp rs o =>
  ha F ι h H ρ σ _ rp rs (o.seq fun F1 ι1 H1 h1 vs xs _ e1 rp1 z o1 => by
    rw [List.append_nil]
    split at o1
    · rename_i hn
      split at o1
      · rename_i hp
        exact ex_run rp1 z hn hp o1
      · exact o1.elim
    · exact o1.elim)
theorem se_makeF {C k : Nat} (hk : k = (S.nm C).length) (ha : SA S E tA mA) : SE S E (tMake (S.ct C) (spM S n f) [] E' tA) (mMakeF C k n f mA) := fun F ι h H ρ σ Q rp rs o =>
  ha F ι h H ρ σ _ rp rs (o.seq fun F1 ι1 H1 h1 vs xs _ e1 rp1 z o1 x dx hx hdx hne => by
    subst hk
    rw [List.append_nil]
    split at o1
    · rename_i hn
      obtain ⟨ex, r2⟩ := two_new (C := C) rp1.nil hx hdx hne
      have q0 : ([] ++ [x])[0]? = some x := rfl
      refine ⟨by rw [List.length_cons, ← z.length]; exact hn.1, _, _, _, .ref 0 :: vs, r2, .cons (.ref q0) ((RVs.pure [] vs xs hn.2 z).ext rp1.nil ex), ?_⟩
      split at o1
      · rename_i h' hf
        change Ok _ S E0 _ _ _ (f (.ref 0 :: vs) [.ins C (S.nm C).length []]) _
        rw [hf]
        split at o1
        · rename_i w os hw
          intro F' ι' H' y e2 r3 z3
          cases z3
          have e3 := ex.trans e2
          obtain ⟨more, hm, _⟩ := e2.grow
          obtain ⟨F4, ι4, e4, r4, z4⟩ := exV_of rp1 e3 r3 hw (.ref (a := x) (by rw [hm, List.getElem?_append_left (by simp)]; exact q0))
          exact ⟨rfl, o1 F4 ι4 H' (.ref x) e4 r4 z4⟩
        · exact o1.elim
      · exact o1.elim
    · exact o1.elim)
/-! ### a call that reads what may still change, and answers with a flat value -/
theorem flat_any {S : Sg} {F F' : Addr → Prop} {ι ι' : List Addr} {H H' : Hp} {w : LV} {x : V} (f : flatL w = true) (z : RV S F ι H w x) : RV S F' ι' H' w x := by
  cases z <;> first | exact .non | exact .bl _ | exact .int _ | exact .str _ | (cases f; done)
def frzRun (n : Nat) (f : MF) (vs : List LV) (h : List LO) : R LV := if vs.length = n then match LV.deeps h 100000 vs with
  | some ws => match f ws [] with
    | .ok w _ => if flatL w = true then .ok w h else .bad
    | _ => .bad
  | none => .bad
  else .bad
theorem frz_run {F : Addr → Prop} {ι : List Addr} {H : Hp} {h : List LO} {vs : List LV} {xs : List V} {Q : VK} (rp : Rep S.toSg F ι h H) (z : RVs S.toSg F ι H vs xs)
    (o : Ok (RV S.toSg) S E F ι H (frzRun n f vs h) Q) : spM S n f xs H Q E' := by
  unfold frzRun at o
  split at o
  · rename_i hn
    split at o
    · rename_i ws hw
      have rn : Rep S.toSg (fun _ => False) [] [] H := ⟨rfl, .nil, fun _ m => (nomatch m), fun _ z => z.elim, fun n o a q => by simp at q⟩
      refine ⟨by rw [← z.length]; exact hn, fun _ => False, [], [], ws, rn, RVs.deep rp (fun _ _ z => z) (fun _ z => z.elim) _ _ _ _ hw z, ?_⟩
      cases q : f ws [] with
      | ok v h' =>
        rw [q] at o
        dsimp only at o
        split at o
        · rename_i fl
          intro F' ι' H' x e r2 z2
          obtain ⟨ex, rp2⟩ := iso_any rp e
          exact o F ι H' x ex rp2 (flat_any fl z2)
        · exact o.elim
      | er c h' => rw [q] at o; exact o.elim
      | bad => rw [q] at o; exact o.elim
    · exact o.elim
  · exact o.elim
def mCallZ (n : Nat) (f : MF) (ma : MA) : ME := fun ρ h => (ma ρ h).bind fun vs h1 => frzRun n f vs h1
theorem se_callZ (ha : SA S E tA mA) : SE S E (tCall (spM S n f) [] E' tA) (mCallZ n f mA) := fun F ι h H ρ σ Q rp rs o =>
  ha F ι h H ρ σ _ rp rs (o.seq fun F1 ι1 H1 h1 vs xs _ e1 rp1 z o1 => by
    rw [List.append_nil]
    exact frz_run rp1 z o1)
def mMethZ (C n : Nat) (f : MF) (ma : ME) (mr : MA) : ME := fun ρ h => (ma ρ h).bind fun v h1 => match v with
  | .obj C' fs => if C' = C then (mr ρ h1).bind fun vs h2 => frzRun n f (.obj C' fs :: vs) h2 else .bad
  | _ => .bad
theorem se_methZ {C : Nat} {m : Str} (nm : m ∉ S.nm C) (ha : SE S E ta ma) (hr : SA S E tA mA) : SE S E (tMeth (S.ct C) m (spM S n f) [] E' ta tA) (mMethZ C n f ma mA) := fun F ι h H ρ σ Q rp rs o =>
  ha F ι h H ρ σ _ rp rs (o.seq fun F1 ι1 H1 h1 v x _ e1 rp1 z o1 => by
    cases z with
    | @obj a C' dx fs xs q nF hnm hfs =>
      dsimp only at o1
      split at o1
      · rename_i hC
        subst hC
        refine ⟨a, dx, fs, rfl, q, lookup_none (by rw [hnm]; exact nm), hr F1 ι1 h1 H1 ρ σ _ rp1 (rs.ext rp e1) (o1.seq fun F2 ι2 H2 h2 vs ys _ e2 rp2 zs o2 => ?_)⟩
        rw [List.append_nil]
        have z0 : RV S.toSg F1 ι1 H1 (.obj C' xs) (.ref a) := .obj q nF hnm hfs
        exact frz_run rp2 (.cons (z0.ext rp1 e2) zs) o2
      · exact o1.elim
    | _ => exact o1.elim)
/-! ### == by an own __eq__, of one of several classes -/
def fEqD (neg : Bool) (C : Nat) (ds : List Nat) (f : MF) : LV → LV → List LO → R LV := fun v w h2 => match LV.deep h2 100000 v with
  | some (.obj C' fs) => if C' = C then (match LV.deep h2 100000 w with
      | some w' => if tyE ds [] w' = true then (match f [.obj C' fs, w'] [] with
          | .ok (.bl b) _ => .ok (.bl (if neg then !b else b)) h2
          | _ => .bad) else .bad
      | none => .bad) else .bad
  | _ => .bad
theorem vo_eqD {C : Nat} {g0 : Addr} {ds : List Nat} {g : MF} (neg : Bool) (k : EqC S C g0 ds) : VO S E (rOwnE S.K (S.ct C) neg (spM S 2 g) E') (fEqD neg C ds g) := fun F2 ι2 h2 H2 x y v w Q rp2 z2 zw o2 => by
  have rn : Rep S.toSg (fun _ => False) [] [] H2 := ⟨rfl, .nil, fun _ m => (nomatch m), fun _ z => z.elim, fun n o a q => by simp at q⟩
  unfold fEqD at o2
  split at o2
  · rename_i C' fs hv
    split at o2
    · rename_i hC
      subst hC
      split at o2
      · rename_i w' hw
        split at o2
        · rename_i ht
          have d1 : RV S.toSg (fun _ => False) [] H2 (.obj C' fs) x := RV.deep rp2 (fun _ _ z => z) (fun _ z => z.elim) _ _ _ _ hv z2
          have d2 : RV S.toSg (fun _ => False) [] H2 w' y := RV.deep rp2 (fun _ _ z => z) (fun _ z => z.elim) _ _ _ _ hw zw
          obtain ⟨t, ty, nf⟩ := tyE_of k rn d2 ht
          cases d1 with
          | @obj a _ dx fs2 _ q nF hnm hfs =>
            refine ⟨a, dx, fs2, t, rfl, q, ty, nf, rfl, _, [], [], [.obj C' fs, w'], rn, .cons (.obj q nF hnm hfs) (.cons d2 .nil), ?_⟩
            cases r : g [.obj C' fs, w'] [] with
            | ok v h' =>
              rw [r] at o2
              cases v with
              | bl b =>
                intro F3 ι3 H3 x3 e3 rp3 z3
                cases z3
                obtain ⟨ex, rpb⟩ := iso_any rp2 e3
                exact ⟨b, rfl, o2 F2 ι2 H3 _ ex rpb (.bl _)⟩
              | _ => exact o2.elim
            | er c h' => rw [r] at o2; exact o2.elim
            | bad => rw [r] at o2; exact o2.elim
        · exact o2.elim
      · exact o2.elim
    · exact o2.elim
  · exact o2.elim
def isCO (C : Nat) (v : LV) (h : List LO) : Bool := match v with
  | .obj C' _ => decide (C' = C)
  | .ref i => match h[i]? with
    | some (.ins C' _ _) => decide (C' = C)
    | _ => false
  | _ => false
end
/-! ### list(x) that changes later, also of a dict -/
def fListN (vs : List LV) (h : List LO) : R LV := match vs with
  | [v] => match v.dct h with
    | some (ks, _) => .ok (.ref h.length) (h ++ [.lst ks])
    | none => fListM [v] h
  | _ => .bad
theorem vc_listN {S : Se} {E : XK} : VC S E (rListY S.P S.w S.K) fListN := fun F ι h H xs vs Q rp z o => by
  unfold fListN at o
  split at o
  · split at o
    · rename_i ks ws e
      cases z with
      | cons a b =>
        cases b
        obtain ⟨p, ob, kas, xs', rfl, D, hk, h1, h2⟩ := dct_of rp a e
        refine .inl (.inl ⟨p, ob, kas, xs', rfl, D, fun l hl => o _ _ _ _ (EX.newM hl) (rp.newM hl (.lst upd_same (h1.fwd ((EX.newM (S := S) hl).fwd rp) _ _))) (.ref ?_)⟩)
        rw [← rp.len, List.getElem?_append_right (Nat.le_refl _)]
        simp
    · exact vc_listM F ι h H xs _ Q rp z o
  · exact o.elim
/-! ### facts of classes, any number of them -/
theorem isT_nilX {S : Se} {u : Value} {tys : List String} (ht : ∀ n ∈ tys, PySem.W.kitOne S.K (.type n) u = some false) : IsT S u (tbOwnX [] tys) := isT_ownX (fun C b e => by cases e) ht
theorem isT_consX {S : Se} {u : Value} {C : Nat} {b : Bool} {t : List (Nat × Bool)} (o : ObjC S C) (k : PySem.W.kitOne S.K (.ref (S.ct C)) u = some b) (r : (∀ D c, t.lookup D = some c → ObjC S D ∧ PySem.W.kitOne S.K (.ref (S.ct D)) u = some c)) :
    ∀ D c, ((C, b) :: t).lookup D = some c → ObjC S D ∧ PySem.W.kitOne S.K (.ref (S.ct D)) u = some c := fun D c e => by
  rw [List.lookup_cons] at e
  split at e
  · rename_i hk
    cases e
    rw [eq_of_beq hk]
    exact ⟨o, k⟩
  · exact r D c e
theorem isT_noneX {S : Se} {u : Value} : ∀ D c, ([] : List (Nat × Bool)).lookup D = some c → ObjC S D ∧ PySem.W.kitOne S.K (.ref (S.ct D)) u = some c := fun _ _ e => by cases e
theorem tys_nil {S : Se} {u : Value} : ∀ n ∈ ([] : List String), PySem.W.kitOne S.K (.type n) u = some false := fun _ m => nomatch m
theorem tys_cons {S : Se} {u : Value} {n : String} {tys : List String} (k : PySem.W.kitOne S.K (.type n) u = some false) (r : ∀ m ∈ tys, PySem.W.kitOne S.K (.type m) u = some false) : ∀ m ∈ n :: tys, PySem.W.kitOne S.K (.type m) u = some false := fun m h => by
  rcases List.mem_cons.mp h with e | e
  · rw [e]; exact k
  · exact r m e
theorem oth_nil {S : Se} {C : Nat} : ∀ D ∈ ([] : List Nat), ObjC S D ∧ PySem.W.notFirst S.K (S.ct C) (.ref (S.ct D)) = true := fun _ m => nomatch m
theorem oth_cons {S : Se} {C D : Nat} {ds : List Nat} (o : ObjC S D) (k : PySem.W.notFirst S.K (S.ct C) (.ref (S.ct D)) = true) (r : ∀ D ∈ ds, ObjC S D ∧ PySem.W.notFirst S.K (S.ct C) (.ref (S.ct D)) = true) : ∀ E ∈ D :: ds, ObjC S E ∧ PySem.W.notFirst S.K (S.ct C) (.ref (S.ct E)) = true := fun E h => by
  rcases List.mem_cons.mp h with e | e
  · rw [e]; exact ⟨o, k⟩
  · exact r E e
theorem oth_self {S : Se} {C : Nat} : PySem.W.notFirst S.K (S.ct C) (.ref (S.ct C)) = true := by unfold PySem.W.notFirst; simp
theorem op_eqK {X : Cx} (K : PySem.W.Frag) {C : Addr} {neg : Bool} {sp : Sp} {E' : XK} {f : Value → Value → Sem Value} (h : OpR X f (rOwnE X.K C neg sp E')) (hK : X.K = K := by rfl) : OpR X f (rOwnE K C neg sp E') := by
  rw [← hK]
  exact h
end Rm
namespace Rm
open PySem PySem.Spec PyProof.Rows L2 RZ PpSet SrtO
/-! ### sorted(xs): items that read as alike data -/
section
variable {α : Type} {k : α → PyData}
def ltD (k : α → PyData) (x y : α) : Bool := PySem.W.dataLt (k x) (k y)
theorem swo_D : Swo (ltD k) := by
  have asym : ∀ a b : List (Int ⊕ List Nat), lexLt itemOrd a b = true → lexLt itemOrd b a = false := fun a b h => by
    cases q : lexLt itemOrd b a with
    | false => rfl
    | true =>
      have := lex_trans (O := itemOrd) a b a h q
      rw [lex_irrefl] at this
      cases this
  refine ⟨fun x y h => asym _ _ h, fun x y z h1 h2 => ?_⟩
  cases q : ltD k z x with
  | false => rfl
  | true =>
    rcases lex_negTrans (O := itemOrd) (PySem.W.keyToks (k z)) (PySem.W.keyToks (k y)) (PySem.W.keyToks (k x)) q with e | e
    · exact absurd ((show ltD k z y = true from e).symm.trans h2) (by decide)
    · exact absurd ((show ltD k y x = true from e).symm.trans h1) (by decide)
theorem sort_isort (xs : List α) : xs.mergeSort (PySem.W.dataLe false k) = isort (ltD k) xs := by
  have e : PySem.W.dataLe false k = fun a b => !ltD k b a := PySem.W.dataLe_eq false k
  have O := swo_D (k := k)
  have tr : ∀ a b c : α, (!ltD k b a) = true → (!ltD k c b) = true → (!ltD k c a) = true := fun a b c h1 h2 => by
    have h1' : ltD k b a = false := by simpa using h1
    have h2' : ltD k c b = false := by simpa using h2
    simpa using O.tr a b c h1' h2'
  have tot : ∀ a b : α, ((!ltD k b a) || (!ltD k a b)) = true := fun a b => by
    cases q : ltD k b a with
    | false => rfl
    | true => rw [O.asym _ _ q]; rfl
  rw [e]
  have s1 : Srtd (ltD k) (xs.mergeSort fun a b => !ltD k b a) := (List.pairwise_mergeSort (le := fun a b => !ltD k b a) tr tot xs).imp fun h => by simpa using h
  have p1 := List.mergeSort_perm xs (fun a b => !ltD k b a)
  have b1 : Stb (ltD k) (xs.mergeSort fun a b => !ltD k b a) xs := by
    refine ⟨p1, fun x => ?_⟩
    have sub : (xs.filter (eqv (ltD k) x)).Sublist (xs.mergeSort fun a b => !ltD k b a) := by
      refine List.sublist_mergeSort (le := fun a b => !ltD k b a) tr tot ?_ List.filter_sublist
      refine List.pairwise_of_forall_mem_list fun a ha b hb => ?_
      have h1 := eqv_iff.mp (List.mem_filter.mp ha).2
      have h2 := eqv_iff.mp (List.mem_filter.mp hb).2
      simpa using O.tr a x b h1.1 h2.2
    have sub2 := sub.filter (eqv (ltD k) x)
    rw [List.filter_filter] at sub2
    have e2 : (fun a => eqv (ltD k) x a && eqv (ltD k) x a) = eqv (ltD k) x := by funext a; simp
    rw [e2] at sub2
    exact (sub2.eq_of_length (p1.filter _).length_eq.symm).symm
  exact stb_uniq O s1 (isort_srt O xs) (b1.trans ⟨(isort_stb O xs).perm.symm, fun x => ((isort_stb O xs).cls x).symm⟩)
end
def okD (ds : List PyData) : Bool := (ds.all fun d => ds.all fun e => PySem.W.alike d e) && (ds.all fun d => decide (d.depth ≤ 8)) &&
  ((ds.all fun d => match d with | .tuple (_ :: _) => true | _ => false) || ds.all fun d => match d with | .tuple _ => false | .none => false | _ => true)
theorem okD_of {ds : List PyData} (h : okD ds = true) : PySem.W.AllAlike ds ∧ PySem.W.Sortable ds ∧ ∀ d ∈ ds, d.depth ≤ 8 := by
  unfold okD at h
  simp only [Bool.and_eq_true, Bool.or_eq_true] at h
  obtain ⟨⟨h1, h2⟩, h3⟩ := h
  refine ⟨fun d hd e he => List.all_eq_true.mp (List.all_eq_true.mp h1 d hd) e he, ?_, fun d hd => of_decide_eq_true (List.all_eq_true.mp h2 d hd)⟩
  rcases h3 with h3 | h3
  · refine .inl fun d hd => ?_
    have q := List.all_eq_true.mp h3 d hd
    split at q
    · exact ⟨_, _, rfl⟩
    · cases q
  · refine .inr fun d hd => ?_
    have q := List.all_eq_true.mp h3 d hd
    cases d <;> first | (cases q; done) | exact ⟨fun z => (by cases z), fun xs z => (by cases z)⟩
/-- sorted(l): two items at least that read as alike data, or less than two items -/
def rSortD (K : PySem.W.Frag) : List V → Hp → VK → Prop := fun vs H Q => ∃ (a : Addr) (zs : List (PyData × V)), vs = [.ref a] ∧ SqL K H a (zs.map (·.2)) ∧
  ((zs.length < 2 ∧ ∀ p, H p = none → Q (.ref p) (upd H p (.lst (zs.map (·.2))))) ∨
   ((∀ z ∈ zs, Dp K H z.2 z.1) ∧ okD (zs.map (·.1)) = true ∧ ∀ p, H p = none → Q (.ref p) (upd H p (.lst ((isort (ltD (·.1)) zs).map (·.2))))))
theorem each_vals {α : Type} {f : α → V} : ∀ {us : List Value} {zs : List α}, PySem.W.EachIs (fun u z => RelV (f z) u) us zs → Vals (zs.map f) us
  | _, _, .nil => .nil
  | _, _, .cons h t => .cons h (each_vals t)
theorem vals_each {α : Type} {f : α → V} : ∀ {zs : List α} {us : List Value}, Vals (zs.map f) us → PySem.W.EachIs (fun u z => RelV (f z) u) us zs
  | [], us, h => by cases h; exact .nil
  | z :: zs, us, h => by
    cases h with
    | cons a b => exact .cons a (vals_each b)
theorem cr_sortD {X : Cx} (hu : X.A.units + 64 < cLine) : CallR X (.builtin "sorted") (rSortD X.K) := by
  intro pins s σ H vs us Q I r h
  obtain ⟨a, zs, rfl, hs, hh⟩ := h
  obtain ⟨its, rv, hl, hsz⟩ := I.list hs
  obtain ⟨u, rfl, ru⟩ := vals1 r
  obtain rfl : u = Value.ref a := ru
  have hlen : its.length ≤ sizeLine := by rw [← rv.length]; exact hsz
  rcases hh with ⟨h2, q⟩ | ⟨hz, hk, q⟩
  · have hl2 : its.length < 2 := by rw [← rv.length, List.length_map]; exact h2
    refine sorted_ord (ltv := fun _ _ => false) ⟨fun _ _ _ => rfl, fun _ _ _ _ _ => rfl⟩ hl.isList hlen (fun h => absurd h (by omega)) fun out hs2 hb2 => ?_
    have e : out = its := by
      have p := hb2.perm
      match its, hl2 with
      | [], _ => exact p.eq_nil
      | [x], _ => exact List.perm_singleton.mp p
      | _ :: _ :: _, h => exact absurd h (by rw [List.length_cons, List.length_cons]; omega)
    subst e
    obtain ⟨n, hn⟩ := sortedAll_at s.heap out out.toArray
    exact ⟨.ref (s.heap.objs.size + 1), upd H (s.heap.objs.size + 1) (.lst (zs.map (·.2))), I.laid (t' := s.toks) (fun b o e => sortedAll_old e) (Nat.le_succ _) ⟨hsz, out, n, rv, hn⟩, rfl, q _ (I.hok.fresh (Nat.le_succ _))⟩
  · obtain ⟨k1, k2, k3⟩ := okD_of hk
    refine PySem.W.sorted_data (enc := fun z : PyData × V => z.1) (bs := zs) (R := fun u z => RelV z.2 u ∧ z ∈ zs) hl.isList ?_ ?_ k1 k2 ?_ (fun b hb => ?_) fun out ho hout => ?_
    · exact PySem.W.each_mem (vals_each rv)
    · exact (PySem.W.each_mem (vals_each rv)).mono fun u z ⟨h1, h2⟩ => Dp.reads I z.1 z.2 u (hz z h2) h1
    · rw [List.length_map] at hsz; exact hsz
    · have := k3 b.1 (List.mem_map.mpr ⟨b, hb, rfl⟩)
      show X.A.units + 2 + b.1.depth < cLine
      omega
    · have e : zs.mergeSort (PySem.W.dataLe false fun z : PyData × V => z.1) = isort (ltD (·.1)) zs := sort_isort zs
      rw [e] at hout
      obtain ⟨n, hn⟩ := sortedAll_at s.heap its out.toArray
      refine ⟨.ref (s.heap.objs.size + 1), upd H (s.heap.objs.size + 1) (.lst ((isort (ltD (·.1)) zs).map (·.2))), I.laid (t' := s.toks) (fun b o e => sortedAll_old e) (Nat.le_succ _) ⟨?_, out, n, each_vals (hout.mono fun _ _ h => h.1), hn⟩, rfl, q _ (I.hok.fresh (Nat.le_succ _))⟩
      rw [List.length_map, (isort_stb swo_D zs).perm.length_eq]
      rw [List.length_map] at hsz
      exact hsz
def fSortD (vs : List LV) (h : List LO) : R LV := match vs with
  | [v] => match v.lsf h with
    | some xs => if xs.length < 2 then .ok (.vl xs) h else (match LV.dats h 20000 xs with
      | some ds => if okD ds = true then .ok (.vl ((isort (ltD (·.1)) (ds.zip xs)).map (·.2))) h else .bad
      | none => .bad)
    | none => .bad
  | _ => .bad
theorem dats_len {h : List LO} : ∀ {n : Nat} {xs : List LV} {ds : List PyData}, LV.dats h n xs = some ds → ds.length = xs.length
  | 0, _, _, e => by simp [LV.dats] at e
  | n + 1, [], _, e => by simp only [LV.dats] at e; cases e; rfl
  | n + 1, x :: xs, _, e => by
    simp only [LV.dats] at e
    split at e
    · rename_i d ds h1 h2
      cases e
      rw [List.length_cons, List.length_cons, dats_len h2]
    · cases e
theorem dpAll_at {K : PySem.W.Frag} {H : Hp} : ∀ {vs : List V} {ds : List PyData}, DpAll K H vs ds → ∀ z ∈ ds.zip vs, Dp K H z.2 z.1
  | [], ds, h, z, m => by cases h; simp at m
  | v :: vs, ds, h, z, m => by
    cases h with
    | cons a b =>
      rcases List.mem_cons.mp m with e | e
      · rw [e]; exact a
      · exact dpAll_at b z e
theorem rvs_maps {S : Sg} {F : Addr → Prop} {ι : List Addr} {H : Hp} : ∀ {ws : List (PyData × LV × V)}, (∀ w ∈ ws, RV S F ι H w.2.1 w.2.2) → RVs S F ι H (ws.map fun w => w.2.1) (ws.map fun w => w.2.2)
  | [], _ => .nil
  | w :: ws, h => .cons (h w List.mem_cons_self) (rvs_maps (ws := ws) fun u m => h u (List.mem_cons_of_mem _ m))
theorem vc_sortD {S : Se} {E : XK} : VC S E (rSortD S.K) fSortD := fun F ι h H xs vs Q rp z o => by
  unfold fSortD at o
  split at o
  · rename_i v
    split at o
    · rename_i ys e
      cases z with
      | cons a b =>
        cases b
        obtain ⟨p, us, rfl, hs, zz⟩ := lsf_of rp a e
        split at o
        · rename_i hl
          refine ⟨p, us.map fun u => (.none, u), rfl, ?_, .inl ⟨by rw [List.length_map, ← zz.length]; exact hl, fun l hl => ?_⟩⟩
          · rw [List.map_map]
            have e3 : us.map ((fun x : PyData × V => x.2) ∘ fun u => (PyData.none, u)) = us := List.map_id us
            rw [e3]
            exact hs
          · rw [List.map_map]
            have e3 : us.map ((fun x : PyData × V => x.2) ∘ fun u => (PyData.none, u)) = us := List.map_id us
            rw [e3]
            exact ok_vl rp zz o hl
        · split at o
          · rename_i ds hd
            split at o
            · rename_i hk
              have dp := dats_of rp _ _ _ _ hd zz
              have l1 := dats_len hd
              have l2 := zz.length
              have e2 : (ds.zip us).map (·.2) = us := List.map_snd_zip (by omega)
              have e1 : (ds.zip us).map (·.1) = ds := List.map_fst_zip (by omega)
              refine ⟨p, ds.zip us, rfl, by rw [e2]; exact hs, .inr ⟨dpAll_at dp, by rw [e1]; exact hk, fun l hl => ?_⟩⟩
              -- both are sorted alike
              have m1 := isort_map (f := fun w : PyData × LV × V => (w.1, w.2.1)) (lt' := ltD (fun z : PyData × LV => z.1)) (ds.zip (ys.zip us))
              have m2 := isort_map (f := fun w : PyData × LV × V => (w.1, w.2.2)) (lt' := ltD (fun z : PyData × V => z.1)) (ds.zip (ys.zip us))
              have z1 : (ds.zip (ys.zip us)).map (fun w : PyData × LV × V => (w.1, w.2.1)) = ds.zip ys := by
                rw [show (fun w : PyData × LV × V => (w.1, w.2.1)) = Prod.map id (·.1) from rfl, ← List.zip_map_right, List.map_fst_zip (by omega)]
              have z2 : (ds.zip (ys.zip us)).map (fun w : PyData × LV × V => (w.1, w.2.2)) = ds.zip us := by
                rw [show (fun w : PyData × LV × V => (w.1, w.2.2)) = Prod.map id (·.2) from rfl, ← List.zip_map_right, List.map_snd_zip (by omega)]
              rw [z1] at m1
              rw [z2] at m2
              rw [← m2, List.map_map]
              rw [← m1, List.map_map] at o
              have hall : ∀ w ∈ ds.zip (ys.zip us), RV S.toSg F ι H w.2.1 w.2.2 := fun w hw => by
                have hm : w.2 ∈ ys.zip us := (List.of_mem_zip hw).2
                obtain ⟨i, hi⟩ := List.mem_iff_getElem?.mp hm
                rw [List.getElem?_zip_eq_some] at hi
                obtain ⟨v2, e5, e6⟩ := zz.at hi.1
                rw [hi.2] at e5
                cases e5
                exact e6
              refine ok_vl rp (rvs_maps (ws := isort _ (ds.zip (ys.zip us))) fun w hw => hall w ((isort_stb (swo_D (k := fun w : PyData × LV × V => w.1)) _).perm.mem_iff.mp hw)) o hl
            · exact o.elim
          · exact o.elim
    · exact o.elim
  · exact o.elim
theorem call_sortDS {X : Cx} (S : Se) (hu : X.A.units + 65 < cLine) (hK : X.K = S.K := by rfl) : CallR X (.builtin "sorted") (rSortD S.K) := by
  rw [← hK]
  exact cr_sortD (by omega)
end Rm
namespace Rm
open PySem PySem.Spec PyProof.Rows L2 RZ PpSet
/-! ### a method of an instance, whatever stands; what is new stays -/
def mMethU (C n : Nat) (f : MF) (ma : ME) (mr : MA) : ME := fun ρ h => (ma ρ h).bind fun v h1 => match v with
  | .ref i => match h1[i]? with
    | some (.ins C' _ _) => if C' = C then (mr ρ h1).bind fun vs h2 => (if vs.length + 1 = n then cutT h2.length (f (.ref i :: vs) h2) else .bad) else .bad
    | _ => .bad
  | .obj C' fs => if C' = C then (mr ρ h1).bind fun vs h2 => (if vs.length + 1 = n then cutT h2.length (f (.obj C' fs :: vs) h2) else .bad) else .bad
  | _ => .bad
section
variable {S : Se} {E E' : XK} {tA : TA} {mA : MA} {ta tb : TE} {ma mb : ME} {n : Nat} {f : MF}
theorem se_methU {C : Nat} {m : Str} (nm : m ∉ S.nm C) (ha : SE S E ta ma) (hr : SA S E tA mA) : SE S E (tMeth (S.ct C) m (spM S n f) [] E' ta tA) (mMethU C n f ma mA) := fun F ι h H ρ σ Q rp rs o =>
  ha F ι h H ρ σ _ rp rs (o.seq fun F1 ι1 H1 h1 v x _ e1 rp1 z o1 => by
    cases z with
    | @ref a i q0 =>
      dsimp only at o1
      split at o1
      · rename_i C' k xs hx
        have g := rp1.at hx q0
        split at o1
        · rename_i hC
          subst hC
          cases g with
          | @ins _ _ _ dx fs _ g1 g2 g3 g4 =>
            refine ⟨a, dx, fs, rfl, g1, lookup_none (by rw [g3]; exact fun q => nm (List.mem_of_mem_take q)), hr F1 ι1 h1 H1 ρ σ _ rp1 (rs.ext rp e1) (o1.seq fun F2 ι2 H2 h2 vs ys _ e2 rp2 zs o2 => ?_)⟩
            rw [List.append_nil]
            have z0 : RV S.toSg F1 ι1 H1 (.ref i) (.ref a) := .ref q0
            split at o2
            · rename_i hn
              exact cut_run rp2 (.cons (z0.ext rp1 e2) zs) (by rw [List.length_cons]; exact hn) o2
            · exact o2.elim
        · exact o1.elim
      · exact o1.elim
    | @obj a C' dx fs xs q nF hnm hfs =>
      dsimp only at o1
      split at o1
      · rename_i hC
        subst hC
        refine ⟨a, dx, fs, rfl, q, lookup_none (by rw [hnm]; exact nm), hr F1 ι1 h1 H1 ρ σ _ rp1 (rs.ext rp e1) (o1.seq fun F2 ι2 H2 h2 vs ys _ e2 rp2 zs o2 => ?_)⟩
        rw [List.append_nil]
        have z0 : RV S.toSg F1 ι1 H1 (.obj C' xs) (.ref a) := .obj q nF hnm hfs
        split at o2
        · rename_i hn
          exact cut_run rp2 (.cons (z0.ext rp1 e2) zs) (by rw [List.length_cons]; exact hn) o2
        · exact o2.elim
      · exact o1.elim
    | _ => exact o1.elim)
end
/-- which class, of what stands or changes -/
def isClsH (i C : Nat) (ρ : Rho) (h : List LO) : Bool := match ρ[i]? with
  | some (some v) => isCO C v h
  | _ => false
theorem se_orH {S : Se} {E : XK} {te1 te2 : TE} {m1 m2 : ME} (d : Rho → List LO → Bool) (h1 : SE S E te1 m1) (h2 : SE S E te2 m2) : SE S E (fun σ H Q => te1 σ H Q ∨ te2 σ H Q) (fun ρ h => if d ρ h = true then m1 ρ h else m2 ρ h) := fun F ι h H ρ σ Q rp rs o => by
  dsimp only at o ⊢
  by_cases e : d ρ h = true
  · rw [if_pos e] at o; exact .inl (h1 F ι h H ρ σ Q rp rs o)
  · rw [if_neg e] at o; exact .inr (h2 F ι h H ρ σ Q rp rs o)
/-! ### an object apart joins those that change -/
theorem Fwd.more (S : Sg) {F : Addr → Prop} {ι κ : List Addr} {H : Hp} : Fwd S F ι H F (ι ++ κ) H := ⟨fun _ _ q => q, fun _ _ _ q => q, fun _ _ _ q => q, fun _ _ n _ => n, fun n a q => by rw [List.getElem?_append_left (List.getElem?_eq_some_iff.mp q).1]; exact q⟩
theorem Rep.join {S : Sg} {F : Addr → Prop} {ι : List Addr} {H : Hp} {h : List LO} {D : Addr} {q : LO} (r : Rep S F ι h H) (FD : F D) (nm : D ∉ ι) (z : RO S F (ι ++ [D]) H q D) : Rep S F (ι ++ [D]) (h ++ [q]) H := by
  refine ⟨by rw [List.length_append, List.length_append, r.len]; rfl, ?_, fun a m => ?_, r.dom, fun i o a q1 q2 => ?_⟩
  · rw [List.nodup_append]
    refine ⟨r.nd, by simp, fun a ha b hb => ?_⟩
    rw [List.mem_singleton.mp hb]
    rintro rfl
    exact nm ha
  · rcases List.mem_append.mp m with m | m
    · exact r.inF a m
    · rw [List.mem_singleton.mp m]; exact FD
  · by_cases hi : i < h.length
    · rw [List.getElem?_append_left hi] at q1
      rw [List.getElem?_append_left (by rw [r.len]; exact hi)] at q2
      have g := r.obj i o a q1 q2
      have f := Fwd.more S (F := F) (ι := ι) (κ := [D]) (H := H)
      cases g with
      | lst a b => exact .lst a (b.fwd f _ _)
      | dic a b c d e g => exact .dic a b c d (e.fwd f _ _) (g.fwd f _ _)
      | ins a b c d => exact .ins a b c (d.fwd f _ _)
    · have e : i = h.length := by
        have := (List.getElem?_eq_some_iff.mp q1).1
        rw [List.length_append] at this
        simp at this
        omega
      subst e
      rw [List.getElem?_append_right (Nat.le_refl _)] at q1
      rw [← r.len, List.getElem?_append_right (Nat.le_refl _)] at q2
      simp at q1 q2
      subst q1 q2
      exact z
/-! ### a list by a comprehension, that changes later -/
def lcMM (it : Itr) (g : MG) (mt : MT) (me : ME) (ρ : Rho) : Nat → Nat → List LO → List LV → R LV
  | 0, _, _, _ => .bad
  | n + 1, i, h, acc => match it.at i h with
    | some (some v) => (g v ρ h).safe.bind fun ρ1 h1 => (mt ρ1 h1).safe.bind fun b h2 => if b = true then (me ρ1 h2).safe.bind fun y h3 => lcMM it g mt me ρ n (i + 1) h3 (y :: acc) else lcMM it g mt me ρ n (i + 1) h2 acc
    | some none => .ok (.ref h.length) (h ++ [.lst acc.reverse])
    | none => .bad
def mLcM (mi : MI) (g : MG) (mt : MT) (me : ME) (vs : List Nat) : ME := fun ρ h => (mi ρ h).bind fun it h1 => lcMM it g mt me (wipeR ρ vs) 60000 0 h1 []
def dcMM (it : Itr) (g : MG) (mt : MT) (mk mv : ME) (ρ : Rho) : Nat → Nat → List LO → List LV → List LV → R LV
  | 0, _, _, _, _ => .bad
  | n + 1, i, h, ks, vs => match it.at i h with
    | some (some x) => (g x ρ h).safe.bind fun ρ1 h1 => (mt ρ1 h1).safe.bind fun b h2 => if b = true then (mk ρ1 h2).safe.bind fun k h3 => (mv ρ1 h3).safe.bind fun v h4 => match k with
        | .tup ts => if kfit (.tup ts) 8 = true then (if kix (.tup ts) ks < ks.length then dcMM it g mt mk mv ρ n (i + 1) h4 ks (vs.set (kix (.tup ts) ks) v) else dcMM it g mt mk mv ρ n (i + 1) h4 (ks ++ [.tup ts]) (vs ++ [v])) else .bad
        | _ => .bad
      else dcMM it g mt mk mv ρ n (i + 1) h2 ks vs
    | some none => .ok (.ref h.length) (h ++ [.dic ks vs])
    | none => .bad
def mDcM (mi : MI) (g : MG) (mt : MT) (mk mv : ME) (vs : List Nat) : ME := fun ρ h => (mi ρ h).bind fun it h1 => dcMM it g mt mk mv (wipeR ρ vs) 50000 0 h1 [] []
section
variable {S : Se} {E : XK} {te tk tv : TE} {me mk mv : ME} {tt : TT} {mt : MT} {g : TG} {mg : MG} {wi : TI} {mi : MI}
theorem se_lcM {vs : List Nat} (hi : SI S E wi mi) (hg : SG S E0 g mg) (gw : GW g vs) (ht : ST S E0 tt mt) (he : SE S E0 te me) : SE S E (tLc wi g tt te vs) (mLcM mi mg mt me vs) := fun F ι h H ρ σ Q rp rs o => by
  refine hi F ι h H ρ σ _ rp rs (Ok.seq (rel := WalkAt S) o fun F1 ι1 H1 h1 it J _ e1 rp1 wk o1 => ?_)
  have rs1 := (rs.ext rp e1).wipe vs
  intro D hD
  refine ⟨fun i k H => ∃ F ι h acc, Lc S F1 ι1 H1 D F ι h H acc i ∧ i + k = 60000 ∧ Ok (RV S.toSg) S E F1 ι1 H1 (lcMM it mg mt me (wipeR ρ vs) k i h acc) Q, ⟨60000, fun a => F1 a ∨ a = D, ι1, h1, [], ⟨?_, ?_, .inr rfl, fun m => rp1.dom D (rp1.inF D m) hD, ⟨[], upd_same, .nil⟩, Nat.le_refl _⟩, rfl, o1⟩, ?_⟩
  · have e := EX.new (S := S) (F := F1) (ι := ι1) (o := .lst []) hD
    exact ⟨e.tup, e.keep, e.grow, fun a z => .inl z, fun a z n => z.elim (fun q => absurd q n) fun q => by rw [q]; exact hD, e.dom⟩
  · have nm : D ∉ ι1 := fun m => rp1.dom D (rp1.inF D m) hD
    have e := EX.new (S := S) (F := F1) (ι := ι1) (o := .lst []) hD
    refine ⟨rp1.len, rp1.nd, fun a m => .inl (rp1.inF a m), fun a z q => ?_, fun i o a q1 q2 => ?_⟩
    · by_cases c : a = D
      · subst c; rw [upd_same] at q; cases q
      · rw [upd_ne c] at q
        exact z.elim (fun z => rp1.dom a z q) c
    · refine (rp1.obj i o a q1 q2).fwd ⟨fun a vs q => e.tup a vs q, fun a o n q => e.keep a o (fun m => n (rp1.inF a m)) q, fun a o us q => e.keep a _ (rp1.nfr q) q, fun a o n q z => ?_, fun _ _ q => q⟩ fun u q => ?_
      · rcases z with z | z
        · exact n z
        · rw [z, hD] at q; cases q
      · rw [upd_ne (ne_of_none q hD)]; exact q
  · rintro i k H2 ⟨F2, ι2, h2, acc, L, hk, o2⟩
    cases k with
    | zero => exact o2.elim
    | succ k =>
      have w := wk F2 ι2 h2 H2 i (L.ex.fwd rp1) L.rp
      simp only [lcMM] at o2
      split at o2
      · rename_i v hv
        rw [hv] at w
        refine .inr ⟨w.1, fun H' => ∃ F ι h acc, Lc S F1 ι1 H1 D F ι h H' acc (i + 1) ∧ (i + 1) + k = 60000 ∧ Ok (RV S.toSg) S E F1 ι1 H1 (lcMM it mg mt me (wipeR ρ vs) k (i + 1) h acc) Q, fun H' w => ⟨k, Nat.lt_succ_self k, w⟩, fun x H' hy => ?_⟩
        obtain ⟨e3, rp3, z3⟩ := w.2 x H' hy
        have L3 := L.step e3 rp3
        have gg := gw x (wipe σ vs) H' (fun σ2 H2 => tt σ2 H2 fun b H3 => if b = true then te σ2 H3 fun y H4 => ∃ acc, H4 D = some (.lst acc) ∧ acc.length < sizeLine ∧ (∃ F ι h ac, Lc S F1 ι1 H1 D F ι h (upd H4 D (.lst (acc ++ [y]))) ac (i + 1) ∧ (i + 1) + k = 60000 ∧ Ok (RV S.toSg) S E F1 ι1 H1 (lcMM it mg mt me (wipeR ρ vs) k (i + 1) h ac) Q)
          else (∃ F ι h ac, Lc S F1 ι1 H1 D F ι h H3 ac (i + 1) ∧ (i + 1) + k = 60000 ∧ Ok (RV S.toSg) S E F1 ι1 H1 (lcMM it mg mt me (wipeR ρ vs) k (i + 1) h ac) Q))
        rw [wipe_wipe] at gg
        refine gg ?_
        have rs3 := ((rs1.ext rp1 L.ex).ext L.rp e3)
        refine hg F2 ι2 h2 H' (wipeR ρ vs) (wipe σ vs) v x _ rp3 rs3 z3 (Ok.seqB (rel := RS S) o2 fun F4 ι4 H4 h4 ρ4 σ4 _ e4 rp4 rs4 o4 => ?_)
        have L4 := L3.step e4 rp4
        refine ht F4 ι4 h4 H4 ρ4 σ4 _ rp4 rs4 (Ok.seqB (rel := eqB) o4 fun F5 ι5 H5 h5 b b' _ e5 rp5 zb o5 => ?_)
        cases zb
        have L5 := L4.step e5 rp5
        cases b with
        | false => exact ⟨F5, ι5, h5, acc, ⟨L5.ex, L5.rp, L5.FD, L5.nD, L5.at', Nat.le_succ_of_le L5.le⟩, by omega, o5⟩
        | true =>
          refine he F5 ι5 h5 H5 ρ4 σ4 _ rp5 (rs4.ext rp4 e5) (Ok.seqB (rel := RV S.toSg) o5 fun F6 ι6 H6 h6 y yv _ e6 rp6 zy o6 => ?_)
          have L6 := L5.step e6 rp6
          obtain ⟨us, q, zs⟩ := L6.at'
          have hl : us.length ≤ i := by rw [← zs.length, List.length_reverse]; exact L6.le
          have fw := Fwd.updD (S := S) (ι := ι6) (ws := us ++ [yv]) L6.FD q
          refine ⟨us, q, Nat.lt_of_le_of_lt hl (Nat.lt_of_lt_of_le (show i < 60000 by omega) (by decide)), F6, ι6, h6, y :: acc, ⟨L6.ex.updD hD q, rp6.updD L6.FD L6.nD q, L6.FD, L6.nD, ⟨us ++ [yv], upd_same, ?_⟩, ?_⟩, by omega, o6⟩
          · rw [List.reverse_cons]
            exact (zs.fwd fw _ _).append (.cons (zy.fwd fw _ _) .nil)
          · rw [List.length_cons]
            exact Nat.succ_le_succ L6.le
      · rename_i hv
        rw [hv] at w
        refine .inl ⟨w, ?_⟩
        obtain ⟨us, q, zs⟩ := L.at'
        have nm : D ∉ ι2 := L.nD
        refine o2 F2 (ι2 ++ [D]) H2 (.ref D) ⟨L.ex.tup, L.ex.keep, ?_, L.ex.more, L.ex.fresh, L.ex.dom⟩ ?_ (.ref (by rw [← L.rp.len, List.getElem?_append_right (Nat.le_refl _)]; simp))
        · obtain ⟨more, hm, n⟩ := L.ex.grow
          refine ⟨more ++ [D], by rw [hm, List.append_assoc], fun a ha => ?_⟩
          rcases List.mem_append.mp ha with m | m
          · exact n a m
          · rw [List.mem_singleton.mp m]; exact hD
        · exact Rep.join L.rp L.FD nm (.lst q (zs.fwd (Fwd.more S.toSg) _ _))
      · exact o2.elim
theorem se_dcM {vs : List Nat} (hi : SI S E wi mi) (hg : SG S E0 g mg) (gw : GW g vs) (ht : ST S E0 tt mt) (hk : SE S E0 tk mk) (hv : SE S E0 tv mv) : SE S E (tDcN S.P S.w S.K wi g tt tk tv vs) (mDcM mi mg mt mk mv vs) := fun F ι h H ρ σ Q rp rs o => by
  refine hi F ι h H ρ σ _ rp rs (Ok.seq (rel := WalkAt S) o fun F1 ι1 H1 h1 it J _ e1 rp1 wk o1 => ?_)
  have rs1 := (rs.ext rp e1).wipe vs
  intro D ob hD low
  obtain ⟨ex0, rp0⟩ := apart (S := S) (u := .ext (dvF S.P S.w D ob [] [])) rp1 hD
  refine ⟨fun i k H => ∃ F ι h ks vals, Dc S F1 ι1 H1 D F ι h H ks vals i ∧ i + k = 50000 ∧ Ok (RV S.toSg) S E F1 ι1 H1 (dcMM it mg mt mk mv (wipeR ρ vs) k i h ks vals) Q, ⟨50000, _, ι1, h1, [], [], ⟨ex0, rp0, .inr rfl, fun m => rp1.dom D (rp1.inF D m) hD, ⟨ob, [], [], upd_same, keysOk_nil, rfl, .nil, .nil⟩, Nat.le_refl _⟩, rfl, o1⟩, ?_⟩
  rintro i k H2 ⟨F2, ι2, h2, ks, vals, L, hkk, o2⟩
  cases k with
  | zero => exact o2.elim
  | succ k =>
    have w := wk F2 ι2 h2 H2 i (L.ex.fwd rp1) L.rp
    simp only [dcMM] at o2
    split at o2
    · rename_i x hx
      rw [hx] at w
      refine .inr ⟨w.1, fun H' => ∃ F ι h ks vals, Dc S F1 ι1 H1 D F ι h H' ks vals (i + 1) ∧ (i + 1) + k = 50000 ∧ Ok (RV S.toSg) S E F1 ι1 H1 (dcMM it mg mt mk mv (wipeR ρ vs) k (i + 1) h ks vals) Q, fun H' w => ⟨k, Nat.lt_succ_self k, w⟩, fun y H' hy => ?_⟩
      obtain ⟨e3, rp3, z3⟩ := w.2 y H' hy
      have L3 := L.step e3 rp3
      have gg := gw y (wipe σ vs) H' (fun σ2 H2 => tt σ2 H2 fun b H3 => if b = true then tk σ2 H3 fun y H4 => tv σ2 H4 fun z H5 => rSetN S.P S.w S.K (.ref D) y z H5 (fun H' => ∃ F ι h ks vals, Dc S F1 ι1 H1 D F ι h H' ks vals (i + 1) ∧ (i + 1) + k = 50000 ∧ Ok (RV S.toSg) S E F1 ι1 H1 (dcMM it mg mt mk mv (wipeR ρ vs) k (i + 1) h ks vals) Q)
        else (∃ F ι h ks vals, Dc S F1 ι1 H1 D F ι h H3 ks vals (i + 1) ∧ (i + 1) + k = 50000 ∧ Ok (RV S.toSg) S E F1 ι1 H1 (dcMM it mg mt mk mv (wipeR ρ vs) k (i + 1) h ks vals) Q))
      rw [wipe_wipe] at gg
      refine gg ?_
      have rs3 := ((rs1.ext rp1 L.ex).ext L.rp e3)
      refine hg F2 ι2 h2 H' (wipeR ρ vs) (wipe σ vs) x y _ rp3 rs3 z3 (Ok.seqB (rel := RS S) o2 fun F4 ι4 H4 h4 ρ4 σ4 _ e4 rp4 rs4 o4 => ?_)
      have L4 := L3.step e4 rp4
      refine ht F4 ι4 h4 H4 ρ4 σ4 _ rp4 rs4 (Ok.seqB (rel := eqB) o4 fun F5 ι5 H5 h5 b b' _ e5 rp5 zb o5 => ?_)
      cases zb
      have L5 := L4.step e5 rp5
      have rs5 := rs4.ext rp4 e5
      cases b with
      | false => exact ⟨F5, ι5, h5, ks, vals, ⟨L5.ex, L5.rp, L5.FD, L5.nD, L5.at', Nat.le_succ_of_le L5.le⟩, by omega, o5⟩
      | true =>
        refine hk F5 ι5 h5 H5 ρ4 σ4 _ rp5 rs5 (Ok.seqB (rel := RV S.toSg) o5 fun F6 ι6 H6 h6 kl kv _ e6 rp6 zk o6 => ?_)
        have L6 := L5.step e6 rp6
        refine hv F6 ι6 h6 H6 ρ4 σ4 _ rp6 (rs5.ext rp5 e6) (Ok.seqB (rel := RV S.toSg) o6 fun F7 ι7 H7 h7 vl vv _ e7 rp7 zv o7 => ?_)
        have L7 := L6.step e7 rp7
        obtain ⟨o, kas, xs, q, c, d, z1, z2⟩ := L7.at'
        have hlen : ks.length = kas.length := by have := z1.length; rw [List.length_map] at this; exact this
        split at o7
        · rename_i ts hmk
          split at o7
          · rename_i hf
            obtain ⟨kk, k1, k2⟩ := kfit_of _ _ hf
            have zk2 := zk.ext rp6 e7
            have nk := nk_of _ _ _ zk2 k1
            have le := L7.le
            cases zk2 with
            | @tup b _ _ t1 t2 =>
              refine ⟨D, b, o, kas, xs, kk, rfl, rfl, ⟨q, low, c, fun p hp => nk_pick (nks_of ks _ _ z1 d) hp⟩, nk, k2, by omega, ?_⟩
              split at o7
              · rename_i lt
                exact .inr ⟨kix (.tup ts) ks, (kix_of k1 d).1 lt, fun o' => ⟨F7, ι7, h7, ks, _, L7.put hD ⟨c.1, by rw [List.length_set]; exact c.2.1, c.2.2⟩ d z1 (RVs.set zv _ z2) (Nat.le_succ_of_le le), by omega, o7⟩⟩
              · rename_i lt
                have nin := (kix_of k1 d).2 lt
                refine .inl ⟨nin, fun o' => ⟨F7, ι7, h7, _, _, L7.put hD (keysOk_app c nin k2 (by omega)) ?_ ?_ (z2.append (.cons zv .nil)) (by rw [List.length_append]; exact Nat.succ_le_succ le), by omega, o7⟩⟩
                · rw [List.map_append]
                  exact keys_app d k1
                · rw [List.map_append]
                  exact z1.append (.cons (.tup t1 t2) .nil)
          · exact o7.elim
        · exact o7.elim
    · rename_i hx
      rw [hx] at w
      refine .inl ⟨w, ?_⟩
      obtain ⟨o, kas, xs, q, c, d, z1, z2⟩ := L.at'
      have nm : D ∉ ι2 := L.nD
      refine o2 F2 (ι2 ++ [D]) H2 (.ref D) ⟨L.ex.tup, L.ex.keep, ?_, L.ex.more, L.ex.fresh, L.ex.dom⟩ ?_ (.ref (by rw [← L.rp.len, List.getElem?_append_right (Nat.le_refl _)]; simp))
      · obtain ⟨more, hm, n⟩ := L.ex.grow
        refine ⟨more ++ [D], by rw [hm, List.append_assoc], fun a ha => ?_⟩
        rcases List.mem_append.mp ha with m | m
        · exact n a m
        · rw [List.mem_singleton.mp m]; exact hD
      · exact Rep.join L.rp L.FD nm (.dic q low c d (z1.fwd (Fwd.more S.toSg) _ _) (z2.fwd (Fwd.more S.toSg) _ _))
    · exact o2.elim
end
/-! ### targets of any depth -/
structure GM (g : TG) (vs : List Nat) : Prop where
  w : GW g vs
  m : ∀ v σ H (Q Q' : L2.St → Hp → Prop), (∀ a b, Q a b → Q' a b) → g v σ H Q → g v σ H Q'
structure GMs (g : TGs) (vs : List Nat) : Prop where
  w : GWs g vs
  m : ∀ v σ H (Q Q' : L2.St → Hp → Prop), (∀ a b, Q a b → Q' a b) → g v σ H Q → g v σ H Q'
theorem gm_name {i : Nat} {vs : List Nat} (h : i ∈ vs) : GM (gName i) vs := ⟨gw_name h, fun _ _ _ _ _ m q => m _ _ q⟩
theorem gms_nil {vs : List Nat} : GMs gNil vs := ⟨gws_nil, fun _ _ _ _ _ m q => ⟨q.1, m _ _ q.2⟩⟩
theorem gms_cons {g : TG} {gs : TGs} {vs : List Nat} (a : GM g vs) (b : GMs gs vs) : GMs (gCons g gs) vs := ⟨gws_cons a.m b.m a.w b.w, fun v σ H Q Q' m q => by
  obtain ⟨x, r, rfl, q⟩ := q
  exact ⟨x, r, rfl, a.m _ _ _ _ _ (fun σ2 H2 q2 => b.m _ _ _ _ _ m q2) q⟩⟩
theorem gm_tup {K : PySem.W.Frag} {n : Nat} {gs : TGs} {vs : List Nat} (b : GMs gs vs) : GM (gTup K n gs) vs := ⟨gw_tup b.w, fun v σ H Q Q' m q => by
  obtain ⟨a, xs, rfl, hs, hn, q⟩ := q
  exact ⟨a, xs, rfl, hs, hn, b.m _ _ _ _ _ m q⟩⟩
/-! ### [.. for .. for ..] -/
def lc2I (it : Itr) (g : MG) (mt : MT) (me : ME) (ρ : Rho) : Nat → Nat → List LO → List LV → R (List LV)
  | 0, _, _, _ => .bad
  | n + 1, i, h, acc => match it.at i h with
    | some (some v) => (g v ρ h).safe.bind fun ρ1 h1 => (mt ρ1 h1).safe.bind fun b h2 => if b = true then (me ρ1 h2).safe.bind fun y h3 => (if acc.length < 60000 then lc2I it g mt me ρ n (i + 1) h3 (y :: acc) else .bad) else lc2I it g mt me ρ n (i + 1) h2 acc
    | some none => .ok acc h
    | none => .bad
def lc2M (it : Itr) (g : MG) (mt : MT) (mi1 : MI) (g1 : MG) (mt1 : MT) (me : ME) (vs1 : List Nat) (ρ : Rho) : Nat → Nat → List LO → List LV → R LV
  | 0, _, _, _ => .bad
  | n + 1, i, h, acc => match it.at i h with
    | some (some v) => (g v ρ h).safe.bind fun ρ1 h1 => (mt ρ1 h1).safe.bind fun b h2 => if b = true then (mi1 ρ1 h2).safe.bind fun it1 h3 => (lc2I it1 g1 mt1 me (wipeR ρ1 vs1) 60000 0 h3 acc).safe.bind fun acc1 h4 => lc2M it g mt mi1 g1 mt1 me vs1 ρ n (i + 1) h4 acc1 else lc2M it g mt mi1 g1 mt1 me vs1 ρ n (i + 1) h2 acc
    | some none => .ok (.vl acc.reverse) h
    | none => .bad
def mLc2 (mi : MI) (g : MG) (mt : MT) (mi1 : MI) (g1 : MG) (mt1 : MT) (me : ME) (vs vs1 : List Nat) : ME := fun ρ h => (mi ρ h).bind fun it h1 => lc2M it g mt mi1 g1 mt1 me vs1 (wipeR ρ vs) 60000 0 h1 []
structure L2c (S : Se) (F1 : Addr → Prop) (ι1 : List Addr) (H1 : Hp) (D : Addr) (F : Addr → Prop) (ι : List Addr) (h : List LO) (H : Hp) (acc : List LV) : Prop where
  ex : EX S.toSg F1 ι1 H1 F ι H
  rp : Rep S.toSg F ι h H
  FD : F D
  nD : D ∉ ι
  at' : ∃ vs, H D = some (.lst vs) ∧ RVs S.toSg F ι H acc.reverse vs
section
variable {S : Se} {E : XK} {te : TE} {me : ME} {tt tt1 : TT} {mt mt1 : MT} {g g1 : TG} {mg mg1 : MG} {wi wi1 : TI} {mi mi1 : MI}
theorem L2c.step {F1 F F2 : Addr → Prop} {ι1 ι ι2 : List Addr} {H1 H H2 : Hp} {D : Addr} {h h2 : List LO} {acc : List LV} (L : L2c S F1 ι1 H1 D F ι h H acc) (e : EX S.toSg F ι H F2 ι2 H2) (r : Rep S.toSg F2 ι2 h2 H2) : L2c S F1 ι1 H1 D F2 ι2 h2 H2 acc := by
  obtain ⟨vs, q, z⟩ := L.at'
  obtain ⟨s1, s2⟩ := stays e L.nD q
  exact ⟨L.ex.trans e, r, e.more _ L.FD, s2, ⟨vs, s1, z.ext L.rp e⟩⟩
theorem L2c.put {F1 F : Addr → Prop} {ι1 ι : List Addr} {H1 H : Hp} {D : Addr} {h : List LO} {acc : List LV} {y : LV} {yv : V} {us : List V} (L : L2c S F1 ι1 H1 D F ι h H acc) (hD : H1 D = none) (q : H D = some (.lst us)) (zs : RVs S.toSg F ι H acc.reverse us) (zy : RV S.toSg F ι H y yv) : L2c S F1 ι1 H1 D F ι h (upd H D (.lst (us ++ [yv]))) (y :: acc) := by
  have fw := Fwd.updD (S := S) (ι := ι) (ws := us ++ [yv]) L.FD q
  refine ⟨L.ex.updD hD q, L.rp.updD L.FD L.nD q, L.FD, L.nD, ⟨us ++ [yv], upd_same, ?_⟩⟩
  rw [List.reverse_cons]
  exact (zs.fwd fw _ _).append (.cons (zy.fwd fw _ _) .nil)
theorem Fwd.trans {S : Sg} {F F1 F2 : Addr → Prop} {ι ι1 ι2 : List Addr} {H H1 H2 : Hp} (a : Fwd S F ι H F1 ι1 H1) (b : Fwd S F1 ι1 H1 F2 ι2 H2) : Fwd S F ι H F2 ι2 H2 :=
  ⟨fun x vs q => b.tup _ _ (a.tup x vs q), fun x o n q => b.keep x o (a.nf x o n q) (a.keep x o n q), fun x o vs q => b.frz x o vs (a.frz x o vs q), fun x o n q => b.nf x o (a.nf x o n q) (a.keep x o n q), fun n x q => b.ix n x (a.ix n x q)⟩
theorem Fwd.refl (S : Sg) {F : Addr → Prop} {ι : List Addr} {H : Hp} : Fwd S F ι H F ι H := ⟨fun _ _ q => q, fun _ _ _ q => q, fun _ _ _ q => q, fun _ _ n _ => n, fun _ _ q => q⟩
theorem RS.fwd {F F1 : Addr → Prop} {ι ι1 : List Addr} {H H1 : Hp} {ρ : Rho} {σ : L2.St} (s : RS S F ι H ρ σ) (f : Fwd S.toSg F ι H F1 ι1 H1) : RS S F1 ι1 H1 ρ σ :=
  ⟨s.len, fun i v q => let ⟨x, a, b⟩ := s.get i v q; ⟨x, a, b.fwd f _ _⟩⟩
theorem se_lc2 {vs vs1 : List Nat} (hi : SI S E wi mi) (hg : SG S E0 g mg) (gw : GW g vs) (ht : ST S E0 tt mt) (hi1 : SI S E0 wi1 mi1) (hg1 : SG S E0 g1 mg1) (gw1 : GW g1 vs1) (ht1 : ST S E0 tt1 mt1) (he : SE S E0 te me) : SE S E (tLc2 wi g tt wi1 g1 tt1 te vs vs1) (mLc2 mi mg mt mi1 mg1 mt1 me vs vs1) := fun F ι h H ρ σ Q rp rs o => by
  refine hi F ι h H ρ σ _ rp rs (Ok.seq (rel := WalkAt S) o fun F1 ι1 H1 h1 it J _ e1 rp1 wk o1 => ?_)
  have rs1 := (rs.ext rp e1).wipe vs
  intro D hD
  obtain ⟨ex0, rp0⟩ := apart (S := S) (u := .lst []) rp1 hD
  refine ⟨fun i k H => ∃ F ι h acc, L2c S F1 ι1 H1 D F ι h H acc ∧ Ok (RV S.toSg) S E F1 ι1 H1 (lc2M it mg mt mi1 mg1 mt1 me vs1 (wipeR ρ vs) k i h acc) Q, ⟨60000, _, ι1, h1, [], ⟨ex0, rp0, .inr rfl, fun m => rp1.dom D (rp1.inF D m) hD, ⟨[], upd_same, .nil⟩⟩, o1⟩, ?_⟩
  rintro i k H2 ⟨F2, ι2, h2, acc, L, o2⟩
  cases k with
  | zero => exact o2.elim
  | succ k =>
    have w := wk F2 ι2 h2 H2 i (L.ex.fwd rp1) L.rp
    simp only [lc2M] at o2
    split at o2
    · rename_i v hv
      rw [hv] at w
      refine .inr ⟨w.1, fun H' => ∃ F ι h acc, L2c S F1 ι1 H1 D F ι h H' acc ∧ Ok (RV S.toSg) S E F1 ι1 H1 (lc2M it mg mt mi1 mg1 mt1 me vs1 (wipeR ρ vs) k (i + 1) h acc) Q, fun H' w => ⟨k, Nat.lt_succ_self k, w⟩, fun x H' hy => ?_⟩
      obtain ⟨e3, rp3, z3⟩ := w.2 x H' hy
      have L3 := L.step e3 rp3
      have rs3 := ((rs1.ext rp1 L.ex).ext L.rp e3)
      let NxO : Hp → Prop := fun H' => ∃ F ι h acc, L2c S F1 ι1 H1 D F ι h H' acc ∧ Ok (RV S.toSg) S E F1 ι1 H1 (lc2M it mg mt mi1 mg1 mt1 me vs1 (wipeR ρ vs) k (i + 1) h acc) Q
      have gg := gw x (wipe σ vs) H' (fun σ2 H2 => tt σ2 H2 fun b H3 => if b = true then wi1 σ2 H3 fun J1 H4 => ∃ W1 : Nat → Nat → Hp → Prop, (∃ m, W1 0 m H4) ∧ ∀ j k H, W1 j k H →
        (J1.stop j H ∧ NxO H) ∨ (J1.go j H ∧ ∃ Nx1 : Hp → Prop, (∀ H', Nx1 H' → ∃ k', k' < k ∧ W1 (j + 1) k' H') ∧ ∀ x H', J1.yld j H x H' → g1 x (wipe σ2 vs1) H' fun σ3 H5 => wipe σ3 vs1 = wipe σ2 vs1 ∧ tt1 σ3 H5 fun b H6 =>
          if b = true then te σ3 H6 fun y H7 => ∃ acc, H7 D = some (.lst acc) ∧ acc.length < sizeLine ∧ Nx1 (upd H7 D (.lst (acc ++ [y]))) else Nx1 H6) else NxO H3)
      rw [wipe_wipe] at gg
      refine gg ?_
      refine hg F2 ι2 h2 H' (wipeR ρ vs) (wipe σ vs) v x _ rp3 rs3 z3 (Ok.seqB (rel := RS S) o2 fun F4 ι4 H4 h4 ρ4 σ4 _ e4 rp4 rs4 o4 => ?_)
      have L4 := L3.step e4 rp4
      refine ht F4 ι4 h4 H4 ρ4 σ4 _ rp4 rs4 (Ok.seqB (rel := eqB) o4 fun F5 ι5 H5 h5 b b' _ e5 rp5 zb o5 => ?_)
      cases zb
      have L5 := L4.step e5 rp5
      have rs5 := rs4.ext rp4 e5
      cases b with
      | false => exact ⟨F5, ι5, h5, acc, L5, o5⟩
      | true =>
        refine hi1 F5 ι5 h5 H5 ρ4 σ4 _ rp5 rs5 (Ok.seqB (rel := WalkAt S) o5 fun F6 ι6 H6 h6 it1 J1 _ e6 rp6 wk1 o6 => ?_)
        have L6 := L5.step e6 rp6
        have rs6 := (rs5.ext rp5 e6).wipe vs1
        refine ⟨fun j k1 H => ∃ F ι h acc, Fwd S.toSg F6 ι6 H6 F ι H ∧ L2c S F1 ι1 H1 D F ι h H acc ∧ Ok (RV S.toSg) S E F1 ι1 H1 ((lc2I it1 mg1 mt1 me (wipeR ρ4 vs1) k1 j h acc).safe.bind fun acc1 h4 => lc2M it mg mt mi1 mg1 mt1 me vs1 (wipeR ρ vs) k (i + 1) h4 acc1) Q, ⟨60000, F6, ι6, h6, acc, .refl S.toSg, L6, o6⟩, ?_⟩
        rintro j k1 H7 ⟨F7, ι7, h7, acc7, ex7, L7, o7⟩
        cases k1 with
        | zero => exact o7.elim
        | succ k1 =>
          have w1 := wk1 F7 ι7 h7 H7 j ex7 L7.rp
          simp only [lc2I] at o7
          split at o7
          · rename_i v1 hv1
            rw [hv1] at w1
            let NxI : Hp → Prop := fun H' => ∃ F ι h acc, Fwd S.toSg F6 ι6 H6 F ι H' ∧ L2c S F1 ι1 H1 D F ι h H' acc ∧ Ok (RV S.toSg) S E F1 ι1 H1 ((lc2I it1 mg1 mt1 me (wipeR ρ4 vs1) k1 (j + 1) h acc).safe.bind fun acc1 h4 => lc2M it mg mt mi1 mg1 mt1 me vs1 (wipeR ρ vs) k (i + 1) h4 acc1) Q
            refine .inr ⟨w1.1, NxI, fun H' w => ⟨k1, Nat.lt_succ_self k1, w⟩, fun x1 H' hy1 => ?_⟩
            obtain ⟨e8, rp8, z8⟩ := w1.2 x1 H' hy1
            have L8 := L7.step e8 rp8
            have rs8 := ((rs6.fwd ex7).ext L7.rp e8)
            have gg1 := gw1 x1 (wipe σ4 vs1) H' (fun σ3 H5 => tt1 σ3 H5 fun b H6 => if b = true then te σ3 H6 fun y H7 => ∃ acc, H7 D = some (.lst acc) ∧ acc.length < sizeLine ∧ NxI (upd H7 D (.lst (acc ++ [y]))) else NxI H6)
            rw [wipe_wipe] at gg1
            refine gg1 ?_
            have bnd : ∀ {α : Type} {r : R α} {f : α → List LO → R (List LV)} {g : List LV → List LO → R LV}, ((r.safe.bind f).safe.bind g) = r.safe.bind fun a h => (f a h).safe.bind g := fun {α r f g} => by cases r <;> rfl
            rw [bnd] at o7
            refine hg1 F7 ι7 h7 H' (wipeR ρ4 vs1) (wipe σ4 vs1) v1 x1 _ rp8 rs8 z8 (Ok.seqB (rel := RS S) o7 fun F9 ι9 H9 h9 ρ9 σ9 _ e9 rp9 rs9 o9 => ?_)
            have L9 := L8.step e9 rp9
            have ex9 := ex7.trans ((e8.trans e9).fwd L7.rp)
            rw [bnd] at o9
            refine ht1 F9 ι9 h9 H9 ρ9 σ9 _ rp9 rs9 (Ok.seqB (rel := eqB) o9 fun Fa ιa Ha ha b b' _ ea rpa zb oa => ?_)
            cases zb
            have La := L9.step ea rpa
            cases b with
            | false => exact ⟨Fa, ιa, ha, acc7, ex9.trans (ea.fwd rp9), La, oa⟩
            | true =>
              have oa : Ok (RV S.toSg) S E F1 ι1 H1 (((me ρ9 ha).safe.bind fun y h3 => if acc7.length < 60000 then lc2I it1 mg1 mt1 me (wipeR ρ4 vs1) k1 (j + 1) h3 (y :: acc7) else .bad).safe.bind fun acc1 h4 => lc2M it mg mt mi1 mg1 mt1 me vs1 (wipeR ρ vs) k (i + 1) h4 acc1) Q := oa
              rw [bnd] at oa
              refine he Fa ιa ha Ha ρ9 σ9 _ rpa (rs9.ext rp9 ea) (Ok.seqB (rel := RV S.toSg) oa fun Fb ιb Hb hb y yv _ eb rpb zy ob => ?_)
              have Lb := La.step eb rpb
              obtain ⟨us, q, zs⟩ := Lb.at'
              split at ob
              · rename_i hl
                refine ⟨us, q, Nat.lt_of_lt_of_le (show us.length < 60000 by rw [← zs.length, List.length_reverse]; exact hl) (by decide), Fb, ιb, hb, y :: acc7, ?_, Lb.put hD q zs zy, ob⟩
                exact (ex9.trans ((ea.trans eb).fwd rp9)).trans (Fwd.updD Lb.FD q)
              · exact ob.elim
          · rename_i hv1
            rw [hv1] at w1
            exact .inl ⟨w1, F7, ι7, h7, acc7, L7, o7⟩
          · exact o7.elim
    · rename_i hv
      rw [hv] at w
      refine .inl ⟨w, ?_⟩
      obtain ⟨us, q, zs⟩ := L.at'
      have n1 : ∀ a, F1 a → a ≠ D := fun a z c => rp1.dom a z (by rw [c]; exact hD)
      have fw : Fwd S.toSg F2 ι2 H2 (fun a => F2 a ∧ a ≠ D) ι2 H2 := ⟨fun _ _ q => q, fun _ _ _ q => q, fun _ _ _ q => q, fun _ _ n _ z => n z.1, fun _ _ q => q⟩
      refine o2 (fun a => F2 a ∧ a ≠ D) ι2 H2 (.ref D) ⟨L.ex.tup, L.ex.keep, L.ex.grow, fun a z => ⟨L.ex.more a z, n1 a z⟩, fun a z n => L.ex.fresh a z.1 n, L.ex.dom⟩ ?_ (.vl q (fun z => z.2 rfl) (zs.fwd fw _ _))
      exact ⟨L.rp.len, L.rp.nd, fun a m => ⟨L.rp.inF a m, fun c => L.nD (by rw [← c]; exact m)⟩, fun a z => L.rp.dom a z.1, fun j o a q1 q2 => (L.rp.obj j o a q1 q2).fwd fw fun _ q => q⟩
    · exact o2.elim
end
end Rm
namespace Rm
open PySem PySem.Spec PyProof.Rows L2 RZ PpSet
section
variable {S : Se} {E : XK} {ta tb tc : TE} {ma mb mc : ME} {tA : TA} {mA : MA}
/-! ### text.endswith(text), text.startswith(text, at) -/
def fEnds (v w : LV) (h : List LO) : R LV := match v, w with
  | .str x, .str y => .ok (.bl (Txt.endswith ⟨x.toArray⟩ ⟨y.toArray⟩)) h
  | _, _ => .bad
def rEndsT : V → List V → Hp → VK → Prop := fun x xs H Q => ∃ a b, x = .str a ∧ xs = [.str b] ∧ Q (.bl (Txt.endswith a b)) H
theorem mt_ends {X : Cx} : MtR X "str.endswith" rEndsT := mt_endswith
theorem vo_ends : VO S E (fun x y H Q => rEndsT x [y] H Q) fEnds := fun F ι h H x y v w Q rp zx zy o => by
  unfold fEnds at o
  split at o
  · cases zx; cases zy
    exact ⟨_, _, rfl, rfl, Ok.now (rel := RV S.toSg) o rp (.bl _)⟩
  · exact o.elim
def rStw : V → List V → Hp → VK → Prop := fun x xs H Q => ∃ (a b : Str) (i : Int), x = .str a ∧ xs = [.str b, .int i] ∧ Q (.bl (Txt.startswith3 a b i)) H
theorem mt_stw {X : Cx} : MtR X "str.startswith" rStw := mt_startswith3
def mStw (ma mb mc : ME) : ME := fun ρ h => (ma ρ h).bind fun v h1 => match v with
  | .str a => (mb ρ h1).bind fun w h2 => (mc ρ h2).bind fun u h3 => match w, u with
    | .str b, .int i => .ok (.bl (Txt.startswith3 ⟨a.toArray⟩ ⟨b.toArray⟩ i)) h3
    | _, _ => .bad
  | _ => .bad
theorem se_stw (ha : SE S E ta ma) (hb : SE S E tb mb) (hc : SE S E tc mc) : SE S E (tBM S.K "str" rStw ta (tCons tb (tCons tc tNil))) (mStw ma mb mc) := fun F ι h H ρ σ Q rp rs o =>
  ha F ι h H ρ σ _ rp rs (o.seq fun F1 ι1 H1 h1 v x _ e1 rp1 zx o1 => by
    cases zx with
    | str a =>
      refine ⟨rfl, hb F1 ι1 h1 H1 ρ σ _ rp1 (rs.ext rp e1) (o1.seq fun F2 ι2 H2 h2 w y _ e2 rp2 zy o2 => hc F2 ι2 h2 H2 ρ σ _ rp2 ((rs.ext rp e1).ext rp1 e2) (o2.seq fun F3 ι3 H3 h3 u z _ e3 rp3 zz o3 => ?_))⟩
      have zy := zy.ext rp2 e3
      cases zy with
      | str b =>
        cases zz with
        | int i => exact ⟨_, _, _, rfl, rfl, Ok.now (rel := RV S.toSg) o3 rp3 (.bl _)⟩
        | _ => exact o3.elim
      | _ => exact o3.elim
    | _ => exact o1.elim)
/-! ### gcd, min -/
def fGcd (vs : List LV) (h : List LO) : R LV := match vs with
  | [.int a, .int b] => .ok (.int ((Nat.gcd a.natAbs b.natAbs : Nat) : Int)) h
  | _ => .bad
theorem vc_gcd : VC S E rGcd fGcd := fun F ι h H xs vs Q rp z o => by
  unfold fGcd at o
  split at o
  · cases z with
    | cons a b =>
      cases b with
      | cons b c =>
        cases c; cases a; cases b
        exact ⟨_, _, rfl, Ok.now (rel := RV S.toSg) o rp (.int _)⟩
  · exact o.elim
def rMin2 : List V → Hp → VK → Prop := fun xs H Q => ∃ i j, xs = [.int i, .int j] ∧ Q (.int (if j < i then j else i)) H
theorem call_min2' {X : Cx} (hc : X.calm = true) : CallR X (.builtin "min") rMin2 := call_min2 hc
def fMin2 (vs : List LV) (h : List LO) : R LV := match vs with
  | [.int i, .int j] => .ok (.int (if j < i then j else i)) h
  | _ => .bad
theorem vc_min2 : VC S E rMin2 fMin2 := fun F ι h H xs vs Q rp z o => by
  unfold fMin2 at o
  split at o
  · cases z with
    | cons a b =>
      cases b with
      | cons b c =>
        cases c; cases a; cases b
        exact ⟨_, _, rfl, Ok.now (rel := RV S.toSg) o rp (.int _)⟩
  · exact o.elim
def mn2 (i j : Int) : Int := if j < i then j else i
def fMin3 (vs : List LV) (h : List LO) : R LV := match vs with
  | [.int i, .int j, .int k] => .ok (.int (mn2 (mn2 i j) k)) h
  | _ => .bad
theorem nuMin2_int (i j : Int) : nuMin2 (.int i) (.int j) = some (.int (mn2 i j)) := by
  unfold nuMin2 mn2
  show (some (decide (j < i))).map (fun c => if c = true then V.int j else V.int i) = _
  by_cases h : j < i
  · simp [h]
  · simp [h]
theorem nuMin3_int (i j k : Int) : nuMin3 (.int i) (.int j) (.int k) = some (.int (mn2 (mn2 i j) k)) := by
  unfold nuMin3
  rw [nuMin2_int]
  exact nuMin2_int _ _
theorem vc_min3 : VC S E (rNuC3 nuMin3) fMin3 := fun F ι h H xs vs Q rp z o => by
  unfold fMin3 at o
  split at o
  · cases z with
    | cons a b =>
      cases b with
      | cons b c =>
        cases c with
        | cons c d =>
          cases d; cases a; cases b; cases c
          exact ⟨_, _, _, _, rfl, nuMin3_int _ _ _, Ok.now (rel := RV S.toSg) o rp (.int _)⟩
  · exact o.elim
/-! ### list(range(n)) that changes later -/
def mLstRg (ma : ME) : ME := fun ρ h => (ma ρ h).bind fun v h1 => match v with
  | .int n => if 0 ≤ n ∧ n ≤ 50000 then .ok (.ref h1.length) (h1 ++ [.lst ((List.range n.toNat).map fun (i : Nat) => LV.int (i : Int))]) else .bad
  | _ => .bad
theorem rvs_rg {F : Addr → Prop} {ι : List Addr} {H : Hp} : ∀ xs : List Nat, RVs S.toSg F ι H (xs.map fun (i : Nat) => LV.int (i : Int)) (xs.map fun (i : Nat) => V.int ((0 : Int) + (i : Nat)))
  | [] => .nil
  | x :: xs => .cons (by
    show RV S.toSg F ι H (LV.int (x : Int)) (V.int ((0 : Int) + (x : Nat)))
    rw [Int.zero_add]
    exact .int _) (rvs_rg xs)
theorem se_lstRg (ha : SE S E ta ma) : SE S E (tLstRg (tRg1 ta)) (mLstRg ma) := fun F ι h H ρ σ Q rp rs o =>
  ha F ι h H ρ σ _ rp rs (o.seq fun F1 ι1 H1 h1 v x _ e1 rp1 z o1 => by
    cases z with
    | int n =>
      dsimp only at o1
      split at o1
      · rename_i c
        refine ⟨n, rfl, RgOk.of_le (by decide) (by omega) (by decide) c.1, fun q hq => ?_⟩
        have e : rgV 0 n = (List.range n.toNat).map fun (i : Nat) => V.int ((0 : Int) + (i : Nat)) := by
          unfold rgV
          rw [Int.sub_zero]
        rw [e]
        refine o1 _ _ _ _ (EX.newM hq) (rp1.newM hq (.lst upd_same (rvs_rg _))) (.ref ?_)
        rw [← rp1.len, List.getElem?_append_right (Nat.le_refl _)]
        simp
      · exact o1.elim
    | _ => exact o1.elim)
end
end Rm
namespace Rm
open PySem PySem.Spec PyProof.Rows L2 RZ PpSet
/-! ### for k, v in d.items() -/
theorem vals_ix : ∀ {xs : List V} {us : List Value} {i : Nat} {v : V}, Vals xs us → xs[i]? = some v → ∃ u, us[i]? = some u ∧ RelV v u
  | _, _, _, _, .nil, e => by simp at e
  | _, _, 0, _, .cons r _, e => by
    simp only [List.getElem?_cons_zero, Option.some.injEq] at e
    subst e
    exact ⟨_, rfl, r⟩
  | _, _, i + 1, _, .cons _ r, e => by
    simp only [List.getElem?_cons_succ] at e ⊢
    exact vals_ix r e
section
variable {X : Cx} {pins : List (Addr × Obj)} {σ : L2.St} {H : Hp} {s : Shared} {d : Addr} {o : Obj} {kas : List (NestedKey × Addr)} {xs : List V}
theorem dv_ent (I : Inv X pins σ H s) (hh : H d = some (.ext (dvF X.prog X.w d o kas xs))) (hl : kas.length = xs.length) : s.heap.get? d = some o ∧ o.ExactDict ∧ ∃ es ep, o.data = .dict es ep ∧ es.size = kas.length ∧ ∀ (i : Nat) (k : NestedKey × Addr) (v : V), kas[i]? = some k → xs[i]? = some v → ∃ en, es[i]? = some en ∧ en.key = .ref k.2 ∧ RelV v en.val := by
  obtain ⟨⟨ho, es, ep, us, hx, hdt, hv, he⟩, _⟩ := (show ObjOk X.prog X.w H s.heap d (.ext (dvF X.prog X.w d o kas xs)) from I.hok d _ hh)
  have he' : es.toList = (entL kas us).map (entryOfKey (tkN X.prog X.w)) := he
  have hl2 : kas.length = us.length := hl.trans hv.length
  refine ⟨ho, hx, es, ep, hdt, by rw [size_of_entries he', entL_len hl2], fun i k v hk hv2 => ?_⟩
  obtain ⟨u, hu, ru⟩ := vals_ix hv hv2
  exact ⟨_, by rw [entry_at he' i, entL_get, hk, hu]; rfl, rfl, ru⟩
def ItiN (P : Program) (w : World) (d : Addr) (o : Obj) (kas : List (NestedKey × Addr)) (xs : List V) : It :=
  ⟨fun i H => (H d = some (.ext (dvF P w d o kas xs)) ∧ kas.length = xs.length) ∧ i < kas.length, fun i H x H' => ∃ T k v, kas[i]? = some k ∧ xs[i]? = some v ∧ x = .ref T ∧ H T = none ∧ H' = upd H T (.tup [.ref k.2, v]), fun i H => (H d = some (.ext (dvF P w d o kas xs)) ∧ kas.length = xs.length) ∧ kas.length ≤ i⟩
theorem turn_itemsN {P : Program} {w : World} {K : PySem.W.Frag} {elts : List Expr} {kk : Nat} {tpos : Pos} {es0 : Array DictEntry} {ep0 : Nat} (it : Addr) (h0 : o.data = .dict es0 ep0) :
    Turn P w K (.Tuple elts kk tpos) (ItiN P w d o kas xs) [it] it (fun i h => ∃ ok ov, IsItemIter h it d i kas.length ep0 ok ov) where
  mem := by simp
  obj := fun i h st b hb => by
    have e : b = it := by simpa using hb
    subst e
    obtain ⟨ok, ov, e⟩ := st
    exact ⟨_, e, fun v z => nomatch z⟩
  keep := fun i h h' st k => let ⟨ok, ov, e⟩ := st; ⟨ok, ov, k it (by simp) _ e⟩
  item := by
    intro X hP hw hK hc i pins s σ H E I hf st hg
    subst hP hw hK
    obtain ⟨⟨hH, hl⟩, hi⟩ := hg
    obtain ⟨ho, hx, es, ep, hdt, hsz, hen⟩ := dv_ent I hH hl
    obtain ⟨e1, e2⟩ := dict_ep h0 hdt
    subst e1 e2
    have hi2 : i < xs.length := by rw [← hl]; exact hi
    obtain ⟨en, g1, g2, g3⟩ := hen i _ _ (List.getElem?_eq_getElem hi) (List.getElem?_eq_getElem hi2)
    obtain ⟨ok, ov, he⟩ := st
    rw [← hsz] at he
    have hlt : it < s.heap.objs.size := Heap.lt_size he
    have his : i < es.size := by rw [hsz]; exact hi
    have een : es[i] = en := by
      rw [Array.getElem?_eq_getElem his] at g1
      exact Option.some.inj g1
    refine PySem.wpAny_pyNext_items_item_raw he ⟨_, ho, hx, hdt⟩ his fun h' ho2 hT hz hk => ?_
    rw [een] at ho2 hT
    refine ⟨_, rfl, wpAny_letOwnedTupleGo_items (s := { s with heap := h' }) ho2 fun h'' he' sb => ?_⟩
    have hT2 : h''.get? s.heap.objs.size = some { cls := .type "tuple", data := .seq #[en.key, en.val] } := (sb.2 _ (Nat.ne_of_gt hlt)).trans hT
    have rk : RelV (.ref kas[i].2) en.key := by rw [g2]; rfl
    have new : ObjOk X.prog X.w (upd H s.heap.objs.size (.tup [.ref kas[i].2, xs[i]])) h'' s.heap.objs.size (.tup [.ref kas[i].2, xs[i]]) :=
      ⟨by show 2 ≤ sizeLine; decide, [en.key, en.val], .cons rk (.cons g3 .nil), ⟨_, hT2, rfl, _, rfl⟩⟩
    have I1 : Inv X pins σ (upd H s.heap.objs.size (.tup [.ref kas[i].2, xs[i]])) { s with heap := h'' } :=
      I.turnedNew (t' := s.toks) (ch := [it]) (fun b ob hb e => (sb.2 b (by simpa using hb)).trans (hk b ob (by simpa using hb) e)) hf (Nat.le_refl _) new
    refine ⟨.ref s.heap.objs.size, _, I1, rfl, ⟨_, _, _, List.getElem?_eq_getElem hi, List.getElem?_eq_getElem hi2, rfl, I.hok.fresh (Nat.le_refl _), rfl⟩, ⟨en.key, en.val, ?_⟩, fun b hb => ?_⟩
    · rw [← hsz]; exact he'
    · have e : b = it := by simpa using hb
      rw [e, upd_ne (Nat.ne_of_lt hlt)]
      exact (hf it (by simp)).1
  done := by
    intro X hP hw hK hc i pins s σ H E I hf st hg
    subst hP hw hK
    obtain ⟨⟨hH, hl⟩, hi⟩ := hg
    obtain ⟨f0, f1, f2, f3, f4, f5⟩ := hf it (by simp)
    obtain ⟨ho, hx, es, ep, hdt, hsz, hen⟩ := dv_ent I hH hl
    obtain ⟨e1, e2⟩ := dict_ep h0 hdt
    subst e1 e2
    obtain ⟨ok, ov, he⟩ := st
    rw [← hsz] at he
    exact PySem.wpAny_pyNext_items_end_raw (I.ok.hd hc) he ⟨_, ho, hx, hdt⟩ (by rw [hsz]; exact hi) fun h' eb => ⟨rfl, I.turned (t' := s.toks) (fun b ob hb e => eb b ob hb e) f0 f1 f3 f4 f5⟩
  self := fun A i s Q E st h => let ⟨_, _, e⟩ := st; PySem.W.kcp_self e h
end
section
variable {X : Cx} {e : Expr} {td : TE} {apos cpos : Pos}
def iItemsN (P : Program) (w : World) (td : TE) : TI := fun σ H R => td σ H fun x H1 => ∃ (d : Addr) (o : Obj) (kas : List (NestedKey × Addr)) (xs : List V), x = .ref d ∧ (d == sysModules) = false ∧ H1 d = some (.ext (dvF P w d o kas xs)) ∧ kas.length = xs.length ∧ R (ItiN P w d o kas xs) H1
theorem pi_itemsN {elts : List Expr} {kk : Nat} {tpos : Pos} (he : PE X e td) (hbase : attributeBase e "items" X.env (eval e X.env) = eval e X.env := by rfl) (hline : (apos.endLine == cpos.line) = true := by rfl) :
    PI X (.Tuple elts kk tpos) (.Call (.Attribute e "items" apos) [] [] cpos) (iItemsN X.prog X.w td) := by
  refine ⟨fun pins s σ H R I h => ?_⟩
  refine wpAny_Call_method (T := "dict") (id := "dict.items") hbase rfl hline F.plainAttrs_dict F.slot_dict_items F.type_dict_items (thn (he.run pins s σ H _ I h) fun u s1 ⟨x, H1, I1, rx, d, o, kas, xs, ex, low, hH, hl, q⟩ => ?_)
  subst ex
  obtain rfl : u = Value.ref d := rx
  obtain ⟨ho, hx, es, ep, hdt, hsz, hen⟩ := dv_ent I1 hH hl
  have raw : s1.heap.DictRaw d es ep := ⟨_, ho, hx, hdt⟩
  refine ⟨raw.typeIs, fun b eb => ?_, ?_⟩
  · cases eb
    exact ⟨_, ho, hx.2.1⟩
  have I2 : Inv X pins σ H1 { s1 with heap := s1.heap.push { cls := .type "dict_items", data := .fields #[.ref d] } } := I1.kept (t' := s1.toks) fun b ob q => Heap.get?_push_of_some _ q
  have fin : wpAny (model X.prog X.w) X.A (pyIter (.ref s1.heap.objs.size)) (PIE X pins σ (.Tuple elts kk tpos) R) X.xe { s1 with heap := s1.heap.push { cls := .type "dict_items", data := .fields #[.ref d] } } := by
    refine PySem.wpAny_pyIter_items_raw (d := d) ⟨_, Heap.get?_push_size _ rfl, rfl, rfl⟩ (raw.at fun o q => Heap.get?_push_of_some _ q) (pi_one (tk := s1.toks) I2 _ (turn_itemsN _ hdt) ⟨.none, .none, ?_⟩ q)
    rw [← hsz]
    exact Heap.get?_push_size _ rfl
  show wpAny _ _ (callWith cpos (.builtin "dict.items") [.ref d] [] []) _ X.xe s1
  exact method_meetsIn F.slot_dict_items F.entry_dict_items rfl (PySem.evalArgs_none ⟨rfl, raw.typeIs, F.args_dict_items_1 _, _, meets_dict_items_raw d low, ⟨_, _, raw⟩, fin⟩)
end
section
variable {S : Se} {E : XK} {ta : TE} {ma : ME}
def zipT (ks vs : List LV) : List LV := List.zipWith (fun a b => LV.tup [a, b]) ks vs
def mItems (ma : ME) : MI := fun ρ h => (ma ρ h).bind fun v h1 => match v with
  | .vd ks vs => .ok (.vals (zipT ks vs)) h1
  | _ => .bad
theorem si_items (ha : SE S E ta ma) : SI S E (iItemsN S.P S.w ta) (mItems ma) := fun F ι h H ρ σ Q rp rs o =>
  ha F ι h H ρ σ _ rp rs (o.seq fun F1 ι1 H1 h1 v x _ e1 rp1 z o1 => by
    cases z with
    | @vd a ks vs ob kas xs hH nF low ok hk hks hvs =>
      refine ⟨a, ob, kas, xs, rfl, low, hH, ok.2.1, Ok.now (rel := WalkAt S) o1 rp1 fun F' ι' h' H' i e r => ?_⟩
      have hH' : H' a = some (.ext (dvF S.P S.w a ob kas xs)) := e.keep a _ nF hH
      have hks' := hks.fwd e _ _
      have hvs' := hvs.fwd e _ _
      have hl := hks.length
      have hl2 := hvs.length
      rw [List.length_map] at hl
      show match some (zipT ks vs)[i]? with | some (some v) => _ | some none => _ | none => _
      unfold zipT
      rw [List.getElem?_zipWith]
      cases hx : ks[i]? with
      | none => exact ⟨⟨hH', ok.2.1⟩, by rw [← hl]; exact List.getElem?_eq_none_iff.mp hx⟩
      | some k =>
        have hi : i < kas.length := by rw [← hl]; exact (List.getElem?_eq_some_iff.mp hx).1
        cases hy : vs[i]? with
        | none =>
          have := List.getElem?_eq_none_iff.mp hy
          have := ok.2.1
          omega
        | some u =>
          obtain ⟨kv, g1, g2⟩ := hks'.at hx
          obtain ⟨uv, g3, g4⟩ := hvs'.at hy
          refine ⟨⟨⟨hH', ok.2.1⟩, hi⟩, fun y H'' hyy => ?_⟩
          obtain ⟨T, q, v2, q1, q2, rfl, hT, rfl⟩ := hyy
          rw [List.getElem?_map, q1] at g1
          cases g1
          rw [q2] at g3
          cases g3
          exact new_pair r hT g2 g4
    | _ => exact o1.elim)
end
end Rm
namespace Rm
open PySem PySem.Spec PyProof.Rows L2 RZ PpSet
/-! ### arguments joined -/
def tCat (t tk : TA) : TA := fun σ H Q => t σ H fun vs H1 => tk σ H1 fun zs H2 => Q (vs ++ zs) H2
def mCat (n : Nat) (ma mb : MA) : MA := fun ρ h => (ma ρ h).bind fun vs h1 => (mb ρ h1).bind fun zs h2 => if vs.length = n then .ok (vs ++ zs) h2 else .bad
/-- a written value, as an argument that is not written -/
def tK1 (x : V) : TA := fun _ H Q => Q [x] H
def mK1 (v : LV) : MA := fun _ h => .ok [v] h
/-! ### o.m(e, .., k = v) -/
def tMethN (C : Addr) (m : Str) (n j : Nat) (sp : Sp) (E : XK) (ta : TE) (t tk : TA) : TE := fun σ H Q => ta σ H fun x H1 => ∃ a dx fs, x = .ref a ∧ H1 a = some (.ins C dx fs) ∧ fs.lookup m = none ∧
  t σ H1 fun vs H2 => tk σ H2 fun zs H3 => vs.length = n ∧ zs.length = j ∧ sp (x :: (vs ++ zs)) H3 Q E
section
variable {X : Cx} {CX : CXT} {k n : Nat} {f C : Addr} {fd : FuncData} {ps ks : List Str} {sp : Sp} {E : XK} {m : Str} {pos apos : Pos} {o e : Expr} {es : List Expr} {kws : List Keyword} {ta : TE} {t tk : TA}
theorem pe_methN {pl : Sem Bool} (he : PE X o ta) (c : Cls X.K C) (hm : Meth X.K C m f) (F : FnOk X.prog X.w X.K X.mg X.base CX k f fd ps sp) (hr : Room k X.A) (hb : KBn X.K fd ps (n + 1) ks (fun us ws => us ++ ws) (fun vs zs => vs ++ zs)) (hx : Passes CX X E) (ha : PA X (e :: es) t) (hkw : PK X kws tk)
    (hall : (backToKw pos (keywordEach kws X.env)).all (·.1.isSome) = true := by rfl) (hks : (backToKw pos (keywordEach kws X.env)).filterMap (·.1) = ks := by rfl)
    (hst : starEach (e :: es) X.env = (false, eval e X.env) :: starEach es X.env := by rfl) (hpl : ((backTo pos (starEach (e :: es) X.env)).any (·.1) || (backToKw pos (keywordEach kws X.env)).any (·.1.isNone)) = false := by rfl)
    (ht : eval (.Call (.Attribute o m apos) (e :: es) kws pos) X.env = (do
      let ov ← eval o X.env
      standAt apos.atName
      let (f, first) ← holding [ov] (getMethod ov m pl)
      callWith pos f first (backTo pos (starEach (e :: es) X.env)) (backToKw pos (keywordEach kws X.env))) := by rfl) :
    PE X (.Call (.Attribute o m apos) (e :: es) kws pos) (tMethN C m n ks.length sp E ta t tk) := by
  refine ⟨fun pins s σ H Q I h => ?_⟩
  refine PySem.W.methodCall_KW (pl := pl) (thn (he.run pins s σ H _ I h) fun u s1 ⟨x, H1, I1, rx, a, dx, fs, ex, ea, l, q⟩ => ?_) ht
  subst ex
  obtain rfl : u = Value.ref a := rx
  refine getmeth_ok I1 ea c hm l ?_
  refine PySem.W.callWith_KW (first := [.ref a]) (h₀ := X.base) I.ok.mod.kin hm.kp hall (thn (ha.run pos pins s1 σ H1 _ I1 q) fun us s2 ⟨vs, H2, I2, r, q2⟩ => ?_) hpl hst
  refine thn (hkw.run pos pins s2 σ H2 _ I2 q2) fun ws s3 ⟨zs, H3, I3, rz, l1, l2, q3⟩ => ⟨I3.kIn, ?_⟩
  rw [hks]
  exact run_fnN (us := .ref a :: us) (vs := .ref a :: vs) F hr hb hx I3 (.cons rfl r) rz (by rw [List.length_cons, l1]) l2 q3
end
/-! ### what stands of such a def: its first parameters, then one that is named, False if it lacks -/
structure CalK (S : Se) (mg : Str → Option Value) (base : Heap) (x : Str) (l : Nat) (ps : List Str) (n : Nat) (m : MF) (nm : Str) (f : Addr) (fd : FuncData) : Prop where
  ok : FnOk S.P S.w S.K mg base CX0 l f fd ps (spM S (n + 1) m)
  kp : PySem.W.keepIn S.K (.ref f) = true
  d : ∃ ds, Vals [V.bl false] ds ∧ Binds S.K fd ps ds
  kb : KBn S.K fd ps n [nm] (fun us ws => us ++ ws) (fun vs zs => vs ++ zs)
  g : mg x = some (.ref f)
structure MetK (S : Se) (mg : Str → Option Value) (base : Heap) (C : Nat) (x : Str) (l : Nat) (ps : List Str) (n : Nat) (m : MF) (nm : Str) (f : Addr) (fd : FuncData) : Prop where
  ok : FnOk S.P S.w S.K mg base CX0 l f fd ps (spM S (n + 1) m)
  cl : Cls S.K (S.ct C)
  mt : Meth S.K (S.ct C) x f
  d : ∃ ds, Vals [V.bl false] ds ∧ Binds S.K fd ps ds
  kb : KBn S.K fd ps n [nm] (fun us ws => us ++ ws) (fun vs zs => vs ++ zs)
  nm : x ∉ S.nm C
section
variable {S : Se} {E E' : XK} {t tk : TA} {mA mB : MA} {ta : TE} {ma : ME} {sp : Sp} {n j : Nat} {m : ME}
def tCatN (n j : Nat) (t tk : TA) : TA := fun σ H Q => t σ H fun vs H1 => tk σ H1 fun zs H2 => vs.length = n ∧ zs.length = j ∧ Q (vs ++ zs) H2
def mCatN (n j : Nat) (ma mb : MA) : MA := fun ρ h => (ma ρ h).bind fun vs h1 => (mb ρ h1).bind fun zs h2 => if vs.length = n ∧ zs.length = j then .ok (vs ++ zs) h2 else .bad
theorem sa_catN (ha : SA S E t mA) (hb : SA S E tk mB) : SA S E (tCatN n j t tk) (mCatN n j mA mB) := fun F ι h H ρ σ Q rp rs o =>
  ha F ι h H ρ σ _ rp rs (o.seq fun F1 ι1 H1 h1 vs xs _ e1 rp1 z o1 => hb F1 ι1 h1 H1 ρ σ _ rp1 (rs.ext rp e1) (o1.seq fun F2 ι2 H2 h2 ws ys _ e2 rp2 zz o2 => by
    split at o2
    · rename_i c
      refine ⟨by rw [← z.length]; exact c.1, by rw [← zz.length]; exact c.2, ?_⟩
      exact Ok.now (v := vs ++ ws) o2 rp2 (RVs.append (z.ext rp1 e2) zz)
    · exact o2.elim))
theorem sa_cat (ha : SA S E t mA) (hb : SA S E tk mB) : SA S E (tCat t tk) (mCat n mA mB) := fun F ι h H ρ σ Q rp rs o =>
  ha F ι h H ρ σ _ rp rs (o.seq fun F1 ι1 H1 h1 vs xs _ e1 rp1 z o1 => hb F1 ι1 h1 H1 ρ σ _ rp1 (rs.ext rp e1) (o1.seq fun F2 ι2 H2 h2 ws ys _ e2 rp2 zz o2 => by
    split at o2
    · exact Ok.now (v := vs ++ ws) o2 rp2 (RVs.append (z.ext rp1 e2) zz)
    · exact o2.elim))
theorem sa_k1f : SA S E (tK1 (.bl false)) (mK1 (.bl false)) := fun F ι h H ρ σ Q rp rs o => Ok.now (v := [LV.bl false]) o rp (.cons (.bl false) .nil)
theorem se_kw (h : SE S E (tCall sp [] E' (tCatN n j t tk)) m) : SE S E (tCallN n j sp (fun vs zs => vs ++ zs) E' t tk) m := fun F ι hh H ρ σ Q rp rs o => by
  have q := h F ι hh H ρ σ Q rp rs o
  unfold tCall tCatN at q
  simp only [List.append_nil] at q
  exact q
theorem se_dfl {x : V} (h : SE S E (tCall sp [] E' (tCat t (tK1 x))) m) : SE S E (tCall sp [x] E' t) m := fun F ι hh H ρ σ Q rp rs o => by
  have q := h F ι hh H ρ σ Q rp rs o
  unfold tCall tCat tK1 at q
  simp only [List.append_nil] at q
  exact q
theorem se_mkw {C : Addr} {nm : Str} (h : SE S E (tMeth C nm sp [] E' ta (tCatN n j t tk)) m) : SE S E (tMethN C nm n j sp E' ta t tk) m := fun F ι hh H ρ σ Q rp rs o => by
  have q := h F ι hh H ρ σ Q rp rs o
  unfold tMeth tCatN at q
  simp only [List.append_nil] at q
  exact q
theorem se_mdfl {C : Addr} {nm : Str} {x : V} (h : SE S E (tMeth C nm sp [] E' ta (tCat t (tK1 x))) m) : SE S E (tMeth C nm sp [x] E' ta t) m := fun F ι hh H ρ σ Q rp rs o => by
  have q := h F ι hh H ρ σ Q rp rs o
  unfold tMeth tCat tK1 at q
  simp only [List.append_nil] at q
  exact q
end
end Rm
namespace Rm
open PySem PySem.Spec PyProof.Rows L2 RZ PpSet
/-! ### a dict made from the keys of a dict that changed before: ours, and it may change -/
def mIsoM (i : Nat) (me : ME) : ME := fun ρ h => match ρ[i]? with
  | some (some (.ref n)) => match h[n]? with
    | some (.dic ks vs) => if LV.pures ks = true ∧ LV.pures vs = true then (match me (isoR i ks vs ρ) [] with
      | .ok (.ref j) h' => match h'[j]? with
        | some (.dic ks' vs') => if flTs ks' = true ∧ flTs vs' = true then .ok (.ref h.length) (h ++ [.dic ks' vs']) else .bad
        | _ => .bad
      | _ => .bad) else .bad
    | _ => .bad
  | _ => me ρ h
theorem rep_one {S : Se} {F : Addr → Prop} {ι : List Addr} {H H' : Hp} {h : List LO} {p : Addr} {q : LO} (r : Rep S.toSg F ι h H) (hp : H p = none) (e : EX S.toSg F ι H (fun a => F a ∨ a = p) (ι ++ [p]) H') (hk : ∀ a o, H a = some o → H' a = some o) (z : RO S.toSg (fun a => F a ∨ a = p) (ι ++ [p]) H' q p) : Rep S.toSg (fun a => F a ∨ a = p) (ι ++ [p]) (h ++ [q]) H' := by
  have nm : p ∉ ι := fun z => r.dom p (r.inF p z) hp
  refine ⟨by rw [List.length_append, List.length_append, r.len]; rfl, ?_, fun a m => ?_, fun a z2 q2 => ?_, fun i o a q1 q2 => ?_⟩
  · rw [List.nodup_append]
    refine ⟨r.nd, by simp, fun a ha b hb => ?_⟩
    rw [List.mem_singleton.mp hb]
    rintro rfl
    exact nm ha
  · rcases List.mem_append.mp m with m | m
    · exact .inl (r.inF a m)
    · exact .inr (List.mem_singleton.mp m)
  · rcases z2 with z2 | rfl
    · exact r.dom a z2 (e.dom a q2)
    · cases z with
      | lst g _ => rw [q2] at g; cases g
      | dic g _ _ _ _ _ => rw [q2] at g; cases g
      | ins g _ _ _ => rw [q2] at g; cases g
  · by_cases hi : i < h.length
    · rw [List.getElem?_append_left hi] at q1
      rw [List.getElem?_append_left (by rw [r.len]; exact hi)] at q2
      exact (r.obj i o a q1 q2).fwd (e.fwd r) fun u q => hk a u q
    · rw [List.getElem?_append_right (by omega)] at q1
      rw [List.getElem?_append_right (by rw [r.len]; omega)] at q2
      have hz : i - h.length = 0 := by
        have := (List.getElem?_eq_some_iff.mp q1).1
        simp only [List.length_singleton] at this
        omega
      rw [hz] at q1
      rw [r.len, hz] at q2
      have q1 : q = o := by simpa using q1
      have q2 : p = a := by simpa using q2
      subst q1
      subst q2
      exact z
theorem se_isoM {S : Se} {E : XK} {te : TE} {me : ME} (i : Nat) (ha : SE S E te me) : SE S E te (mIsoM i me) := fun F ι h H ρ σ Q rp rs o => by
  unfold mIsoM at o
  split at o
  · rename_i n hn
    split at o
    · rename_i ks vs hd
      split at o
      · rename_i hp
        obtain ⟨x, ex, rx⟩ := rs.get i _ hn
        cases rx with
        | @ref d _ qd =>
          have g := rp.at hd qd
          cases g with
          | dic g1 low ok g2 g3 g4 =>
            obtain ⟨F0, hF0⟩ : ∃ F0 : Addr → Prop, F0 = fun a => F a ∧ a ≠ d := ⟨_, rfl⟩
            have sub : ∀ a, F0 a → F a := fun a q => by rw [hF0] at q; exact q.1
            have nd : ¬ F0 d := fun q => by rw [hF0] at q; exact q.2 rfl
            have rn : Rep S.toSg F0 [] [] H := ⟨rfl, .nil, (fun _ m => nomatch m), fun a q => rp.dom a (sub a q), fun n o a q => by simp at q⟩
            have rv : RV S.toSg F0 [] H (.vd ks vs) (.ref d) := .vd g1 nd low ok g2 (RVs.unF sub _ _ hp.1 g3) (RVs.unF sub _ _ hp.2 g4)
            have rs' : RS S F0 [] H (isoR i ks vs ρ) σ := by
              refine ⟨by unfold isoR; rw [List.length_set, List.length_map]; exact rs.len, fun j w q => ?_⟩
              unfold isoR at q
              by_cases c : i = j
              · subst c
                have hl := (List.getElem?_eq_some_iff.mp hn).1
                rw [List.getElem?_set_self (by rw [List.length_map]; exact hl)] at q
                cases q
                exact ⟨_, ex, rv⟩
              · rw [List.getElem?_set_ne c, List.getElem?_map] at q
                cases e : ρ[j]? with
                | none => rw [e] at q; cases q
                | some o =>
                  rw [e] at q
                  cases o with
                  | none => cases q
                  | some u =>
                    have q : some (if u.pure = true then some u else none) = some (some w) := q
                    split at q
                    · rename_i pu
                      cases q
                      obtain ⟨y, ey, ry⟩ := rs.get j _ e
                      exact ⟨y, ey, RV.unF sub _ _ pu ry⟩
                    · cases q
            refine ha F0 [] [] H _ σ Q rn rs' ?_
            cases r : me (isoR i ks vs ρ) [] with
            | ok v h' =>
              rw [r] at o
              cases v with
              | ref j =>
                dsimp only at o
                split at o
                · rename_i ks' vs' hx
                  split at o
                  · rename_i fl
                    intro F3 ι3 H3 x3 e3 rp3 z3
                    obtain ⟨exo, rpb⟩ := iso_any rp e3
                    cases z3 with
                    | @ref p _ qp =>
                      have g := rp3.at hx qp
                      cases g with
                      | dic k1 k2 k3 k4 k5 k6 =>
                        have hpn : H p = none := by
                          obtain ⟨more, e4, n4⟩ := e3.grow
                          refine n4 p ?_
                          have : p ∈ ι3 := List.mem_of_getElem? qp
                          rw [e4] at this
                          simpa using this
                        have ex' : EX S.toSg F ι H (fun a => F a ∨ a = p) (ι ++ [p]) H3 := ⟨exo.tup, exo.keep, ⟨[p], rfl, fun a m => by rw [List.mem_singleton.mp m]; exact hpn⟩, fun a z => .inl z, fun a z n => by
                          rcases z with z | z
                          · exact absurd z n
                          · rw [z]; exact hpn, exo.dom⟩
                        refine o _ _ H3 _ ex' (rep_one rp hpn ex' (fun a o q => e3.keep a o (fun m => nomatch m) q) (.dic k1 k2 k3 k4 (flTs_rv _ _ fl.1 k5) (flTs_rv _ _ fl.2 k6))) (.ref ?_)
                        rw [← rp.len, List.getElem?_append_right (Nat.le_refl _)]
                        simp
                  · exact o.elim
                · exact o.elim
              | _ => exact o.elim
            | er c h' => rw [r] at o; exact o.elim
            | bad => rw [r] at o; exact o.elim
      · exact o.elim
    · exact o.elim
  · exact ha F ι h H ρ σ Q rp rs o
end Rm
namespace Rm
open PySem PySem.Spec PyProof.Rows L2 RZ PpSet
/-! ### {text: value for ..}[text] -/
def dcS (it : Itr) (g : MG) (mt : MT) (mk mv : ME) (fin : List (List Nat) → List LV → List LO → R LV) (ρ : Rho) : Nat → Nat → List LO → List (List Nat) → List LV → R LV
  | 0, _, _, _, _ => .bad
  | n + 1, i, h, ks, vs => match it.at i h with
    | some (some x) => (g x ρ h).safe.bind fun ρ1 h1 => (mt ρ1 h1).safe.bind fun b h2 => if b = true then (mk ρ1 h2).safe.bind fun k h3 => (mv ρ1 h3).safe.bind fun v h4 => match k with
        | .str t => dcS it g mt mk mv fin ρ n (i + 1) h4 (ks ++ [t]) (vs ++ [v])
        | _ => .bad
      else dcS it g mt mk mv fin ρ n (i + 1) h2 ks vs
    | some none => fin ks vs h
    | none => .bad
def mDcIx (mi : MI) (mg : MG) (mt : MT) (mk mv : ME) (vs : List Nat) (me : ME) : ME := fun ρ h => (mi ρ h).bind fun it h1 => dcS it mg mt mk mv (fun ks ws h2 => (me ρ h2).bind fun i h3 => match i with
  | .str t => match lkS ks ws t with
    | some v => .ok v h3
    | none => .bad
  | _ => .bad) (wipeR ρ vs) 50000 0 h1 [] []
structure Ds (S : Se) (F1 : Addr → Prop) (ι1 : List Addr) (H1 : Hp) (D : Addr) (F : Addr → Prop) (ι : List Addr) (h : List LO) (H : Hp) (ks : List (List Nat)) (vs : List LV) (i : Nat) : Prop where
  ex : EX S.toSg F1 ι1 H1 F ι H
  rp : Rep S.toSg F ι h H
  FD : F D
  nD : D ∉ ι
  at' : ∃ (ss : List Str) (xs : List V), (ss.map fun k => k.cps.toList) = ks ∧ ss.length = xs.length ∧ H D = some (.dK (mergeK [] (zwK ss xs))) ∧ RVs S.toSg F ι H vs xs
  le : ks.length ≤ i
theorem merge_len : ∀ (l : List (Key × V)) (acc : List (Key × V)), (mergeK acc l).length ≤ acc.length + l.length
  | [], acc => Nat.le_refl _
  | kv :: l, acc => by
    have h := merge_len l (putK acc kv.1 kv.2)
    have e : (putK acc kv.1 kv.2).length ≤ acc.length + 1 := by
      unfold putK
      split
      · rw [List.length_map]; omega
      · rw [List.length_append]; exact Nat.le_refl _
    show (mergeK (putK acc kv.1 kv.2) l).length ≤ _
    simp only [List.length_cons]
    omega
theorem merge_snoc {ss : List Str} {xs : List V} (e : ss.length = xs.length) (s : Str) (x : V) : mergeK [] (zwK (ss ++ [s]) (xs ++ [x])) = putK (mergeK [] (zwK ss xs)) (.inr s) x := by
  unfold zwK
  rw [List.zipWith_append e]
  show mergeK [] (_ ++ [((.inr s : Key), x)]) = _
  unfold mergeK
  rw [List.foldl_append]
  rfl
section
variable {S : Se}
theorem Ds.step {F1 F F2 : Addr → Prop} {ι1 ι ι2 : List Addr} {H1 H H2 : Hp} {D : Addr} {h h2 : List LO} {ks : List (List Nat)} {vs : List LV} {i : Nat} (L : Ds S F1 ι1 H1 D F ι h H ks vs i) (e : EX S.toSg F ι H F2 ι2 H2) (r : Rep S.toSg F2 ι2 h2 H2) : Ds S F1 ι1 H1 D F2 ι2 h2 H2 ks vs i := by
  obtain ⟨ss, xs, a, b, q, z⟩ := L.at'
  obtain ⟨s1, s2⟩ := stays e L.nD q
  exact ⟨L.ex.trans e, r, e.more _ L.FD, s2, ⟨ss, xs, a, b, s1, z.ext L.rp e⟩, L.le⟩
theorem Ds.put {F1 F : Addr → Prop} {ι1 ι : List Addr} {H1 H : Hp} {D : Addr} {h : List LO} {ks : List (List Nat)} {vs : List LV} {i : Nat} {t : List Nat} {v : LV} {x : V} {ss : List Str} {xs : List V} (L : Ds S F1 ι1 H1 D F ι h H ks vs i) (hD : H1 D = none)
    (a : (ss.map fun k => k.cps.toList) = ks) (b : ss.length = xs.length) (q : H D = some (.dK (mergeK [] (zwK ss xs)))) (z : RVs S.toSg F ι H vs xs) (zv : RV S.toSg F ι H v x) : Ds S F1 ι1 H1 D F ι h (upd H D (.dK (putK (mergeK [] (zwK ss xs)) (.inr ⟨t.toArray⟩) x))) (ks ++ [t]) (vs ++ [v]) (i + 1) := by
  obtain ⟨w, hw⟩ : ∃ w, w = HO.dK (putK (mergeK [] (zwK ss xs)) (.inr ⟨t.toArray⟩) x) := ⟨_, rfl⟩
  have hw2 : w = HO.dK (mergeK [] (zwK (ss ++ [⟨t.toArray⟩]) (xs ++ [x]))) := by rw [hw, merge_snoc b]
  rw [← hw]
  have keepT : ∀ a us, SqT S.K H a us → SqT S.K (upd H D w) a us := fun a us z => by
    rcases z with (z | ⟨w, z⟩) | z
    · exact .inl (.inl (by rw [upd_ne (fun c => by subst c; rw [q] at z; cases z)]; exact z))
    · exact .inl (.inr ⟨w, by rw [upd_ne (fun c => by subst c; rw [q] at z; cases z)]; exact z⟩)
    · exact .inr z
  have fw : Fwd S.toSg F ι H F ι (upd H D w) := ⟨keepT, fun a o n z => by rw [upd_ne (fun c => n (by rw [c]; exact L.FD))]; exact z, fun a o us z => by rw [upd_ne (fun c => by subst c; rw [q] at z; cases z)]; exact z, fun _ _ n _ => n, fun _ _ z => z⟩
  refine ⟨⟨fun a us z => keepT a us (L.ex.tup a us z), fun a o n z => by rw [upd_ne (ne_of_none z hD)]; exact L.ex.keep a o n z, L.ex.grow, L.ex.more, L.ex.fresh, fun a z => ?_⟩, ⟨L.rp.len, L.rp.nd, L.rp.inF, fun a z e => ?_, fun i o a q1 q2 => (L.rp.obj i o a q1 q2).fwd fw fun u e => ?_⟩, L.FD, L.nD, ⟨ss ++ [⟨t.toArray⟩], xs ++ [x], ?_, by rw [List.length_append, List.length_append, b]; rfl, by rw [upd_same, hw2], (z.fwd fw _ _).append (.cons (zv.fwd fw _ _) .nil)⟩, by rw [List.length_append]; exact Nat.succ_le_succ L.le⟩
  · by_cases e : a = D
    · subst e; exact hD
    · rw [upd_ne e] at z; exact L.ex.dom a z
  · by_cases c : a = D
    · subst c; rw [upd_same, hw] at e; cases e
    · rw [upd_ne c] at e; exact L.rp.dom a z e
  · rw [upd_ne (fun c => L.nD (by rw [← c]; exact List.mem_of_getElem? q2))]; exact e
  · rw [List.map_append, a]
    simp
end
section
variable {S : Se} {E : XK} {te tk tv ti : TE} {me mk mv : ME} {tt : TT} {mt : MT} {g : TG} {mg : MG} {wi : TI} {mi : MI}
theorem se_dcIx {vs : List Nat} (hi : SI S E wi mi) (hg : SG S E0 g mg) (gw : GW g vs) (ht : ST S E0 tt mt) (hk : SE S E0 tk mk) (hv : SE S E0 tv mv) (hx : SE S E ti me) : SE S E (tDGet (tDc wi g tt tk tv vs) ti) (mDcIx mi mg mt mk mv vs me) := fun F ι h H ρ σ Q rp rs o => by
  refine hi F ι h H ρ σ _ rp rs (Ok.seq (rel := WalkAt S) o fun F1 ι1 H1 h1 it J _ e1 rp1 wk o1 => ?_)
  have rs1 := (rs.ext rp e1).wipe vs
  obtain ⟨fin, hfin⟩ : ∃ fin : List (List Nat) → List LV → List LO → R LV, fin = fun ks ws h2 => (me ρ h2).bind fun i h3 => match i with
    | .str t => match lkS ks ws t with
      | some v => .ok v h3
      | none => .bad
    | _ => .bad := ⟨_, rfl⟩
  rw [← hfin] at o1
  intro D hD
  obtain ⟨ex0, rp0⟩ := apart (S := S) (u := .dK []) rp1 hD
  refine ⟨fun i k H => ∃ F ι h ks vals, Ds S F1 ι1 H1 D F ι h H ks vals i ∧ i + k = 50000 ∧ Ok (RV S.toSg) S E F1 ι1 H1 (dcS it mg mt mk mv fin (wipeR ρ vs) k i h ks vals) Q, ⟨50000, _, ι1, h1, [], [], ⟨ex0, rp0, .inr rfl, fun m => rp1.dom D (rp1.inF D m) hD, ⟨[], [], rfl, rfl, upd_same, .nil⟩, Nat.le_refl _⟩, rfl, o1⟩, ?_⟩
  rintro i k H2 ⟨F2, ι2, h2, ks, vals, L, hkk, o2⟩
  cases k with
  | zero => exact o2.elim
  | succ k =>
    have w := wk F2 ι2 h2 H2 i (L.ex.fwd rp1) L.rp
    simp only [dcS] at o2
    split at o2
    · rename_i x hx
      rw [hx] at w
      refine .inr ⟨w.1, fun H' => ∃ F ι h ks vals, Ds S F1 ι1 H1 D F ι h H' ks vals (i + 1) ∧ (i + 1) + k = 50000 ∧ Ok (RV S.toSg) S E F1 ι1 H1 (dcS it mg mt mk mv fin (wipeR ρ vs) k (i + 1) h ks vals) Q, fun H' w => ⟨k, Nat.lt_succ_self k, w⟩, fun y H' hy => ?_⟩
      obtain ⟨e3, rp3, z3⟩ := w.2 y H' hy
      have L3 := L.step e3 rp3
      have gg := gw y (wipe σ vs) H' (fun σ2 H2 => tt σ2 H2 fun b H3 => if b = true then tk σ2 H3 fun y H4 => tv σ2 H4 fun z H5 => ∃ kvs k', y = kV k' ∧ H5 D = some (.dK kvs) ∧ kvs.length < sizeLine ∧ (fun H' => ∃ F ι h ks vals, Ds S F1 ι1 H1 D F ι h H' ks vals (i + 1) ∧ (i + 1) + k = 50000 ∧ Ok (RV S.toSg) S E F1 ι1 H1 (dcS it mg mt mk mv fin (wipeR ρ vs) k (i + 1) h ks vals) Q) (upd H5 D (.dK (putK kvs k' z)))
        else (∃ F ι h ks vals, Ds S F1 ι1 H1 D F ι h H3 ks vals (i + 1) ∧ (i + 1) + k = 50000 ∧ Ok (RV S.toSg) S E F1 ι1 H1 (dcS it mg mt mk mv fin (wipeR ρ vs) k (i + 1) h ks vals) Q))
      rw [wipe_wipe] at gg
      refine gg ?_
      have rs3 := ((rs1.ext rp1 L.ex).ext L.rp e3)
      refine hg F2 ι2 h2 H' (wipeR ρ vs) (wipe σ vs) x y _ rp3 rs3 z3 (Ok.seqB (rel := RS S) o2 fun F4 ι4 H4 h4 ρ4 σ4 _ e4 rp4 rs4 o4 => ?_)
      have L4 := L3.step e4 rp4
      refine ht F4 ι4 h4 H4 ρ4 σ4 _ rp4 rs4 (Ok.seqB (rel := eqB) o4 fun F5 ι5 H5 h5 b b' _ e5 rp5 zb o5 => ?_)
      cases zb
      have L5 := L4.step e5 rp5
      have rs5 := rs4.ext rp4 e5
      cases b with
      | false => exact ⟨F5, ι5, h5, ks, vals, ⟨L5.ex, L5.rp, L5.FD, L5.nD, L5.at', Nat.le_succ_of_le L5.le⟩, by omega, o5⟩
      | true =>
        refine hk F5 ι5 h5 H5 ρ4 σ4 _ rp5 rs5 (Ok.seqB (rel := RV S.toSg) o5 fun F6 ι6 H6 h6 kl kv _ e6 rp6 zk o6 => ?_)
        have L6 := L5.step e6 rp6
        refine hv F6 ι6 h6 H6 ρ4 σ4 _ rp6 (rs5.ext rp5 e6) (Ok.seqB (rel := RV S.toSg) o6 fun F7 ι7 H7 h7 vl vv _ e7 rp7 zv o7 => ?_)
        have L7 := L6.step e7 rp7
        obtain ⟨ss, xs, a, bb, q, z⟩ := L7.at'
        split at o7
        · rename_i t hmk
          cases zk
          refine ⟨_, .inr ⟨t.toArray⟩, rfl, q, ?_, F7, ι7, h7, ks ++ [t], vals ++ [vl], L7.put hD a bb q z zv, by omega, o7⟩
          have m := merge_len (zwK ss xs) []
          have l1 : (zwK ss xs).length = ss.length := by
            unfold zwK
            rw [List.length_zipWith, ← bb, Nat.min_self]
          have l2 : ss.length = ks.length := by rw [← a, List.length_map]
          have l3 := L7.le
          have : sizeLine = 16777216 := sizeLine_eq
          simp only [List.length_nil] at m
          omega
        · exact o7.elim
    · rename_i hx2
      rw [hx2] at w
      refine .inl ⟨w, ?_⟩
      obtain ⟨ss, xs, a, bb, q, z⟩ := L.at'
      rw [hfin] at o2
      refine hx F2 ι2 h2 H2 ρ σ _ L.rp ((rs.ext rp e1).ext rp1 L.ex) (Ok.seq (rel := RV S.toSg) (o2.shift L.ex) fun F3 ι3 H3 h3 i2 y _ e3 rp3 zi o3 => ?_)
      split at o3
      · rename_i t _
        cases zi
        split at o3
        · rename_i v e
          subst a
          obtain ⟨x, zz, qq⟩ := lk_some (s := ⟨t.toArray⟩) (z.ext L.rp e3) (by simpa using e)
          refine ⟨D, x, rfl, ?_, Ok.now (rel := RV S.toSg) o3 rp3 zz⟩
          rw [← qq []]
          exact DGet.k (k := .inr ⟨t.toArray⟩) (e3.keep D _ L.nD q)
        · exact o3.elim
      · exact o3.elim
    · exact o2.elim
end
end Rm
namespace Rm
open PySem PySem.Spec PyProof.Rows L2 RZ PpSet
/-! ### {k: v, l: u} -/
def tDisp2 (P : Program) (w : World) (K : PySem.W.Frag) (tk tv tk2 tv2 : TE) : TE := fun σ H Q => ∀ p o, H p = none → (p == sysModules) = false → tk σ (upd H p (.ext (dvF P w p o [] []))) fun x H1 => tv σ H1 fun v H2 => tk2 σ H2 fun x2 H3 => tv2 σ H3 fun v2 H4 =>
  ∃ (q q2 : Addr) (k k2 : NestedKey) (z z2 : V), [(x, v), (x2, v2)] = [(V.ref q, z), (V.ref q2, z2)] ∧ H4 p = some (.ext (dvF P w p o [] [])) ∧ Nk K H4 (.ref q) k ∧ k.depth ≤ 8 ∧ Nk K H4 (.ref q2) k2 ∧ k2.depth ≤ 8 ∧ k ≠ k2 ∧
  ∀ o', Q (.ref p) (upd H4 p (.ext (dvF P w p o' [(k, q), (k2, q2)] [z, z2])))
section
variable {X : Cx}
theorem pe_disp2 {e f e2 f2 : Expr} {pos : Pos} {tk tv tk2 tv2 : TE} (hu : X.A.units + 9 < cLine) (he : PE X e tk) (hf : PE X f tv) (he2 : PE X e2 tk2) (hf2 : PE X f2 tv2) : PE X (.Dict [some e, some e2] [f, f2] pos) (tDisp2 X.prog X.w X.K tk tv tk2 tv2) := by
  constructor
  intro pins s σ H Q I h
  have I1 := I.laid (a := s.heap.objs.size) (h' := s.heap.push { cls := .type "dict", data := .dict #[] }) (t' := s.toks) (fun _ _ q => Heap.get?_push_of_some _ q) (Nat.le_refl _) (dvF_obj (P := X.prog) (w := X.w) dvF_new)
  rw [arm_eval_Dict, zip_pairTrees [some e, some e2] [f, f2] X.env pos rfl rfl, dictDisplay_pairs (pairTrees [some e, some e2] [f, f2] X.env pos) (by intro z; cases z) (show (2 : Nat) < 17 from by decide)]
  refine wpAny_bind (wpAny_standAt (wpAny_bind (wpAny_subDictH (knd := tkN X.prog X.w) (Q := fun d s' => wpAny (model X.prog X.w) X.A (pure (Value.ref d)) (EP X pins σ Q) X.xe s') (show X.A.units + 8 < cLine from by omega) (show (2 : Nat) ≤ 15 from by decide) ?_)))
  have run := (pps_cons (pos := pos) he hf (pps_cons (pos := pos) he2 hf2 pps_nil)).run pins _ σ _ (fun ps H2 => ∃ q q2 k k2 v v2, ps = [(.ref q, v), (.ref q2, v2)] ∧ H2 s.heap.objs.size = some (.ext (dvF X.prog X.w s.heap.objs.size { cls := .type "dict", data := .dict #[] } [] [])) ∧ Nk X.K H2 (.ref q) k ∧ k.depth ≤ 8 ∧ Nk X.K H2 (.ref q2) k2 ∧ k2.depth ≤ 8 ∧ k ≠ k2 ∧
    ∀ o', Q (.ref s.heap.objs.size) (upd H2 s.heap.objs.size (.ext (dvF X.prog X.w s.heap.objs.size o' [(k, q), (k2, q2)] [v, v2])))) I1 ?_
  · refine thn run ?_
    rintro vs s2 ⟨ps, H2, I2, rel, q, q2, k, k2, v, v2, rfl, g, hq, hd, hq2, hd2, hne, hQ⟩
    cases rel with
    | cons r t =>
      cases t with
      | cons r' t =>
        cases t
        obtain ⟨r1, r2⟩ := r
        obtain ⟨r3, r4⟩ := r'
        have D : DN X.prog X.w X.K H2 s.heap.objs.size { cls := .type "dict", data := .dict #[] } [] [] := ⟨g, low_newN I, ⟨List.nodup_nil, rfl, Nat.zero_le _, fun _ hx => nomatch hx⟩, fun x hx => nomatch hx⟩
        obtain ⟨_, es, ep, us, _, _, hv, _, _, dd⟩ := D.dict I2
        cases hv
        refine ⟨[(k, q, _), (k2, q2, _)], ⟨r1, rfl, key_is I2 hq hd, r3, rfl, key_is I2 hq2 hd2, trivial⟩, dd, fun h' tk hd' hs => wpAny_pure ?_⟩
        have mu : Mut (H2 s.heap.objs.size) := by rw [g]; exact True.intro
        have es2 : ∀ u1 u2 : Value, storedAllH [] [(k, q, u1), (k2, q2, u2)] = [(k, q, u1), (k2, q2, u2)] := fun u1 u2 => by
          show storedH (storedH [] k q u1) k2 q2 u2 = _
          rw [storedH_new (xs := []) (k := k) rfl]
          rw [storedH_new]
          · rfl
          · simp [atKey, hne]
        rw [es2] at hd'
        obtain ⟨o', es', ep', ho', hx', hdt', he', _, _⟩ := hd'
        have f : dvF X.prog X.w s.heap.objs.size o' [(k, q), (k2, q2)] [v, v2] h' := ⟨ho', es', ep', _, hx', hdt', .cons r2 (.cons r4 .nil), he'⟩
        exact ⟨.ref s.heap.objs.size, _, I2.write (x := s.heap.objs.size) (e := s.heap.objs.size) mu (.inl rfl) (fun b w n z => (hs.2 b n).trans z) ⟨o', ho'⟩ (dvF_obj f), rfl, hQ o'⟩
  · exact h s.heap.objs.size { cls := .type "dict", data := .dict #[] } (I.hok.fresh (Nat.le_refl _)) (low_newN I)
theorem pe_disp2S {X : Cx} (S : Se) {e f e2 f2 : Expr} {pos : Pos} {tk tv tk2 tv2 : TE} (hu : X.A.units + 9 < cLine) (he : PE X e tk) (hf : PE X f tv) (he2 : PE X e2 tk2) (hf2 : PE X f2 tv2) (hK : X.K = S.K := by rfl) (hw : X.w = S.w := by rfl) (hP : X.prog = S.P := by rfl) : PE X (.Dict [some e, some e2] [f, f2] pos) (tDisp2 S.P S.w S.K tk tv tk2 tv2) := by
  rw [← hK, ← hw, ← hP]
  exact pe_disp2 hu he hf he2 hf2
end
def mDisp2M (mk mv mk2 mv2 : ME) : ME := fun ρ h => (mk ρ h).safe.bind fun k h1 => (mv ρ h1).safe.bind fun v h2 => (mk2 ρ h2).safe.bind fun k2 h3 => (mv2 ρ h3).safe.bind fun v2 h4 => match k, k2 with
  | .tup ts, .tup us => if kfit (.tup ts) 8 = true ∧ kfit (.tup us) 8 = true ∧ kix (.tup us) [.tup ts] = 1 then .ok (.ref h4.length) (h4 ++ [.dic [.tup ts, .tup us] [v, v2]]) else .bad
  | _, _ => .bad
section
variable {S : Se} {E : XK} {tk tv tk2 tv2 : TE} {mk mv mk2 mv2 : ME}
theorem se_disp2M (hk : SE S E0 tk mk) (hv : SE S E0 tv mv) (hk2 : SE S E0 tk2 mk2) (hv2 : SE S E0 tv2 mv2) : SE S E (tDisp2 S.P S.w S.K tk tv tk2 tv2) (mDisp2M mk mv mk2 mv2) := fun F ι h H ρ σ Q rp rs o p ob hp low => by
  obtain ⟨ex0, rp0⟩ := apart (S := S) (u := .ext (dvF S.P S.w p ob [] [])) rp hp
  have np : p ∉ ι := fun m => rp.dom p (rp.inF p m) hp
  refine hk _ ι h _ ρ σ _ rp0 (rs.ext rp ex0) (Ok.seqB (rel := RV S.toSg) o fun F1 ι1 H1 h1 k kx _ e1 rp1 zk o1 => ?_)
  have rs1 := (rs.ext rp ex0).ext rp0 e1
  refine hv F1 ι1 h1 H1 ρ σ _ rp1 rs1 (Ok.seqB (rel := RV S.toSg) o1 fun F2 ι2 H2 h2 v vx _ e2 rp2 zv o2 => ?_)
  have rs2 := rs1.ext rp1 e2
  refine hk2 F2 ι2 h2 H2 ρ σ _ rp2 rs2 (Ok.seqB (rel := RV S.toSg) o2 fun F3 ι3 H3 h3 k' kx' _ e3 rp3 zk' o3 => ?_)
  have rs3 := rs2.ext rp2 e3
  refine hv2 F3 ι3 h3 H3 ρ σ _ rp3 rs3 (Ok.seqB (rel := RV S.toSg) o3 fun F4 ι4 H4 h4 v' vx' _ e4 rp4 zv' o4 => ?_)
  have ex04 := ex0.trans (e1.trans (e2.trans (e3.trans e4)))
  obtain ⟨s1, s2⟩ := stays (e1.trans (e2.trans (e3.trans e4))) np (by rw [upd_same])
  split at o4
  · rename_i ts us hmk hmk2
    split at o4
    · rename_i hf
      obtain ⟨kk, k1, k2⟩ := kfit_of _ _ hf.1
      obtain ⟨kk', k1', k2'⟩ := kfit_of _ _ hf.2.1
      have zk2 := ((zk.ext rp1 e2).ext rp2 e3).ext rp3 e4
      have zk2' := zk'.ext rp3 e4
      have zv2 := (zv.ext rp2 e3).ext rp3 e4
      have nk := nk_of _ _ _ zk2 k1
      have nk' := nk_of _ _ _ zk2' k1'
      have dk : LV.keys [.tup ts] = some ([(kk, (0 : Addr))].map (·.1)) := by simp [LV.keys, k1]
      have hne : kk' ∉ [(kk, (0 : Addr))].map (·.1) := (kix_of (ys := [.tup ts]) k1' dk).2 (by rw [hf.2.2]; simp)
      have hne2 : kk ≠ kk' := fun e => hne (by simp [e])
      cases zk2 with
      | @tup b _ _ t1 t2 =>
        cases zk2' with
        | @tup b' _ _ t1' t2' =>
          refine ⟨b, b', kk, kk', vx, vx', rfl, s1, nk, k2, nk', k2', hne2, fun o' => ?_⟩
          obtain ⟨j3, j1, j2⟩ := joinM (S := S) (v := .ext (dvF S.P S.w p o' [(kk, b), (kk', b')] [vx, vx'])) (q := .dic [.tup ts, .tup us] [v, v']) hp ex04 rp4 (e4.more _ (e3.more _ (e2.more _ (e1.more _ (.inr rfl))))) s2 s1 (fun _ z => nomatch z) (fun _ _ z => nomatch z)
          have ok2 : keysOk [(kk, b), (kk', b')] [vx, vx'] := ⟨by simp [hne2], rfl, by show 2 ≤ 60000; decide, fun x hx => by
            simp only [List.mem_cons, List.not_mem_nil, or_false] at hx
            rcases hx with rfl | rfl
            · exact k2
            · exact k2'⟩
          refine o4 _ _ _ _ j1 (j2 (.dic upd_same low ok2 (by simp [LV.keys, k1, k1']) (.cons (.tup (j3.tup _ _ t1) (t2.fwd j3 _ _)) (.cons (.tup (j3.tup _ _ t1') (t2'.fwd j3 _ _)) .nil)) (.cons (zv2.fwd j3 _ _) (.cons (zv'.fwd j3 _ _) .nil)))) (.ref ?_)
          rw [← rp4.len, List.getElem?_append_right (Nat.le_refl _)]
          simp
    · exact o4.elim
  · exact o4.elim
end
end Rm
namespace Rm
open PySem PySem.Spec PyProof.Rows L2 RZ PpSet
/-! ### a method that reads what may still change, the instance too, and answers with a flat value -/
def mMethY (C n : Nat) (f : MF) (ma : ME) (mr : MA) : ME := fun ρ h => (ma ρ h).bind fun v h1 => match v with
  | .ref i => match h1[i]? with
    | some (.ins C' _ _) => if C' = C then (mr ρ h1).bind fun vs h2 => frzRun n f (.ref i :: vs) h2 else .bad
    | _ => .bad
  | .obj C' fs => if C' = C then (mr ρ h1).bind fun vs h2 => frzRun n f (.obj C' fs :: vs) h2 else .bad
  | _ => .bad
section
variable {S : Se} {E E' : XK} {tA : TA} {mA : MA} {ta : TE} {ma : ME} {n : Nat} {f : MF}
theorem se_methY {C : Nat} {m : Str} (nm : m ∉ S.nm C) (ha : SE S E ta ma) (hr : SA S E tA mA) : SE S E (tMeth (S.ct C) m (spM S n f) [] E' ta tA) (mMethY C n f ma mA) := fun F ι h H ρ σ Q rp rs o =>
  ha F ι h H ρ σ _ rp rs (o.seq fun F1 ι1 H1 h1 v x _ e1 rp1 z o1 => by
    cases z with
    | @ref a i q0 =>
      dsimp only at o1
      split at o1
      · rename_i C' k xs hx
        have g := rp1.at hx q0
        cases g with
        | @ins _ _ _ dx fs _ q hk hnm hfs =>
          split at o1
          · rename_i hC
            subst hC
            refine ⟨a, dx, fs, rfl, q, lookup_none (by rw [hnm]; exact fun m => nm (List.mem_of_mem_take m)), hr F1 ι1 h1 H1 ρ σ _ rp1 (rs.ext rp e1) (o1.seq fun F2 ι2 H2 h2 vs ys _ e2 rp2 zs o2 => ?_)⟩
            rw [List.append_nil]
            exact frz_run rp2 (.cons ((RV.ref q0 : RV S.toSg F1 ι1 H1 _ _).ext rp1 e2) zs) o2
          · exact o1.elim
      · exact o1.elim
    | @obj a C' dx fs xs q nF hnm hfs =>
      dsimp only at o1
      split at o1
      · rename_i hC
        subst hC
        refine ⟨a, dx, fs, rfl, q, lookup_none (by rw [hnm]; exact nm), hr F1 ι1 h1 H1 ρ σ _ rp1 (rs.ext rp e1) (o1.seq fun F2 ι2 H2 h2 vs ys _ e2 rp2 zs o2 => ?_)⟩
        rw [List.append_nil]
        exact frz_run rp2 (.cons ((RV.obj q nF hnm hfs).ext rp1 e2) zs) o2
      · exact o1.elim
    | _ => exact o1.elim)
end
/-! ### the same, of what is fixed -/
theorem pi_itemsS {X : Cx} (S : Se) {e : Expr} {td : TE} {apos cpos : Pos} {elts : List Expr} {kk : Nat} {tpos : Pos} (he : PE X e td) (hw : X.w = S.w := by rfl) (hP : X.prog = S.P := by rfl) (hbase : attributeBase e "items" X.env (eval e X.env) = eval e X.env := by rfl) (hline : (apos.endLine == cpos.line) = true := by rfl) :
    PI X (.Tuple elts kk tpos) (.Call (.Attribute e "items" apos) [] [] cpos) (iItemsN S.P S.w td) := by
  rw [← hw, ← hP]
  exact pi_itemsN he hbase hline
theorem pe_stwS {X : Cx} (S : Se) {o e : Expr} {es : List Expr} {to : TE} {t : TA} {apos cpos : Pos} (ho : PE X o to) (ha : PA X (e :: es) t) (hK : X.K = S.K := by rfl)
    (hbase : attributeBase o "startswith" X.env (eval o X.env) = eval o X.env := by rfl)
    (hfew : ((backTo cpos (starEach (e :: es) X.env)).all (fun x => !x.1) && (backToKw cpos (keywordEach [] X.env)).all (fun x => x.1.isSome)
      && decide ((e :: es).length + ([] : List Keyword).length + (if ([] : List Keyword).isEmpty then 0 else 1) < 30)) = true := by rfl)
    (hline : (apos.endLine == cpos.line) = true := by rfl) (hs : starEach (e :: es) X.env = (false, eval e X.env) :: starEach es X.env := by rfl) (hplain : (backTo cpos (starEach es X.env)).any (·.1) = false := by rfl) :
    PE X (.Call (.Attribute o "startswith" apos) (e :: es) [] cpos) (tBM S.K "str" rStw to t) := by
  rw [← hK]
  exact pe_bm PySem.F.plainAttrs_str PySem.F.slot_str_startswith PySem.F.type_str_startswith mt_stw ho ha hbase hfew hline hs hplain
theorem ip_ext2 {X : Cx} : PIp X .Add rExt2 := iop_ext
end Rm
namespace Rm
open PySem PySem.Spec PyProof.Rows L2 RZ PpSet
/-! ### defs with a parameter that is named, as they stand behind the top -/
abbrev dfnK (x : Str) (m : Option Str) (nm qual : Str) (st : Stmt) (kw : Str) : He.DefD := ⟨(x, m), nm, qual, defArgs st, defBody st, defScope st, [], [(kw, .bl false)]⟩
abbrev FunK (K : PySem.W.Frag) (nm qual : Str) (st : Stmt) (kw : Str) (f : Addr) (fd : FuncData) : Prop := FunD K nm qual (defArgs st) (defBody st) (defScope st) [] [(kw, V.bl false)] f fd
def FnK (K : PySem.W.Frag) (x nm qual : Str) (st : Stmt) (kw : Str) : Prop := ∃ f fd, FunK K nm qual st kw f fd ∧ PySem.W.nsIn K mainGlobals x = some (some (.ref f))
theorem FnK.go {K : PySem.W.Frag} {x nm qual kw : Str} {st : Stmt} {h : Heap} {mg : Str → Option Value} (F : FnK K x nm qual st kw) (X : K.In h) (G : h.Ns mainGlobals mg) : ∃ f fd, FunK K nm qual st kw f fd ∧ mg x = some (.ref f) := by
  obtain ⟨f, fd, F, a⟩ := F
  exact ⟨f, fd, F, PySem.W.mg_of X G a⟩
def MtK (K : PySem.W.Frag) (C : Addr) (nm qual : Str) (st : Stmt) (kw : Str) : Prop := ∃ f fd, FunK K nm qual st kw f fd ∧ PySem.W.findIn K (.ref C) nm = some (some (.ref f)) ∧ PySem.W.isFn K (.ref f) = true ∧ PySem.W.keepIn K (.ref f) = true
section
variable {K : PySem.W.Frag} {fa : List He.Fa} {fn : List He.DefD} {x nm qual kw : Str} {st : Stmt}
theorem fnK_of (c : He.SaysD fa fn K) (i j : Nat) (hd : fn[i]? = some (dfnK x none nm qual st kw)) (hf : fa[j]? = some (He.Fa.glo x)) : FnK K x nm qual st kw := by
  obtain ⟨fd, F⟩ := c.def_ i hd
  exact ⟨_, fd, F, He.eqO_ok (c.fact j hf)⟩
theorem mtK_of (c : He.SaysD fa fn K) (i j : Nat) (hd : fn[i]? = some (dfnK x (some nm) nm qual st kw)) (hf : fa[j]? = some (He.Fa.meth x nm)) : MtK K (He.ga K x) nm qual st kw := by
  obtain ⟨fd, F⟩ := c.def_ i hd
  have m := He.meth_ok (c.fact j hf)
  exact ⟨_, fd, F, m.at_, m.fn, m.kp⟩
end
end Rm
namespace K50
open PySem PySem.Spec PyProof.Rows L2 RZ PpSet Rm
def topS (i : Nat) : Stmt := PySem.Challenge.pw_turnedends_k50_known_longer.main.body.getD i (.Pass ⟨0, 0, 0, 0⟩)
def kt__MADE_OF : KT := [([97, 110, 121], some (.tup [(.str [97]), (.str [110]), (.str [114])])), ([98, 97, 114, 101], some (.tup [(.str [97]), (.str [110])])), ([108, 111, 110, 101], some (.tup [(.str [97]), (.str [114])]))]
def kt__PLAIN : KT := [([97, 108, 108], some (.str [114, 110])), ([98, 111, 116, 104], none), ([99, 97, 114, 101], none), ([108, 111, 110, 101], some (.str [114])), ([108, 111, 110, 101, 115], none), ([112, 97, 105, 114, 115], none)]
def kt__HELD : KT := [([97, 108, 108], none), ([98, 111, 116, 104], some (.tup [(.str []), (.str [110])])), ([99, 97, 114, 101], none), ([108, 111, 110, 101], none), ([108, 111, 110, 101, 115], some (.tup [(.str [114]), (.str [110])])), ([112, 97, 105, 114, 115], some (.tup [(.str []), (.str [114])]))]
def rt__REPLACED : RT := [([97, 108, 108], [([110], [114, 110])]), ([98, 111, 116, 104], [([114, 110], [110]), ([114], [110])]), ([99, 97, 114, 101], [([114, 110], [110]), ([110], [114, 110])]), ([108, 111, 110, 101], [([110], [114])]), ([108, 111, 110, 101, 115], [([114, 110], [120]), ([114], [110]), ([120], [114, 110])]), ([112, 97, 105, 114, 115], [([114, 110], [110])])]
abbrev s_is_conversion : Stmt := topS 26
theorem sc_is_conversion : FnScope ["word"] ["word"] (defScope s_is_conversion) := ⟨rfl, rfl, rfl, by decide +kernel, rfl, by decide +kernel, by decide +kernel⟩
def mb_is_conversion : MS := (mRet (mAndV (mIsi (tbTy "str") (mVar 0)) (mOp (fInY false) (mVar 0) (mC (.tup [(.str [97, 108, 108]), (.str [98, 111, 116, 104]), (.str [99, 97, 114, 101]), (.str [108, 111, 110, 101]), (.str [108, 111, 110, 101, 115]), (.str [112, 97, 105, 114, 115])])))))
def m_is_conversion : MF := mFn 1 mb_is_conversion
abbrev s_is_way : Stmt := topS 27
theorem sc_is_way : FnScope ["way", "word"] ["way"] (defScope s_is_way) := ⟨rfl, rfl, rfl, by decide +kernel, rfl, by decide +kernel, by decide +kernel⟩
def mb_is_way : MS := (mRet (mAndV (mIsi (tbTy "tuple") (mVar 0)) (mAndV (mOp (fCmp fun i j => decide (i ≤ j)) (mCB fLen (mCons (mVar 0) mNil)) (mC (.int 6))) (mCB fAll (mCons (mLc (mAnyI (mVar 0)) (mName 1) mYes (mCallT 1 m_is_conversion (mCons (mVar 1) mNil)) [1]) mNil)))))
def m_is_way : MF := mFn 2 mb_is_way
abbrev s_check_way : Stmt := topS 28
theorem sc_check_way : FnScope ["way"] ["way"] (defScope s_check_way) := ⟨rfl, rfl, rfl, by decide +kernel, rfl, by decide +kernel, by decide +kernel⟩
def mb_check_way : MS := (mIfS (mNot (mTru (mCallT 1 m_is_way (mCons (mVar 0) mNil)))) mBad mNext)
def m_check_way : MF := mFn 1 mb_check_way
abbrev s_check_kind : Stmt := topS 16
theorem sc_check_kind : FnScope ["kind"] ["kind"] (defScope s_check_kind) := ⟨rfl, rfl, rfl, by decide +kernel, rfl, by decide +kernel, by decide +kernel⟩
def mb_check_kind : MS := (mIfS (mOr (mNot (mTru (mIsi (tbTy "str") (mVar 0)))) (mB (mOp (fInY true) (mVar 0) (mC (.tup [(.str [97, 110, 121]), (.str [98, 97, 114, 101]), (.str [108, 111, 110, 101]), (.str [112, 97, 105, 114, 101, 100])]))))) mBad mNext)
def m_check_kind : MF := mFn 1 mb_check_kind
abbrev s__check_rates : Stmt := topS 48
theorem sc__check_rates : FnScope ["way", "kind", "least"] ["way", "kind", "least"] (defScope s__check_rates) := ⟨rfl, rfl, rfl, by decide +kernel, rfl, by decide +kernel, by decide +kernel⟩
def mb__check_rates : MS := (mSeq (mDrop (mCallT 1 m_check_way (mCons (mVar 0) mNil))) (mSeq (mDrop (mCallT 1 m_check_kind (mCons (mVar 1) mNil))) (mIfS (mNot (mTru (mIsi (tbTy "bool") (mVar 2)))) mBad mNext)))
def m__check_rates : MF := mFn 3 mb__check_rates
abbrev s_Reader_init : Stmt := inClass (topS 38) 0
theorem sc_Reader_init : FnScope ["self", "way", "kind"] ["self", "way", "kind"] (defScope s_Reader_init) := ⟨rfl, rfl, rfl, by decide +kernel, rfl, by decide +kernel, by decide +kernel⟩
def mb_Reader_init : MS := (mSeq (mFldSet [(0, 0)] (mVar 0) (mVar 1)) (mSeq (mFldSet [(0, 1)] (mVar 0) (mVar 2)) (mSeq (mFldSet [(0, 2)] (mVar 0) mNewM) (mFldSet [(0, 3)] (mVar 0) mNewM))))
def m_Reader_init : MF := mFn 3 mb_Reader_init
abbrev s_starting : Stmt := topS 35
theorem sc_starting : FnScope ["way"] ["way"] (defScope s_starting) := ⟨rfl, rfl, rfl, by decide +kernel, rfl, by decide +kernel, by decide +kernel⟩
def mb_starting : MS := (mRet (mOp fMul (mTup (mCons (mC (.bl false)) mNil)) (mCB fLen (mCons (mVar 0) mNil))))
def m_starting : MF := mFn 1 mb_starting
abbrev s_Reader_first : Stmt := inClass (topS 38) 1
theorem sc_Reader_first : FnScope ["self"] ["self"] (defScope s_Reader_first) := ⟨rfl, rfl, rfl, by decide +kernel, rfl, by decide +kernel, by decide +kernel⟩
def mb_Reader_first : MS := (mRet (mTup (mCons (mCallT 1 m_starting (mCons (mFld [(0, 0)] (mVar 0)) mNil)) (mCons (mC (.bl false)) mNil))))
def m_Reader_first : MF := mFn 1 mb_Reader_first
abbrev s__read_one : Stmt := topS 31
theorem sc__read_one : FnScope ["word", "flag", "sign", "ahead_of_n", "otherwise", "held"] ["word", "flag", "sign"] (defScope s__read_one) := ⟨rfl, rfl, rfl, by decide +kernel, rfl, by decide +kernel, by decide +kernel⟩
def mb__read_one : MS := (mSeq (mIfS (mB (mInK kt__PLAIN (mVar 0))) (mRet (mTup (mCons (mC (.bl false)) (mCons (mIf (mB (mOp (fEq false) (mVar 2) (mC (.str [110])))) (mIxK kt__PLAIN (mVar 0)) (mVar 2)) mNil)))) mNext) (mSeq (mIfS (mB (mOp (fEq false) (mVar 0) (mC (.str [99, 97, 114, 101])))) (mRet (mTup (mCons (mOp (fEq false) (mVar 2) (mC (.str [114]))) (mCons (mIf (mAnd (mB (mOp (fEq false) (mVar 2) (mC (.str [110])))) (mNot (mTru (mVar 1)))) (mC (.str [114, 110])) (mVar 2)) mNil)))) mNext) (mSeq (mAsg (mIxK kt__HELD (mVar 0)) (mGTup 2 (mGCons (mName 3) (mGCons (mName 4) mGNil)))) (mSeq (mAsg (mC (.str [])) (mName 5)) (mSeq (mIfS (mTru (mVar 1)) (mAsg (mIf (mB (mOp (fEq false) (mVar 2) (mC (.str [110])))) (mVar 3) (mVar 4)) (mName 5)) mNext) (mRet (mTup (mCons (mOp (fEq false) (mVar 2) (mC (.str [114]))) (mCons (mIf (mB (mOp (fEq false) (mVar 2) (mC (.str [114])))) (mVar 5) (mOp fAdd (mVar 5) (mVar 2))) mNil)))))))))
def m__read_one : MF := mFn 6 mb__read_one
abbrev s__read_all : Stmt := topS 32
theorem sc__read_all : FnScope ["word", "flag", "text", "given", "sign", "out"] ["word", "flag", "text"] (defScope s__read_all) := ⟨rfl, rfl, rfl, by decide +kernel, rfl, by decide +kernel, by decide +kernel⟩
def mb__read_all : MS := (mSeq (mAsg (mLstM mNil) (mName 3)) (mSeq (mFor (mAnyI (mVar 2)) (mName 4) (mSeq (mAsg (mCallT 3 m__read_one (mCons (mVar 0) (mCons (mVar 1) (mCons (mVar 4) mNil)))) (mGTup 2 (mGCons (mName 1) (mGCons (mName 5) mGNil)))) (mDrop (mApp (mVar 3) (mVar 5))))) (mRet (mTup (mCons (mVar 1) (mCons (mJoin0 (mVar 3)) mNil))))))
def m__read_all : MF := mFn 6 mb__read_all
abbrev s_step : Stmt := topS 33
theorem sc_step : FnScope ["way", "standing", "sign", "behind", "text", "word", "flag", "flag_behind"] ["way", "standing", "sign"] (defScope s_step) := ⟨rfl, rfl, rfl, by decide +kernel, rfl, by decide +kernel, by decide +kernel⟩
def mb_step : MS := (mSeq (mAsg (mLstM mNil) (mName 3)) (mSeq (mAsg (mVar 2) (mName 4)) (mSeq (mFor (mZip (mCons (mVar 0) (mCons (mVar 1) mNil))) (mGTup 2 (mGCons (mName 5) (mGCons (mName 6) mGNil))) (mSeq (mAsg (mCallT 3 m__read_all (mCons (mVar 5) (mCons (mVar 6) (mCons (mVar 4) mNil)))) (mGTup 2 (mGCons (mName 7) (mGCons (mName 4) mGNil)))) (mDrop (mApp (mVar 3) (mVar 7))))) (mRet (mTup (mCons (mCB fTuple (mCons (mVar 3) mNil)) (mCons (mVar 4) mNil)))))))
def m_step : MF := mFn 8 mb_step
abbrev s_is_half : Stmt := topS 18
theorem sc_is_half : FnScope ["kind", "sign"] ["kind", "sign"] (defScope s_is_half) := ⟨rfl, rfl, rfl, by decide +kernel, rfl, by decide +kernel, by decide +kernel⟩
def mb_is_half : MS := (mRet (mAndV (mOp (fEq false) (mVar 0) (mC (.str [112, 97, 105, 114, 101, 100]))) (mOp (fEq false) (mVar 1) (mC (.str [114])))))
def m_is_half : MF := mFn 2 mb_is_half
abbrev s_Reader_move : Stmt := inClass (topS 38) 3
theorem sc_Reader_move : FnScope ["self", "place", "sign", "standing", "given"] ["self", "place", "sign"] (defScope s_Reader_move) := ⟨rfl, rfl, rfl, by decide +kernel, rfl, by decide +kernel, by decide +kernel⟩
def mb_Reader_move : MS := (mSeq (mAsg (mCallT 3 m_step (mCons (mFld [(0, 0)] (mVar 0)) (mCons (mOp fIxX (mVar 1) (mC (.int 0))) (mCons (mVar 2) mNil)))) (mGTup 2 (mGCons (mName 3) (mGCons (mName 4) mGNil)))) (mRet (mTup (mCons (mVar 2) (mCons (mTup (mCons (mVar 3) (mCons (mCallT 2 m_is_half (mCons (mFld [(0, 1)] (mVar 0)) (mCons (mVar 2) mNil))) mNil))) (mCons (mVar 4) mNil))))))
def m_Reader_move : MF := mFn 5 mb_Reader_move
abbrev s_coming : Stmt := topS 19
theorem sc_coming : FnScope ["kind", "waits"] ["kind", "waits"] (defScope s_coming) := ⟨rfl, rfl, rfl, by decide +kernel, rfl, by decide +kernel, by decide +kernel⟩
def mb_coming : MS := (mSeq (mIfS (mB (mOp (fEq false) (mVar 0) (mC (.str [112, 97, 105, 114, 101, 100])))) (mRet (mIf (mTru (mVar 1)) (mTup (mCons (mC (.str [110])) mNil)) (mTup (mCons (mC (.str [97])) (mCons (mC (.str [114])) mNil))))) mNext) (mRet (mIxK kt__MADE_OF (mVar 0))))
def m_coming : MF := mFn 2 mb_coming
abbrev s_Reader_moves : Stmt := inClass (topS 38) 2
theorem sc_Reader_moves : FnScope ["self", "place", "sign"] ["self", "place"] (defScope s_Reader_moves) := ⟨rfl, rfl, rfl, by decide +kernel, rfl, by decide +kernel, by decide +kernel⟩
def mb_Reader_moves : MS := (mSeq (mIfS (mB (mOp (fInY true) (mVar 1) (mFld [(0, 2)] (mVar 0)))) (mAsg (mLc (mAnyI (mCallT 2 m_coming (mCons (mFld [(0, 1)] (mVar 0)) (mCons (mOp fIxX (mVar 1) (mC (.int 1))) mNil)))) (mName 2) mYes (mMethU 0 3 m_Reader_move (mVar 0) (mCons (mVar 1) (mCons (mVar 2) mNil))) [2]) (mGSub fSetX (mFld [(0, 2)] (mVar 0)) (mVar 1))) mNext) (mRet (mOp fIxX (mFld [(0, 2)] (mVar 0)) (mVar 1))))
def m_Reader_moves : MF := mFn 3 mb_Reader_moves
abbrev s_ending : Stmt := topS 34
theorem sc_ending : FnScope ["way", "standing", "text", "word", "flag", "flag_behind"] ["way", "standing"] (defScope s_ending) := ⟨rfl, rfl, rfl, by decide +kernel, rfl, by decide +kernel, by decide +kernel⟩
def mb_ending : MS := (mSeq (mAsg (mC (.str [])) (mName 2)) (mSeq (mFor (mZip (mCons (mVar 0) (mCons (mVar 1) mNil))) (mGTup 2 (mGCons (mName 3) (mGCons (mName 4) mGNil))) (mSeq (mAsg (mCallT 3 m__read_all (mCons (mVar 3) (mCons (mVar 4) (mCons (mVar 2) mNil)))) (mGTup 2 (mGCons (mName 5) (mGCons (mName 2) mGNil)))) (mIfS (mAnd (mTru (mVar 5)) (mB (mInK kt__HELD (mVar 3)))) (mAsg (mOp fAdd (mVar 2) (mOp fIxX (mIxK kt__HELD (mVar 3)) (mC (.int 1)))) (mName 2)) mNext))) (mRet (mVar 2))))
def m_ending : MF := mFn 6 mb_ending
abbrev s_Reader_end : Stmt := inClass (topS 38) 4
theorem sc_Reader_end : FnScope ["self", "place"] ["self", "place"] (defScope s_Reader_end) := ⟨rfl, rfl, rfl, by decide +kernel, rfl, by decide +kernel, by decide +kernel⟩
def mb_Reader_end : MS := (mSeq (mIfS (mB (mOp (fInY true) (mVar 1) (mFld [(0, 3)] (mVar 0)))) (mAsg (mIf (mTru (mOp fIxX (mVar 1) (mC (.int 1)))) (mC .non) (mCallT 2 m_ending (mCons (mFld [(0, 0)] (mVar 0)) (mCons (mOp fIxX (mVar 1) (mC (.int 0))) mNil)))) (mGSub fSetX (mFld [(0, 3)] (mVar 0)) (mVar 1))) mNext) (mRet (mOp fIxX (mFld [(0, 3)] (mVar 0)) (mVar 1))))
def m_Reader_end : MF := mFn 2 mb_Reader_end
abbrev s_Reader_reached : Stmt := inClass (topS 38) 5
theorem sc_Reader_reached : FnScope ["self", "found", "level", "longer", "place", "sign", "behind", "_"] ["self"] (defScope s_Reader_reached) := ⟨rfl, rfl, rfl, by decide +kernel, rfl, by decide +kernel, by decide +kernel⟩
def mb_Reader_reached : MS := (mSeq (mAsg (mDispM (mMethU 0 1 m_Reader_first (mVar 0) mNil) (mC (.str []))) (mName 1)) (mSeq (mAsg (mLst (mCons (mMethU 0 1 m_Reader_first (mVar 0) mNil) mNil)) (mName 2)) (mSeq (mWhile 50000 (mTru (mVar 2)) (mSeq (mAsg (mLstM mNil) (mName 3)) (mSeq (mFor (mAnyI (mVar 2)) (mName 4) (mFor (mAnyI (mMethU 0 2 m_Reader_moves (mVar 0) (mCons (mVar 4) mNil))) (mGTup 3 (mGCons (mName 5) (mGCons (mName 6) (mGCons (mName 7) mGNil)))) (mIfS (mB (mOp (fInY true) (mVar 6) (mVar 1))) (mSeq (mAsg (mOp fAdd (mOp fIxX (mVar 1) (mVar 4)) (mVar 5)) (mGSub fSetX (mVar 1) (mVar 6))) (mDrop (mApp (mVar 3) (mVar 6)))) mNext))) (mAsg (mVar 3) (mName 2))))) (mRet (mVar 1)))))
def m_Reader_reached : MF := mFn 8 mb_Reader_reached
abbrev s_walked : Stmt := topS 40
theorem sc_walked : FnScope ["reader", "place", "text", "many", "sign", "found", "_", "given", "move"] ["reader", "place", "text"] (defScope s_walked) := ⟨rfl, rfl, rfl, by decide +kernel, rfl, by decide +kernel, by decide +kernel⟩
def mb_walked : MS := (mSeq (mAsg (mC (.int 0)) (mName 3)) (mSeq (mFor (mAnyI (mVar 2)) (mName 4) (mSeq (mAsg (mLc (mAnyI (mMethU 0 2 m_Reader_moves (mVar 0) (mCons (mVar 1) mNil))) (mName 8) (mB (mOp (fEq false) (mOp fIxX (mVar 8) (mC (.int 0))) (mVar 4))) (mVar 8) [8]) (mName 5)) (mSeq (mIfS (mNot (mTru (mVar 5))) (mRet (mC .non)) mNext) (mSeq (mAsg (mOp fIxX (mVar 5) (mC (.int 0))) (mGTup 3 (mGCons (mName 6) (mGCons (mName 1) (mGCons (mName 7) mGNil))))) (mAug 3 (mCB fLen (mCons (mVar 7) mNil)) fun i j => i + j))))) (mRet (mTup (mCons (mVar 1) (mCons (mVar 3) mNil))))))
def m_walked : MF := mFn 9 mb_walked
abbrev s_is_text : Stmt := topS 15
theorem sc_is_text : FnScope ["text", "sign"] ["text"] (defScope s_is_text) := ⟨rfl, rfl, rfl, by decide +kernel, rfl, by decide +kernel, by decide +kernel⟩
def mb_is_text : MS := (mRet (mAndV (mIsi (tbTy "str") (mVar 0)) (mCB fAll (mCons (mLc (mAnyI (mVar 0)) (mName 1) mYes (mOp (fInY false) (mVar 1) (mC (.tup [(.str [97]), (.str [110]), (.str [114])]))) [1]) mNil))))
def m_is_text : MF := mFn 2 mb_is_text
abbrev s_rate_of : Stmt := topS 41
theorem sc_rate_of : FnScope ["reader", "place", "ring", "found", "many", "common"] ["reader", "place", "ring"] (defScope s_rate_of) := ⟨rfl, rfl, rfl, by decide +kernel, rfl, by decide +kernel, by decide +kernel⟩
def mb_rate_of : MS := (mSeq (mAsg (mCallT 3 m_walked (mCons (mVar 0) (mCons (mVar 1) (mCons (mVar 2) mNil)))) (mName 3)) (mSeq (mIfS (mOr (mB (mOp (fEq false) (mVar 2) (mC (.str [])))) (mOr (mB (mOp (fIsN false) (mVar 3) (mC .non))) (mB (mOp (fEq true) (mOp fIxX (mVar 3) (mC (.int 0))) (mVar 1))))) (mRet (mC .non)) mNext) (mSeq (mAsg (mOp fIxX (mVar 3) (mC (.int 1))) (mName 4)) (mSeq (mAsg (mCB fGcd (mCons (mVar 4) (mCons (mCB fLen (mCons (mVar 2) mNil)) mNil))) (mName 5)) (mRet (mTup (mCons (mOp fDiv (mVar 4) (mVar 5)) (mCons (mOp fDiv (mCB fLen (mCons (mVar 2) mNil)) (mVar 5)) mNil))))))))
def m_rate_of : MF := mFn 6 mb_rate_of
abbrev s_is_integer : Stmt := topS 2
theorem sc_is_integer : FnScope ["number"] ["number"] (defScope s_is_integer) := ⟨rfl, rfl, rfl, by decide +kernel, rfl, by decide +kernel, by decide +kernel⟩
def mb_is_integer : MS := (mRet (mAndV (mIsi (tbTy "int") (mVar 0)) (mNotV (mIsi (tbTy "bool") (mVar 0)))))
def m_is_integer : MF := mFn 1 mb_is_integer
abbrev s_Swelling_has_rate : Stmt := inClass (topS 50) 3
theorem sc_Swelling_has_rate : FnScope ["self", "reader", "found", "number"] ["self", "reader"] (defScope s_Swelling_has_rate) := ⟨rfl, rfl, rfl, by decide +kernel, rfl, by decide +kernel, by decide +kernel⟩
def mb_Swelling_has_rate : MS := (mSeq (mIfS (mOr (mNot (mTru (mCallT 1 m_is_text (mCons (mFld [(1, 1)] (mVar 0)) mNil)))) (mNot (mTru (mCallT 1 m_is_text (mCons (mFld [(1, 2)] (mVar 0)) mNil))))) (mRet (mC (.bl false))) mNext) (mSeq (mAsg (mCallT 3 m_walked (mCons (mVar 1) (mCons (mMethU 0 1 m_Reader_first (mVar 1) mNil) (mCons (mFld [(1, 1)] (mVar 0)) mNil)))) (mName 2)) (mSeq (mIfS (mOr (mB (mOp (fIsN false) (mVar 2) (mC .non))) (mB (mOp (fEq true) (mFld [(1, 0)] (mVar 0)) (mCallT 3 m_rate_of (mCons (mVar 1) (mCons (mOp fIxX (mVar 2) (mC (.int 0))) (mCons (mFld [(1, 2)] (mVar 0)) mNil))))))) (mRet (mC (.bl false))) mNext) (mRet (mAndV (mIsi (tbTy "tuple") (mFld [(1, 0)] (mVar 0))) (mCB fAll (mCons (mLc (mAnyI (mFld [(1, 0)] (mVar 0))) (mName 3) mYes (mCallT 1 m_is_integer (mCons (mVar 3) mNil)) [3]) mNil)))))))
def m_Swelling_has_rate : MF := mFn 4 mb_Swelling_has_rate
abbrev s_is_standing : Stmt := topS 29
theorem sc_is_standing : FnScope ["way", "standing", "word", "flag"] ["way", "standing"] (defScope s_is_standing) := ⟨rfl, rfl, rfl, by decide +kernel, rfl, by decide +kernel, by decide +kernel⟩
def mb_is_standing : MS := (mSeq (mIfS (mOr (mNot (mTru (mIsi (tbTy "tuple") (mVar 1)))) (mB (mOp (fEq true) (mCB fLen (mCons (mVar 1) mNil)) (mCB fLen (mCons (mVar 0) mNil))))) (mRet (mC (.bl false))) mNext) (mRet (mCB fAll (mCons (mLc (mZip (mCons (mVar 0) (mCons (mVar 1) mNil))) (mGTup 2 (mGCons (mName 2) (mGCons (mName 3) mGNil))) mYes (mAndV (mIsi (tbTy "bool") (mVar 3)) (mNotV (mAndV (mVar 3) (mInK kt__PLAIN (mVar 2))))) [2, 3]) mNil))))
def m_is_standing : MF := mFn 4 mb_is_standing
abbrev s_is_place : Stmt := topS 37
theorem sc_is_place : FnScope ["way", "place"] ["way", "place"] (defScope s_is_place) := ⟨rfl, rfl, rfl, by decide +kernel, rfl, by decide +kernel, by decide +kernel⟩
def mb_is_place : MS := (mSeq (mIfS (mOr (mNot (mTru (mIsi (tbTy "tuple") (mVar 1)))) (mB (mOp (fEq true) (mCB fLen (mCons (mVar 1) mNil)) (mC (.int 2))))) (mRet (mC (.bl false))) mNext) (mRet (mAndV (mCallT 2 m_is_standing (mCons (mVar 0) (mCons (mOp fIxX (mVar 1) (mC (.int 0))) mNil))) (mIsi (tbTy "bool") (mOp fIxX (mVar 1) (mC (.int 1)))))))
def m_is_place : MF := mFn 2 mb_is_place
abbrev s_Swelling_is_closed : Stmt := inClass (topS 50) 4
theorem sc_Swelling_is_closed : FnScope ["self", "reader", "place", "_", "behind"] ["self", "reader"] (defScope s_Swelling_is_closed) := ⟨rfl, rfl, rfl, by decide +kernel, rfl, by decide +kernel, by decide +kernel⟩
def mb_Swelling_is_closed : MS := (mSeq (mIfS (mNot (mTru (mCB fAll (mCons (mLc (mAnyI (mFld [(1, 3)] (mVar 0))) (mName 2) mYes (mAndV (mCallT 2 m_is_place (mCons (mFld [(0, 0)] (mVar 1)) (mCons (mVar 2) mNil))) (mCallT 1 m_is_integer (mCons (mOp fIxX (mFld [(1, 3)] (mVar 0)) (mVar 2)) mNil))) [2]) mNil)))) (mRet (mC (.bl false))) mNext) (mSeq (mIfS (mB (mOp (fInY true) (mMethU 0 1 m_Reader_first (mVar 1) mNil) (mFld [(1, 3)] (mVar 0)))) (mRet (mC (.bl false))) mNext) (mRet (mCB fAll (mCons (mLc2 (mAnyI (mFld [(1, 3)] (mVar 0))) (mName 2) mYes (mAnyI (mMethU 0 2 m_Reader_moves (mVar 1) (mCons (mVar 2) mNil))) (mGTup 3 (mGCons (mName 3) (mGCons (mName 4) (mGCons (mName 3) mGNil)))) mYes (mOp (fInY false) (mVar 4) (mFld [(1, 3)] (mVar 0))) [2, 3, 4] [3, 4]) mNil)))))
def m_Swelling_is_closed : MF := mFn 5 mb_Swelling_is_closed
abbrev s_weight : Stmt := topS 42
theorem sc_weight : FnScope ["rate", "given", "least", "above"] ["rate", "given", "least"] (defScope s_weight) := ⟨rfl, rfl, rfl, by decide +kernel, rfl, by decide +kernel, by decide +kernel⟩
def mb_weight : MS := (mSeq (mAsg (mOp fSub (mOp fMul (mCB fLen (mCons (mVar 1) mNil)) (mOp fIxX (mVar 0) (mC (.int 1)))) (mOp fIxX (mVar 0) (mC (.int 0)))) (mName 3)) (mRet (mIf (mTru (mVar 2)) (mUn fNeg (mVar 3)) (mVar 3))))
def m_weight : MF := mFn 4 mb_weight
abbrev s_Swelling_falls : Stmt := inClass (topS 50) 5
theorem sc_Swelling_falls : FnScope ["self", "reader", "least", "place", "_", "behind", "given"] ["self", "reader", "least"] (defScope s_Swelling_falls) := ⟨rfl, rfl, rfl, by decide +kernel, rfl, by decide +kernel, by decide +kernel⟩
def mb_Swelling_falls : MS := (mRet (mCB fAll (mCons (mLc2 (mAnyI (mFld [(1, 3)] (mVar 0))) (mName 3) mYes (mAnyI (mMethU 0 2 m_Reader_moves (mVar 1) (mCons (mVar 3) mNil))) (mGTup 3 (mGCons (mName 4) (mGCons (mName 5) (mGCons (mName 6) mGNil)))) mYes (mOp (fCmp fun i j => decide (i ≤ j)) (mOp fAdd (mOp fIxX (mFld [(1, 3)] (mVar 0)) (mVar 5)) (mCallT 3 m_weight (mCons (mFld [(1, 0)] (mVar 0)) (mCons (mVar 6) (mCons (mVar 2) mNil))))) (mOp fIxX (mFld [(1, 3)] (mVar 0)) (mVar 3))) [3, 4, 5, 6] [4, 5, 6]) mNil)))
def m_Swelling_falls : MF := mFn 7 mb_Swelling_falls
abbrev s_Swelling_shows : Stmt := inClass (topS 50) 2
theorem sc_Swelling_shows : FnScope ["self", "way", "kind", "least", "reader"] ["self", "way", "kind", "least"] (defScope s_Swelling_shows) := ⟨rfl, rfl, rfl, by decide +kernel, rfl, by decide +kernel, by decide +kernel⟩
def mb_Swelling_shows : MS := (mSeq (mDrop (mCallT 3 m__check_rates (mCons (mVar 1) (mCons (mVar 2) (mCons (mVar 3) mNil))))) (mSeq (mAsg (mMakeS 0 4 3 m_Reader_init (mCons (mVar 1) (mCons (mVar 2) mNil))) (mName 4)) (mRet (mAndV (mMethU 1 2 m_Swelling_has_rate (mVar 0) (mCons (mVar 4) mNil)) (mAndV (mMethU 1 2 m_Swelling_is_closed (mVar 0) (mCons (mVar 4) mNil)) (mMethU 1 3 m_Swelling_falls (mVar 0) (mCons (mVar 4) (mCons (mVar 3) mNil))))))))
def m_Swelling_shows : MF := mFn 5 mb_Swelling_shows
abbrev s_Swelling_init : Stmt := inClass (topS 50) 0
theorem sc_Swelling_init : FnScope ["self", "rate", "ahead", "ring", "heights", "place"] ["self", "rate", "ahead", "ring", "heights"] (defScope s_Swelling_init) := ⟨rfl, rfl, rfl, by decide +kernel, rfl, by decide +kernel, by decide +kernel⟩
def mb_Swelling_init : MS := (mSeq (mFldSet [(1, 0)] (mVar 0) (mVar 1)) (mSeq (mFldSet [(1, 1)] (mVar 0) (mVar 2)) (mSeq (mFldSet [(1, 2)] (mVar 0) (mVar 3)) (mFldSet [(1, 3)] (mVar 0) (mIsoM 4 (mDcM (mAnyI (mVar 4)) (mName 5) mYes (mVar 5) (mOp fIxX (mVar 4) (mVar 5)) [5]))))))
def m_Swelling_init : MF := mFn 6 mb_Swelling_init
abbrev s__ring_behind : Stmt := topS 43
theorem sc__ring_behind : FnScope ["chosen", "place", "_", "ring", "behind"] ["chosen", "place"] (defScope s__ring_behind) := ⟨rfl, rfl, rfl, by decide +kernel, rfl, by decide +kernel, by decide +kernel⟩
def mb__ring_behind : MS := (mSeq (mFor (mAnyI (mVar 0)) (mName 2) (mAsg (mOp fIxX (mOp fIxX (mVar 0) (mVar 1)) (mC (.int 1))) (mName 1))) (mSeq (mPar 3 4 (mCons (mOp fIxX (mOp fIxX (mVar 0) (mVar 1)) (mC (.int 0))) (mCons (mOp fIxX (mOp fIxX (mVar 0) (mVar 1)) (mC (.int 1))) mNil))) (mSeq (mWhile 50000 (mB (mOp (fEq true) (mVar 4) (mVar 1))) (mPar 3 4 (mCons (mOp fAdd (mVar 3) (mOp fIxX (mOp fIxX (mVar 0) (mVar 4)) (mC (.int 0)))) (mCons (mOp fIxX (mOp fIxX (mVar 0) (mVar 4)) (mC (.int 1))) mNil)))) (mRet (mTup (mCons (mVar 1) (mCons (mVar 3) mNil)))))))
def m__ring_behind : MF := mFn 5 mb__ring_behind
abbrev s__lift : Stmt := topS 44
theorem sc__lift : FnScope ["reader", "heights", "chosen", "rate", "least", "raised", "place", "move", "height"] ["reader", "heights", "chosen", "rate", "least"] (defScope s__lift) := ⟨rfl, rfl, rfl, by decide +kernel, rfl, by decide +kernel, by decide +kernel⟩
def mb__lift : MS := (mSeq (mAsg (mC .non) (mName 5)) (mSeq (mFor (mAnyI (mCB fListY (mCons (mVar 1) mNil))) (mName 6) (mFor (mAnyI (mMethU 0 2 m_Reader_moves (mVar 0) (mCons (mVar 6) mNil))) (mName 7) (mSeq (mAsg (mOp fAdd (mOp fIxX (mVar 1) (mOp fIxX (mVar 7) (mC (.int 1)))) (mCallT 3 m_weight (mCons (mVar 3) (mCons (mOp fIxX (mVar 7) (mC (.int 2))) (mCons (mVar 4) mNil))))) (mName 8)) (mIfS (mB (mOp (fCmp fun i j => decide (j < i)) (mVar 8) (mOp fIxX (mVar 1) (mVar 6)))) (mSeq (mAsg (mVar 8) (mGSub fSetX (mVar 1) (mVar 6))) (mSeq (mAsg (mVar 7) (mGSub fSetX (mVar 2) (mVar 6))) (mAsg (mVar 6) (mName 5)))) mNext)))) (mRet (mVar 5))))
def m__lift : MF := mFn 9 mb__lift
abbrev s__climb : Stmt := topS 45
theorem sc__climb : FnScope ["reader", "places", "rate", "least", "heights", "chosen", "raised", "_", "place"] ["reader", "places", "rate", "least"] (defScope s__climb) := ⟨rfl, rfl, rfl, by decide +kernel, rfl, by decide +kernel, by decide +kernel⟩
def mb__climb : MS := (mSeq (mAsg (mDcM (mAnyI (mVar 1)) (mName 8) mYes (mVar 8) (mC (.int 0)) [8]) (mName 4)) (mSeq (mAsg mNewM (mName 5)) (mSeq (mAsg (mC .non) (mName 6)) (mSeq (mFor (mAnyI (mVar 1)) (mName 7) (mSeq (mAsg (mCallT 5 m__lift (mCons (mVar 0) (mCons (mVar 4) (mCons (mVar 5) (mCons (mVar 2) (mCons (mVar 3) mNil)))))) (mName 6)) (mIfS (mB (mOp (fIsN false) (mVar 6) (mC .non))) mBk mNext))) (mRet (mTup (mCons (mVar 4) (mCons (mVar 5) (mCons (mVar 6) mNil)))))))))
def m__climb : MF := mFn 9 mb__climb
abbrev s_best_ring : Stmt := topS 46
theorem sc_best_ring : FnScope ["reader", "least", "places", "chosen", "raised", "rate", "place", "ring", "heights"] ["reader", "least"] (defScope s_best_ring) := ⟨rfl, rfl, rfl, by decide +kernel, rfl, by decide +kernel, by decide +kernel⟩
def mb_best_ring : MS := (mSeq (mAsg (mCB fListY (mCons (mMethU 0 1 m_Reader_reached (mVar 0) mNil) mNil)) (mName 2)) (mSeq (mAsg (mDc (mAnyI (mVar 2)) (mName 6) mYes (mVar 6) (mOp fIxX (mMethU 0 2 m_Reader_moves (mVar 0) (mCons (mVar 6) mNil)) (mC (.int 0))) [6]) (mName 3)) (mSeq (mAsg (mMethU 0 1 m_Reader_first (mVar 0) mNil) (mName 4)) (mSeq (mAsg (mTup (mCons (mC .non) (mCons (mC .non) (mCons (mC (.str [])) (mCons mNewV mNil))))) (mGTup 4 (mGCons (mName 5) (mGCons (mName 6) (mGCons (mName 7) (mGCons (mName 8) mGNil)))))) (mSeq (mWhile 50000 (mB (mOp (fIsN true) (mVar 4) (mC .non))) (mSeq (mAsg (mCallT 2 m__ring_behind (mCons (mVar 3) (mCons (mVar 4) mNil))) (mGTup 2 (mGCons (mName 6) (mGCons (mName 7) mGNil)))) (mSeq (mAsg (mCallT 3 m_rate_of (mCons (mVar 0) (mCons (mVar 6) (mCons (mVar 7) mNil)))) (mName 5)) (mAsg (mCallT 4 m__climb (mCons (mVar 0) (mCons (mVar 2) (mCons (mVar 5) (mCons (mVar 1) mNil))))) (mGTup 3 (mGCons (mName 8) (mGCons (mName 3) (mGCons (mName 4) mGNil)))))))) (mRet (mTup (mCons (mVar 5) (mCons (mVar 6) (mCons (mVar 7) (mCons (mVar 8) mNil)))))))))))
def m_best_ring : MF := mFn 9 mb_best_ring
abbrev s_swell : Stmt := topS 51
theorem sc_swell : FnScope ["way", "kind", "least", "reader", "rate", "place", "ring", "heights"] ["way", "kind", "least"] (defScope s_swell) := ⟨rfl, rfl, rfl, by decide +kernel, rfl, by decide +kernel, by decide +kernel⟩
def mb_swell : MS := (mSeq (mDrop (mCallT 3 m__check_rates (mCons (mVar 0) (mCons (mVar 1) (mCons (mVar 2) mNil))))) (mSeq (mAsg (mMakeS 0 4 3 m_Reader_init (mCons (mVar 0) (mCons (mVar 1) mNil))) (mName 3)) (mSeq (mAsg (mCallT 2 m_best_ring (mCons (mVar 3) (mCons (mVar 2) mNil))) (mGTup 4 (mGCons (mName 4) (mGCons (mName 5) (mGCons (mName 6) (mGCons (mName 7) mGNil)))))) (mRet (mMakeS 1 4 5 m_Swelling_init (mCons (mVar 4) (mCons (mOp fIxX (mMethU 0 1 m_Reader_reached (mVar 3) mNil) (mVar 5)) (mCons (mVar 6) (mCons (mVar 7) mNil)))))))))
def m_swell : MF := mFn 8 mb_swell
abbrev s_greatest_rate : Stmt := topS 52
theorem sc_greatest_rate : FnScope ["way", "kind"] ["way", "kind"] (defScope s_greatest_rate) := ⟨rfl, rfl, rfl, by decide +kernel, rfl, by decide +kernel, by decide +kernel⟩
def mb_greatest_rate : MS := (mRet (mFld [(1, 0)] (mCallT 3 m_swell (mCat 2 (mCons (mVar 0) (mCons (mVar 1) mNil)) (mK1 (.bl false))))))
def m_greatest_rate : MF := mFn 2 mb_greatest_rate
abbrev s_least_rate : Stmt := topS 53
theorem sc_least_rate : FnScope ["way", "kind"] ["way", "kind"] (defScope s_least_rate) := ⟨rfl, rfl, rfl, by decide +kernel, rfl, by decide +kernel, by decide +kernel⟩
def mb_least_rate : MS := (mRet (mFld [(1, 0)] (mCallT 3 m_swell (mCatN 2 1 (mCons (mVar 0) (mCons (mVar 1) mNil)) (mCons (mC (.bl true)) mNil)))))
def m_least_rate : MF := mFn 2 mb_least_rate
abbrev s__law_rates_right : Stmt := topS 78
theorem sc__law_rates_right : FnScope ["rows", "way", "kind", "most", "few", "place", "plain", "odd", "heights", "one"] [] (defScope s__law_rates_right) := ⟨rfl, rfl, rfl, by decide +kernel, rfl, by decide +kernel, by decide +kernel⟩
def mb__law_rates_right : MS := (mSeq (mAsg (mLst (mCons (mTup (mCons (mTup (mCons (mC (.str [97, 108, 108])) mNil)) (mCons (mC (.str [97, 110, 121])) (mCons (mTup (mCons (mC (.int 2)) (mCons (mC (.int 1)) mNil))) (mCons (mTup (mCons (mC (.int 1)) (mCons (mC (.int 1)) mNil))) mNil))))) (mCons (mTup (mCons (mTup (mCons (mC (.str [97, 108, 108])) mNil)) (mCons (mC (.str [112, 97, 105, 114, 101, 100])) (mCons (mTup (mCons (mC (.int 3)) (mCons (mC (.int 2)) mNil))) (mCons (mTup (mCons (mC (.int 1)) (mCons (mC (.int 1)) mNil))) mNil))))) (mCons (mTup (mCons (mTup (mCons (mC (.str [97, 108, 108])) mNil)) (mCons (mC (.str [108, 111, 110, 101])) (mCons (mTup (mCons (mC (.int 1)) (mCons (mC (.int 1)) mNil))) (mCons (mTup (mCons (mC (.int 1)) (mCons (mC (.int 1)) mNil))) mNil))))) mNil)))) (mName 0)) (mSeq (mAsg (mOp fAdd (mVar 0) (mLst (mCons (mTup (mCons (mTup (mCons (mC (.str [112, 97, 105, 114, 115])) mNil)) (mCons (mC (.str [97, 110, 121])) (mCons (mTup (mCons (mC (.int 1)) (mCons (mC (.int 1)) mNil))) (mCons (mTup (mCons (mC (.int 1)) (mCons (mC (.int 2)) mNil))) mNil))))) (mCons (mTup (mCons (mTup (mCons (mC (.str [98, 111, 116, 104])) mNil)) (mCons (mC (.str [112, 97, 105, 114, 101, 100])) (mCons (mTup (mCons (mC (.int 1)) (mCons (mC (.int 1)) mNil))) (mCons (mTup (mCons (mC (.int 1)) (mCons (mC (.int 2)) mNil))) mNil))))) mNil)))) (mName 0)) (mSeq (mAsg (mOp fAdd (mVar 0) (mLst (mCons (mTup (mCons (mTup (mCons (mC (.str [99, 97, 114, 101])) mNil)) (mCons (mC (.str [97, 110, 121])) (mCons (mTup (mCons (mC (.int 2)) (mCons (mC (.int 1)) mNil))) (mCons (mTup (mCons (mC (.int 1)) (mCons (mC (.int 1)) mNil))) mNil))))) (mCons (mTup (mCons (mTup (mCons (mC (.str [99, 97, 114, 101])) mNil)) (mCons (mC (.str [112, 97, 105, 114, 101, 100])) (mCons (mTup (mCons (mC (.int 1)) (mCons (mC (.int 1)) mNil))) (mCons (mTup (mCons (mC (.int 1)) (mCons (mC (.int 1)) mNil))) mNil))))) (mCons (mTup (mCons (mTup mNil) (mCons (mC (.str [97, 110, 121])) (mCons (mTup (mCons (mC (.int 1)) (mCons (mC (.int 1)) mNil))) (mCons (mTup (mCons (mC (.int 1)) (mCons (mC (.int 1)) mNil))) mNil))))) mNil))))) (mName 0)) (mSeq (mAsg (mOp fAdd (mVar 0) (mLst (mCons (mTup (mCons (mTup (mCons (mC (.str [97, 108, 108])) (mCons (mC (.str [97, 108, 108])) mNil))) (mCons (mC (.str [98, 97, 114, 101])) (mCons (mTup (mCons (mC (.int 3)) (mCons (mC (.int 1)) mNil))) (mCons (mTup (mCons (mC (.int 1)) (mCons (mC (.int 1)) mNil))) mNil))))) (mCons (mTup (mCons (mTup (mCons (mC (.str [112, 97, 105, 114, 115])) (mCons (mC (.str [99, 97, 114, 101])) mNil))) (mCons (mC (.str [97, 110, 121])) (mCons (mTup (mCons (mC (.int 2)) (mCons (mC (.int 1)) mNil))) (mCons (mTup (mCons (mC (.int 2)) (mCons (mC (.int 3)) mNil))) mNil))))) mNil)))) (mName 0)) (mSeq (mAsg (mOp fAdd (mVar 0) (mLst (mCons (mTup (mCons (mTup (mCons (mC (.str [108, 111, 110, 101, 115])) mNil)) (mCons (mC (.str [97, 110, 121])) (mCons (mTup (mCons (mC (.int 1)) (mCons (mC (.int 1)) mNil))) (mCons (mTup (mCons (mC (.int 1)) (mCons (mC (.int 1)) mNil))) mNil))))) (mCons (mTup (mCons (mTup (mCons (mC (.str [98, 111, 116, 104])) (mCons (mC (.str [97, 108, 108])) mNil))) (mCons (mC (.str [108, 111, 110, 101])) (mCons (mTup (mCons (mC (.int 2)) (mCons (mC (.int 1)) mNil))) (mCons (mTup (mCons (mC (.int 1)) (mCons (mC (.int 1)) mNil))) mNil))))) mNil)))) (mName 0)) (mSeq (mFor (mAnyI (mVar 0)) (mGTup 4 (mGCons (mName 1) (mGCons (mName 2) (mGCons (mName 3) (mGCons (mName 4) mGNil))))) (mSeq (mIfS (mOr (mB (mOp (fEq true) (mCallT 2 m_greatest_rate (mCons (mVar 1) (mCons (mVar 2) mNil))) (mVar 3))) (mB (mOp (fEq true) (mCallT 2 m_least_rate (mCons (mVar 1) (mCons (mVar 2) mNil))) (mVar 4)))) (mRet (mC (.bl false))) mNext) (mIfS (mOr (mB (mOp (fEq true) (mFld [(1, 0)] (mCallT 3 m_swell (mCat 2 (mCons (mVar 1) (mCons (mVar 2) mNil)) (mK1 (.bl false))))) (mVar 3))) (mB (mOp (fEq true) (mFld [(1, 0)] (mCallT 3 m_swell (mCatN 2 1 (mCons (mVar 1) (mCons (mVar 2) mNil)) (mCons (mC (.bl true)) mNil)))) (mVar 4)))) (mRet (mC (.bl false))) mNext))) (mSeq (mAsg (mTup (mCons (mTup (mCons (mC (.bl false)) mNil)) (mCons (mC (.bl false)) mNil))) (mName 5)) (mSeq (mAsg (mMakeS 1 4 5 m_Swelling_init (mCons (mTup (mCons (mC (.int 2)) (mCons (mC (.int 1)) mNil))) (mCons (mC (.str [])) (mCons (mC (.str [110])) (mCons (mDispV (mVar 5) (mC (.int 0))) mNil))))) (mName 6)) (mSeq (mIfS (mNot (mTru (mMethY 1 4 m_Swelling_shows (mVar 6) (mCat 2 (mCons (mTup (mCons (mC (.str [97, 108, 108])) mNil)) (mCons (mC (.str [97, 110, 121])) mNil)) (mK1 (.bl false)))))) (mRet (mC (.bl false))) mNext) (mSeq (mIfS (mNot (mTru (mMethY 1 4 m_Swelling_shows (mMakeS 1 4 5 m_Swelling_init (mCons (mTup (mCons (mC (.int 2)) (mCons (mC (.int 1)) mNil))) (mCons (mC (.str [97, 114])) (mCons (mC (.str [110, 110])) (mCons (mDispV (mVar 5) (mUn fNeg (mC (.int 7)))) mNil))))) (mCat 2 (mCons (mTup (mCons (mC (.str [97, 108, 108])) mNil)) (mCons (mC (.str [97, 110, 121])) mNil)) (mK1 (.bl false)))))) (mRet (mC (.bl false))) mNext) (mSeq (mAsg (mLst (mCons (mMakeS 1 4 5 m_Swelling_init (mCons (mTup (mCons (mC (.int 4)) (mCons (mC (.int 2)) mNil))) (mCons (mC (.str [])) (mCons (mC (.str [110])) (mCons (mDispV (mVar 5) (mC (.int 0))) mNil))))) (mCons (mMakeS 1 4 5 m_Swelling_init (mCons (mTup (mCons (mC (.int 2)) (mCons (mC (.int 1)) mNil))) (mCons (mC (.str [])) (mCons (mC (.str [110, 97])) (mCons (mDispV (mVar 5) (mC (.int 0))) mNil))))) (mCons (mMakeS 1 4 5 m_Swelling_init (mCons (mTup (mCons (mC (.int 2)) (mCons (mC (.int 1)) mNil))) (mCons (mC (.str [])) (mCons (mC (.str [110])) (mCons mNewV mNil))))) mNil)))) (mName 7)) (mSeq (mAsg (mOp fAdd (mVar 7) (mLst (mCons (mMakeS 1 4 5 m_Swelling_init (mCons (mTup (mCons (mC (.int 1)) (mCons (mC (.int 1)) mNil))) (mCons (mC (.str [])) (mCons (mC (.str [97])) (mCons (mDispV (mVar 5) (mC (.int 0))) mNil))))) (mCons (mMakeS 1 4 5 m_Swelling_init (mCons (mTup (mCons (mC (.int 2)) (mCons (mC (.int 1)) mNil))) (mCons (mC (.str [])) (mCons (mC (.str [])) (mCons (mDispV (mVar 5) (mC (.int 0))) mNil))))) mNil)))) (mName 7)) (mSeq (mIfS (mOr (mTru (mCB fAny (mCons (mLc (mAnyI (mVar 7)) (mName 9) mYes (mMethY 1 4 m_Swelling_shows (mVar 9) (mCat 2 (mCons (mTup (mCons (mC (.str [97, 108, 108])) mNil)) (mCons (mC (.str [97, 110, 121])) mNil)) (mK1 (.bl false)))) [9]) mNil))) (mTru (mMethY 1 4 m_Swelling_shows (mVar 6) (mCat 2 (mCons (mTup (mCons (mC (.str [97, 108, 108])) mNil)) (mCons (mC (.str [108, 111, 110, 101])) mNil)) (mK1 (.bl false)))))) (mRet (mC (.bl false))) mNext) (mSeq (mIfS (mOr (mTru (mMethY 1 4 m_Swelling_shows (mVar 6) (mCat 2 (mCons (mTup (mCons (mC (.str [97, 108, 108])) mNil)) (mCons (mC (.str [112, 97, 105, 114, 101, 100])) mNil)) (mK1 (.bl false))))) (mTru (mMethY 1 4 m_Swelling_shows (mVar 6) (mCatN 2 1 (mCons (mTup (mCons (mC (.str [97, 108, 108])) mNil)) (mCons (mC (.str [97, 110, 121])) mNil)) (mCons (mC (.bl true)) mNil))))) (mRet (mC (.bl false))) mNext) (mSeq (mAsg (mDisp2M (mTup (mCons (mTup (mCons (mC (.bl false)) mNil)) (mCons (mC (.bl false)) mNil))) (mC (.int 0)) (mTup (mCons (mTup (mCons (mC (.bl true)) mNil)) (mCons (mC (.bl false)) mNil))) (mUn fNeg (mC (.int 1)))) (mName 8)) (mSeq (mIfS (mNot (mTru (mMethY 1 4 m_Swelling_shows (mMakeS 1 4 5 m_Swelling_init (mCons (mTup (mCons (mC (.int 1)) (mCons (mC (.int 2)) mNil))) (mCons (mC (.str [])) (mCons (mC (.str [114, 110])) (mCons (mVar 8) mNil))))) (mCatN 2 1 (mCons (mTup (mCons (mC (.str [112, 97, 105, 114, 115])) mNil)) (mCons (mC (.str [97, 110, 121])) mNil)) (mCons (mC (.bl true)) mNil))))) (mRet (mC (.bl false))) mNext) (mSeq (mAsg (mC (.int 1)) (mGSub fSetX (mVar 8) (mTup (mCons (mTup (mCons (mC (.bl true)) mNil)) (mCons (mC (.bl false)) mNil))))) (mSeq (mIfS (mTru (mMethY 1 4 m_Swelling_shows (mMakeS 1 4 5 m_Swelling_init (mCons (mTup (mCons (mC (.int 1)) (mCons (mC (.int 2)) mNil))) (mCons (mC (.str [])) (mCons (mC (.str [114, 110])) (mCons (mVar 8) mNil))))) (mCatN 2 1 (mCons (mTup (mCons (mC (.str [112, 97, 105, 114, 115])) mNil)) (mCons (mC (.str [97, 110, 121])) mNil)) (mCons (mC (.bl true)) mNil)))) (mRet (mC (.bl false))) mNext) (mRet (mNotV (mMethY 1 4 m_Swelling_shows (mMakeS 1 4 5 m_Swelling_init (mCons (mTup (mCons (mC (.int 1)) (mCons (mC (.int 1)) mNil))) (mCons (mC (.str [])) (mCons (mC (.str [114, 110])) (mCons (mVar 8) mNil))))) (mCatN 2 1 (mCons (mTup (mCons (mC (.str [112, 97, 105, 114, 115])) mNil)) (mCons (mC (.str [97, 110, 121])) mNil)) (mCons (mC (.bl true)) mNil)))))))))))))))))))))))
def m__law_rates_right : MF := mFn 10 mb__law_rates_right
abbrev s__is_short : Stmt := topS 68
theorem sc__is_short : FnScope ["text"] ["text"] (defScope s__is_short) := ⟨rfl, rfl, rfl, by decide +kernel, rfl, by decide +kernel, by decide +kernel⟩
def mb__is_short : MS := (mRet (mAndV (mCallT 1 m_is_text (mCons (mVar 0) mNil)) (mOp (fCmp fun i j => decide (i ≤ j)) (mCB fLen (mCons (mVar 0) mNil)) (mC (.int 12)))))
def m__is_short : MF := mFn 1 mb__is_short
abbrev s__check_short : Stmt := topS 69
theorem sc__check_short : FnScope ["text"] ["text"] (defScope s__check_short) := ⟨rfl, rfl, rfl, by decide +kernel, rfl, by decide +kernel, by decide +kernel⟩
def mb__check_short : MS := (mIfS (mNot (mTru (mCallT 1 m__is_short (mCons (mVar 0) mNil)))) mBad mNext)
def m__check_short : MF := mFn 1 mb__check_short
abbrev s__check_fitting : Stmt := topS 70
theorem sc__check_fitting : FnScope ["way", "kind", "text", "wanted"] ["way", "kind", "text", "wanted"] (defScope s__check_fitting) := ⟨rfl, rfl, rfl, by decide +kernel, rfl, by decide +kernel, by decide +kernel⟩
def mb__check_fitting : MS := (mSeq (mDrop (mCallT 1 m_check_way (mCons (mVar 0) mNil))) (mSeq (mDrop (mCallT 1 m_check_kind (mCons (mVar 1) mNil))) (mSeq (mDrop (mCallT 1 m__check_short (mCons (mVar 2) mNil))) (mIfS (mNot (mTru (mCallT 1 m__is_short (mCons (mVar 3) mNil)))) mBad mNext))))
def m__check_fitting : MF := mFn 4 mb__check_fitting
abbrev s_AimWalk_steps : Stmt := inClass (topS 55) 2
theorem sc_AimWalk_steps : FnScope ["self", "node", "place", "done", "sign", "behind", "given"] ["self", "node"] (defScope s_AimWalk_steps) := ⟨rfl, rfl, rfl, by decide +kernel, rfl, by decide +kernel, by decide +kernel⟩
def mb_AimWalk_steps : MS := (mSeq (mAsg (mVar 1) (mGTup 2 (mGCons (mName 2) (mGCons (mName 3) mGNil)))) (mRet (mLc (mAnyI (mMethU 0 2 m_Reader_moves (mFld [(2, 0)] (mVar 0)) (mCons (mVar 2) mNil))) (mGTup 3 (mGCons (mName 4) (mGCons (mName 5) (mGCons (mName 6) mGNil)))) (mTru (mStw (mFld [(2, 1)] (mVar 0)) (mVar 6) (mVar 3))) (mTup (mCons (mTup (mCons (mVar 5) (mCons (mOp fAdd (mVar 3) (mCB fLen (mCons (mVar 6) mNil))) mNil))) (mCons (mC (.int 1)) (mCons (mVar 4) mNil)))) [4, 5, 6])))
def m_AimWalk_steps : MF := mFn 7 mb_AimWalk_steps
abbrev s_ChangeWalk_steps : Stmt := inClass (topS 58) 2
theorem sc_ChangeWalk_steps : FnScope ["self", "node", "at", "place", "done", "fine", "found", "behind", "done_behind", "_", "sign"] ["self", "node"] (defScope s_ChangeWalk_steps) := ⟨rfl, rfl, rfl, by decide +kernel, rfl, by decide +kernel, by decide +kernel⟩
def mb_ChangeWalk_steps : MS := (mSeq (mAsg (mVar 1) (mGTup 3 (mGCons (mName 2) (mGCons (mName 3) (mGCons (mName 4) mGNil))))) (mSeq (mAsg (mMethU 2 2 m_AimWalk_steps (mFld [(3, 0)] (mVar 0)) (mCons (mTup (mCons (mVar 3) (mCons (mVar 4) mNil))) mNil)) (mName 5)) (mSeq (mAsg (mLcM (mAnyI (mVar 5)) (mGTup 3 (mGCons (mGTup 2 (mGCons (mName 7) (mGCons (mName 8) mGNil))) (mGCons (mName 9) (mGCons (mName 10) mGNil)))) mYes (mTup (mCons (mTup (mCons (mVar 2) (mCons (mVar 7) (mCons (mVar 8) mNil)))) (mCons (mC (.int 1)) (mCons (mVar 10) mNil)))) [9, 10, 7, 8]) (mName 6)) (mSeq (mIfS (mB (mOp (fCmp fun i j => decide (i < j)) (mVar 2) (mCB fLen (mCons (mFld [(3, 1), (4, 0)] (mVar 0)) mNil)))) (mSeq (mDrop (mApp (mVar 6) (mTup (mCons (mTup (mCons (mOp fAdd (mVar 2) (mC (.int 1))) (mCons (mVar 3) (mCons (mVar 4) mNil)))) (mCons (mC (.int 1)) (mCons (mC (.str [])) mNil)))))) (mFor (mAnyI (mVar 5)) (mGTup 3 (mGCons (mGTup 2 (mGCons (mName 7) (mGCons (mName 8) mGNil))) (mGCons (mName 9) (mGCons (mName 10) mGNil)))) (mDrop (mApp (mVar 6) (mTup (mCons (mTup (mCons (mOp fAdd (mVar 2) (mC (.int 1))) (mCons (mVar 7) (mCons (mVar 8) mNil)))) (mCons (mIf (mB (mOp (fEq false) (mVar 10) (mOp fIxX (mFld [(3, 1), (4, 0)] (mVar 0)) (mVar 2)))) (mC (.int 0)) (mC (.int 1))) (mCons (mVar 10) mNil)))))))) mNext) (mRet (mVar 6))))))
def m_ChangeWalk_steps : MF := mFn 11 mb_ChangeWalk_steps
abbrev s_AimWalk_first : Stmt := inClass (topS 55) 1
theorem sc_AimWalk_first : FnScope ["self"] ["self"] (defScope s_AimWalk_first) := ⟨rfl, rfl, rfl, by decide +kernel, rfl, by decide +kernel, by decide +kernel⟩
def mb_AimWalk_first : MS := (mRet (mTup (mCons (mMethU 0 1 m_Reader_first (mFld [(2, 0)] (mVar 0)) mNil) (mCons (mC (.int 0)) mNil))))
def m_AimWalk_first : MF := mFn 1 mb_AimWalk_first
abbrev s_ChangeWalk_first : Stmt := inClass (topS 58) 1
theorem sc_ChangeWalk_first : FnScope ["self", "place", "done"] ["self"] (defScope s_ChangeWalk_first) := ⟨rfl, rfl, rfl, by decide +kernel, rfl, by decide +kernel, by decide +kernel⟩
def mb_ChangeWalk_first : MS := (mSeq (mAsg (mMethU 2 1 m_AimWalk_first (mFld [(3, 0)] (mVar 0)) mNil) (mGTup 2 (mGCons (mName 1) (mGCons (mName 2) mGNil)))) (mRet (mTup (mCons (mC (.int 0)) (mCons (mVar 1) (mCons (mVar 2) mNil))))))
def m_ChangeWalk_first : MF := mFn 3 mb_ChangeWalk_first
abbrev s_AimWalk_is_end : Stmt := inClass (topS 55) 5
theorem sc_AimWalk_is_end : FnScope ["self", "node", "place", "done", "end"] ["self", "node"] (defScope s_AimWalk_is_end) := ⟨rfl, rfl, rfl, by decide +kernel, rfl, by decide +kernel, by decide +kernel⟩
def mb_AimWalk_is_end : MS := (mSeq (mAsg (mVar 1) (mGTup 2 (mGCons (mName 2) (mGCons (mName 3) mGNil)))) (mSeq (mAsg (mMethU 0 2 m_Reader_end (mFld [(2, 0)] (mVar 0)) (mCons (mVar 2) mNil)) (mName 4)) (mRet (mAndV (mOp (fIsN true) (mVar 4) (mC .non)) (mAndV (mOp (fEq false) (mOp fAdd (mVar 3) (mCB fLen (mCons (mVar 4) mNil))) (mCB fLen (mCons (mFld [(2, 1)] (mVar 0)) mNil))) (mM1 fEnds (mFld [(2, 1)] (mVar 0)) (mVar 4)))))))
def m_AimWalk_is_end : MF := mFn 5 mb_AimWalk_is_end
abbrev s_ChangeWalk_is_end : Stmt := inClass (topS 58) 3
theorem sc_ChangeWalk_is_end : FnScope ["self", "node", "at", "place", "done"] ["self", "node"] (defScope s_ChangeWalk_is_end) := ⟨rfl, rfl, rfl, by decide +kernel, rfl, by decide +kernel, by decide +kernel⟩
def mb_ChangeWalk_is_end : MS := (mSeq (mAsg (mVar 1) (mGTup 3 (mGCons (mName 2) (mGCons (mName 3) (mGCons (mName 4) mGNil))))) (mRet (mAndV (mOp (fEq false) (mVar 2) (mCB fLen (mCons (mFld [(3, 1), (4, 0)] (mVar 0)) mNil))) (mMethU 2 2 m_AimWalk_is_end (mFld [(3, 0)] (mVar 0)) (mCons (mTup (mCons (mVar 3) (mCons (mVar 4) mNil))) mNil)))))
def m_ChangeWalk_is_end : MF := mFn 5 mb_ChangeWalk_is_end
abbrev s_is_within : Stmt := topS 3
theorem sc_is_within : FnScope ["number", "low", "high"] ["number", "low", "high"] (defScope s_is_within) := ⟨rfl, rfl, rfl, by decide +kernel, rfl, by decide +kernel, by decide +kernel⟩
def mb_is_within : MS := (mRet (mAndV (mCallT 1 m_is_integer (mCons (mVar 0) mNil)) (mChain (fCmp fun i j => decide (i ≤ j)) (fCmp fun i j => decide (i ≤ j)) (mVar 1) (mVar 0) (mVar 2))))
def m_is_within : MF := mFn 3 mb_is_within
abbrev s_AimWalk_is_node : Stmt := inClass (topS 55) 7
theorem sc_AimWalk_is_node : FnScope ["self", "node"] ["self", "node"] (defScope s_AimWalk_is_node) := ⟨rfl, rfl, rfl, by decide +kernel, rfl, by decide +kernel, by decide +kernel⟩
def mb_AimWalk_is_node : MS := (mSeq (mIfS (mOr (mNot (mTru (mIsi (tbTy "tuple") (mVar 1)))) (mB (mOp (fEq true) (mCB fLen (mCons (mVar 1) mNil)) (mC (.int 2))))) (mRet (mC (.bl false))) mNext) (mRet (mAndV (mCallT 2 m_is_place (mCons (mFld [(0, 0)] (mFld [(2, 0)] (mVar 0))) (mCons (mOp fIxX (mVar 1) (mC (.int 0))) mNil))) (mCallT 3 m_is_within (mCons (mOp fIxX (mVar 1) (mC (.int 1))) (mCons (mC (.int 0)) (mCons (mCB fLen (mCons (mFld [(2, 1)] (mVar 0)) mNil)) mNil)))))))
def m_AimWalk_is_node : MF := mFn 2 mb_AimWalk_is_node
abbrev s_ChangeWalk_is_node : Stmt := inClass (topS 58) 4
theorem sc_ChangeWalk_is_node : FnScope ["self", "node"] ["self", "node"] (defScope s_ChangeWalk_is_node) := ⟨rfl, rfl, rfl, by decide +kernel, rfl, by decide +kernel, by decide +kernel⟩
def mb_ChangeWalk_is_node : MS := (mSeq (mIfS (mOr (mNot (mTru (mIsi (tbTy "tuple") (mVar 1)))) (mB (mOp (fEq true) (mCB fLen (mCons (mVar 1) mNil)) (mC (.int 3))))) (mRet (mC (.bl false))) mNext) (mRet (mAndV (mCallT 3 m_is_within (mCons (mOp fIxX (mVar 1) (mC (.int 0))) (mCons (mC (.int 0)) (mCons (mCB fLen (mCons (mFld [(3, 1), (4, 0)] (mVar 0)) mNil)) mNil)))) (mMethU 2 2 m_AimWalk_is_node (mFld [(3, 0)] (mVar 0)) (mCons (mSl (mVar 1) (mPart (mC (.int 1))) mNoP) mNil)))))
def m_ChangeWalk_is_node : MF := mFn 2 mb_ChangeWalk_is_node
abbrev s_are_floors : Stmt := topS 60
theorem sc_are_floors : FnScope ["walk", "floors", "total", "node", "behind", "cost", "_"] ["walk", "floors", "total"] (defScope s_are_floors) := ⟨rfl, rfl, rfl, by decide +kernel, rfl, by decide +kernel, by decide +kernel⟩
def mb_are_floors : MS := (mSeq (mIfS (mNot (mTru (mCB fAll (mCons (mLc (mAnyI (mVar 1)) (mName 3) mYes (mAndV (mMethU 3 2 m_ChangeWalk_is_node (mVar 0) (mCons (mVar 3) mNil)) (mAndV (mCallT 1 m_is_integer (mCons (mOp fIxX (mVar 1) (mVar 3)) mNil)) (mOp (fCmp fun i j => decide (j ≤ i)) (mOp fIxX (mVar 1) (mVar 3)) (mC (.int 0))))) [3]) mNil)))) (mRet (mC (.bl false))) mNext) (mSeq (mIfS (mOr (mB (mOp (fInY true) (mMethU 3 1 m_ChangeWalk_first (mVar 0) mNil) (mVar 1))) (mB (mOp (fEq true) (mOp fIxX (mVar 1) (mMethU 3 1 m_ChangeWalk_first (mVar 0) mNil)) (mVar 2)))) (mRet (mC (.bl false))) mNext) (mSeq (mFor (mAnyI (mVar 1)) (mName 3) (mSeq (mIfS (mAnd (mTru (mMethU 3 2 m_ChangeWalk_is_end (mVar 0) (mCons (mVar 3) mNil))) (mB (mOp (fEq true) (mOp fIxX (mVar 1) (mVar 3)) (mC (.int 0))))) (mRet (mC (.bl false))) mNext) (mFor (mAnyI (mMethU 3 2 m_ChangeWalk_steps (mVar 0) (mCons (mVar 3) mNil))) (mGTup 3 (mGCons (mName 4) (mGCons (mName 5) (mGCons (mName 6) mGNil)))) (mIfS (mOr (mB (mOp (fInY true) (mVar 4) (mVar 1))) (mB (mOp (fCmp fun i j => decide (i < j)) (mOp fAdd (mOp fIxX (mVar 1) (mVar 4)) (mVar 5)) (mOp fIxX (mVar 1) (mVar 3))))) (mRet (mC (.bl false))) mNext)))) (mRet (mC (.bl true))))))
def m_are_floors : MF := mFn 7 mb_are_floors
abbrev s_AimWalk_init : Stmt := inClass (topS 55) 0
theorem sc_AimWalk_init : FnScope ["self", "way", "kind", "wanted"] ["self", "way", "kind", "wanted"] (defScope s_AimWalk_init) := ⟨rfl, rfl, rfl, by decide +kernel, rfl, by decide +kernel, by decide +kernel⟩
def mb_AimWalk_init : MS := (mSeq (mFldSet [(2, 0)] (mVar 0) (mMakeS 0 4 3 m_Reader_init (mCons (mVar 1) (mCons (mVar 2) mNil)))) (mFldSet [(2, 1)] (mVar 0) (mVar 3)))
def m_AimWalk_init : MF := mFn 4 mb_AimWalk_init
abbrev s_AimWalk_signs : Stmt := inClass (topS 55) 3
theorem sc_AimWalk_signs : FnScope ["self", "node", "_", "sign"] ["self", "node"] (defScope s_AimWalk_signs) := ⟨rfl, rfl, rfl, by decide +kernel, rfl, by decide +kernel, by decide +kernel⟩
def mb_AimWalk_signs : MS := (mRet (mLc (mAnyI (mMethU 2 2 m_AimWalk_steps (mVar 0) (mCons (mVar 1) mNil))) (mGTup 3 (mGCons (mName 2) (mGCons (mName 2) (mGCons (mName 3) mGNil)))) mYes (mVar 3) [2, 3]))
def m_AimWalk_signs : MF := mFn 4 mb_AimWalk_signs
abbrev s_AimWalk_behind : Stmt := inClass (topS 55) 4
theorem sc_AimWalk_behind : FnScope ["self", "node", "sign", "behind", "_", "word"] ["self", "node", "sign"] (defScope s_AimWalk_behind) := ⟨rfl, rfl, rfl, by decide +kernel, rfl, by decide +kernel, by decide +kernel⟩
def mb_AimWalk_behind : MS := (mRet (mDcIx (mAnyI (mMethU 2 2 m_AimWalk_steps (mVar 0) (mCons (mVar 1) mNil))) (mGTup 3 (mGCons (mName 3) (mGCons (mName 4) (mGCons (mName 5) mGNil)))) mYes (mVar 5) (mVar 3) [3, 4, 5] (mVar 2)))
def m_AimWalk_behind : MF := mFn 6 mb_AimWalk_behind
abbrev s_AimWalk_is_fine : Stmt := inClass (topS 55) 6
theorem sc_AimWalk_is_fine : FnScope ["self", "node"] ["self", "node"] (defScope s_AimWalk_is_fine) := ⟨rfl, rfl, rfl, by decide +kernel, rfl, by decide +kernel, by decide +kernel⟩
def mb_AimWalk_is_fine : MS := (mRet (mNotV (mMethU 2 2 m_AimWalk_is_end (mVar 0) (mCons (mVar 1) mNil))))
def m_AimWalk_is_fine : MF := mFn 2 mb_AimWalk_is_fine
abbrev s_ChangeWalk_init : Stmt := inClass (topS 58) 0
theorem sc_ChangeWalk_init : FnScope ["self", "way", "kind", "text", "wanted"] ["self", "way", "kind", "text", "wanted"] (defScope s_ChangeWalk_init) := ⟨rfl, rfl, rfl, by decide +kernel, rfl, by decide +kernel, by decide +kernel⟩
def mb_ChangeWalk_init : MS := (mSeq (mFldSet [(3, 0)] (mVar 0) (mMakeS 2 2 4 m_AimWalk_init (mCons (mVar 1) (mCons (mVar 2) (mCons (mVar 4) mNil))))) (mFldSet [(3, 1), (4, 0)] (mVar 0) (mVar 3)))
def m_ChangeWalk_init : MF := mFn 5 mb_ChangeWalk_init
abbrev s_distance_between : Stmt := topS 57
theorem sc_distance_between : FnScope ["text", "other", "row", "k", "sign", "ahead", "m", "other_sign", "same"] ["text", "other"] (defScope s_distance_between) := ⟨rfl, rfl, rfl, by decide +kernel, rfl, by decide +kernel, by decide +kernel⟩
def mb_distance_between : MS := (mSeq (mAsg (mLstRg (mOp fAdd (mCB fLen (mCons (mVar 1) mNil)) (mC (.int 1)))) (mName 2)) (mSeq (mFor (mEnumX (mCons (mVar 0) mNil)) (mGTup 2 (mGCons (mName 3) (mGCons (mName 4) mGNil))) (mSeq (mAsg (mVar 2) (mName 5)) (mSeq (mAsg (mLstM (mCons (mOp fAdd (mVar 3) (mC (.int 1))) mNil)) (mName 2)) (mFor (mEnumX (mCons (mVar 1) mNil)) (mGTup 2 (mGCons (mName 6) (mGCons (mName 7) mGNil))) (mSeq (mAsg (mIf (mB (mOp (fEq false) (mVar 4) (mVar 7))) (mOp fIxX (mVar 5) (mVar 6)) (mOp fAdd (mOp fIxX (mVar 5) (mVar 6)) (mC (.int 1)))) (mName 8)) (mDrop (mApp (mVar 2) (mCB fMin3 (mCons (mVar 8) (mCons (mOp fAdd (mOp fIxX (mVar 5) (mOp fAdd (mVar 6) (mC (.int 1)))) (mC (.int 1))) (mCons (mOp fAdd (mOp fIxX (mVar 2) (mVar 6)) (mC (.int 1))) mNil))))))))))) (mRet (mOp fIxX (mVar 2) (mUn fNeg (mC (.int 1)))))))
def m_distance_between : MF := mFn 9 mb_distance_between
abbrev s_fits : Stmt := topS 17
theorem sc_fits : FnScope ["text", "kind"] ["text", "kind"] (defScope s_fits) := ⟨rfl, rfl, rfl, by decide +kernel, rfl, by decide +kernel, by decide +kernel⟩
def mb_fits : MS := (mSeq (mIfS (mB (mOp (fEq false) (mVar 1) (mC (.str [98, 97, 114, 101])))) (mRet (mOp (fInY true) (mC (.str [114])) (mVar 0))) mNext) (mSeq (mIfS (mB (mOp (fEq false) (mVar 1) (mC (.str [108, 111, 110, 101])))) (mRet (mOp (fInY true) (mC (.str [110])) (mVar 0))) mNext) (mSeq (mIfS (mB (mOp (fEq false) (mVar 1) (mC (.str [112, 97, 105, 114, 101, 100])))) (mRet (mChain (fEq false) (fEq false) (mM1 fCount (mVar 0) (mC (.str [114]))) (mM1 fCount (mVar 0) (mC (.str [110]))) (mM1 fCount (mVar 0) (mC (.str [114, 110]))))) mNext) (mRet (mC (.bl true))))))
def m_fits : MF := mFn 2 mb_fits
abbrev s_turn : Stmt := topS 30
theorem sc_turn : FnScope ["way", "text", "word", "old", "new"] ["way", "text"] (defScope s_turn) := ⟨rfl, rfl, rfl, by decide +kernel, rfl, by decide +kernel, by decide +kernel⟩
def mb_turn : MS := (mSeq (mFor (mAnyI (mVar 0)) (mName 2) (mRepl rt__REPLACED 2 3 4 1)) (mRet (mVar 1)))
def m_turn : MF := mFn 5 mb_turn
abbrev s_Fitted_shows : Stmt := inClass (topS 72) 2
theorem sc_Fitted_shows : FnScope ["self", "way", "kind", "text", "wanted"] ["self", "way", "kind", "text", "wanted"] (defScope s_Fitted_shows) := ⟨rfl, rfl, rfl, by decide +kernel, rfl, by decide +kernel, by decide +kernel⟩
def mb_Fitted_shows : MS := (mSeq (mDrop (mCallT 4 m__check_fitting (mCons (mVar 1) (mCons (mVar 2) (mCons (mVar 3) (mCons (mVar 4) mNil)))))) (mSeq (mIfS (mOr (mNot (mTru (mCallT 1 m_is_text (mCons (mFld [(3, 1), (4, 0)] (mVar 0)) mNil)))) (mOr (mNot (mTru (mCallT 2 m_fits (mCons (mFld [(3, 1), (4, 0)] (mVar 0)) (mCons (mVar 2) mNil))))) (mB (mOp (fEq true) (mCallT 2 m_turn (mCons (mVar 1) (mCons (mFld [(3, 1), (4, 0)] (mVar 0)) mNil))) (mVar 4))))) (mRet (mC (.bl false))) mNext) (mRet (mCallT 3 m_are_floors (mCons (mMakeS 3 2 5 m_ChangeWalk_init (mCons (mVar 1) (mCons (mVar 2) (mCons (mVar 3) (mCons (mVar 4) mNil))))) (mCons (mFld [(4, 1)] (mVar 0)) (mCons (mCallT 2 m_distance_between (mCons (mVar 3) (mCons (mFld [(3, 1), (4, 0)] (mVar 0)) mNil))) mNil)))))))
def m_Fitted_shows : MF := mFn 5 mb_Fitted_shows
abbrev s_is_closed : Stmt := topS 63
theorem sc_is_closed : FnScope ["walk", "nodes", "found", "node", "sign"] ["walk", "nodes"] (defScope s_is_closed) := ⟨rfl, rfl, rfl, by decide +kernel, rfl, by decide +kernel, by decide +kernel⟩
def mb_is_closed : MS := (mSeq (mIfS (mNot (mTru (mCB fAll (mCons (mLc (mAnyI (mVar 1)) (mName 3) mYes (mMethU 2 2 m_AimWalk_is_node (mVar 0) (mCons (mVar 3) mNil)) [3]) mNil)))) (mRet (mC (.bl false))) mNext) (mSeq (mAsg (mDc (mAnyI (mVar 1)) (mName 3) mYes (mVar 3) (mC (.bl true)) [3]) (mName 2)) (mSeq (mIfS (mB (mOp (fInY true) (mMethU 2 1 m_AimWalk_first (mVar 0) mNil) (mVar 2))) (mRet (mC (.bl false))) mNext) (mSeq (mFor (mAnyI (mVar 2)) (mName 3) (mSeq (mIfS (mNot (mTru (mMethU 2 2 m_AimWalk_is_fine (mVar 0) (mCons (mVar 3) mNil)))) (mRet (mC (.bl false))) mNext) (mFor (mAnyI (mMethU 2 2 m_AimWalk_signs (mVar 0) (mCons (mVar 3) mNil))) (mName 4) (mIfS (mB (mOp (fInY true) (mMethU 2 3 m_AimWalk_behind (mVar 0) (mCons (mVar 3) (mCons (mVar 4) mNil))) (mVar 2))) (mRet (mC (.bl false))) mNext)))) (mRet (mC (.bl true)))))))
def m_is_closed : MF := mFn 5 mb_is_closed
abbrev s_Unfit_shows : Stmt := inClass (topS 73) 2
theorem sc_Unfit_shows : FnScope ["self", "way", "kind", "text", "wanted"] ["self", "way", "kind", "text", "wanted"] (defScope s_Unfit_shows) := ⟨rfl, rfl, rfl, by decide +kernel, rfl, by decide +kernel, by decide +kernel⟩
def mb_Unfit_shows : MS := (mSeq (mDrop (mCallT 4 m__check_fitting (mCons (mVar 1) (mCons (mVar 2) (mCons (mVar 3) (mCons (mVar 4) mNil)))))) (mRet (mCallT 2 m_is_closed (mCons (mMakeS 2 2 4 m_AimWalk_init (mCons (mVar 1) (mCons (mVar 2) (mCons (mVar 4) mNil)))) (mCons (mFld [(5, 0)] (mVar 0)) mNil)))))
def m_Unfit_shows : MF := mFn 5 mb_Unfit_shows
abbrev s__steps_ahead : Stmt := topS 64
theorem sc__steps_ahead : FnScope ["walk", "found", "waiting", "node", "behind", "cost", "_"] ["walk"] (defScope s__steps_ahead) := ⟨rfl, rfl, rfl, by decide +kernel, rfl, by decide +kernel, by decide +kernel⟩
def mb__steps_ahead : MS := (mSeq (mAsg (mDispM (mMethU 3 1 m_ChangeWalk_first (mVar 0) mNil) (mLstM mNil)) (mName 1)) (mSeq (mAsg (mLstM (mCons (mMethU 3 1 m_ChangeWalk_first (mVar 0) mNil) mNil)) (mName 2)) (mSeq (mWhile 50000 (mTru (mVar 2)) (mSeq (mAsg (mPop (mVar 2)) (mName 3)) (mFor (mAnyI (mMethU 3 2 m_ChangeWalk_steps (mVar 0) (mCons (mVar 3) mNil))) (mGTup 3 (mGCons (mName 4) (mGCons (mName 5) (mGCons (mName 6) mGNil)))) (mSeq (mIfS (mB (mOp (fInY true) (mVar 4) (mVar 1))) (mSeq (mAsg (mLstM mNil) (mGSub fSetX (mVar 1) (mVar 4))) (mDrop (mApp (mVar 2) (mVar 4)))) mNext) (mDrop (mApp (mOp fIxX (mVar 1) (mVar 4)) (mTup (mCons (mVar 3) (mCons (mVar 5) mNil))))))))) (mRet (mVar 1)))))
def m__steps_ahead : MF := mFn 7 mb__steps_ahead
abbrev s_costs_to_end : Stmt := topS 65
theorem sc_costs_to_end : FnScope ["walk", "ahead", "found", "level", "cost", "costlier", "node", "before", "more"] ["walk"] (defScope s_costs_to_end) := ⟨rfl, rfl, rfl, by decide +kernel, rfl, by decide +kernel, by decide +kernel⟩
def mb_costs_to_end : MS := (mSeq (mAsg (mCallT 1 m__steps_ahead (mCons (mVar 0) mNil)) (mName 1)) (mSeq (mAsg (mDcM (mAnyI (mVar 1)) (mName 6) mYes (mVar 6) (mC .non) [6]) (mName 2)) (mSeq (mAsg (mLcM (mAnyI (mVar 1)) (mName 6) (mTru (mMethU 3 2 m_ChangeWalk_is_end (mVar 0) (mCons (mVar 6) mNil))) (mVar 6) [6]) (mName 3)) (mSeq (mAsg (mC (.int 0)) (mName 4)) (mSeq (mWhile 50000 (mTru (mVar 3)) (mSeq (mAsg (mLstM mNil) (mName 5)) (mSeq (mWhile 50000 (mTru (mVar 3)) (mSeq (mAsg (mPop (mVar 3)) (mName 6)) (mIfS (mB (mOp (fIsN false) (mOp fIxX (mVar 2) (mVar 6)) (mC .non))) (mSeq (mAsg (mVar 4) (mGSub fSetX (mVar 2) (mVar 6))) (mSeq (mAugE 3 (mLc (mAnyI (mOp fIxX (mVar 1) (mVar 6))) (mGTup 2 (mGCons (mName 7) (mGCons (mName 8) mGNil))) (mB (mOp (fEq false) (mVar 8) (mC (.int 0)))) (mVar 7) [7, 8])) (mAugE 5 (mLc (mAnyI (mOp fIxX (mVar 1) (mVar 6))) (mGTup 2 (mGCons (mName 7) (mGCons (mName 8) mGNil))) (mB (mOp (fEq false) (mVar 8) (mC (.int 1)))) (mVar 7) [7, 8])))) mNext))) (mSeq (mAsg (mVar 5) (mName 3)) (mAug 4 (mC (.int 1)) fun i j => i + j))))) (mRet (mVar 2)))))))
def m_costs_to_end : MF := mFn 9 mb_costs_to_end
abbrev s_Fitted_init : Stmt := inClass (topS 72) 0
theorem sc_Fitted_init : FnScope ["self", "text", "floors", "node"] ["self", "text", "floors"] (defScope s_Fitted_init) := ⟨rfl, rfl, rfl, by decide +kernel, rfl, by decide +kernel, by decide +kernel⟩
def mb_Fitted_init : MS := (mSeq (mFldSet [(3, 1), (4, 0)] (mVar 0) (mVar 1)) (mFldSet [(4, 1)] (mVar 0) (mIsoM 2 (mDcM (mAnyI (mVar 2)) (mName 3) mYes (mVar 3) (mOp fIxX (mVar 2) (mVar 3)) [3]))))
def m_Fitted_init : MF := mFn 4 mb_Fitted_init
abbrev s_search : Stmt := topS 62
theorem sc_search : FnScope ["walk", "found", "level", "longer", "node", "text", "sign", "behind"] ["walk"] (defScope s_search) := ⟨rfl, rfl, rfl, by decide +kernel, rfl, by decide +kernel, by decide +kernel⟩
def mb_search : MS := (mSeq (mAsg (mDispM (mMethU 2 1 m_AimWalk_first (mVar 0) mNil) (mC (.bl true))) (mName 1)) (mSeq (mAsg (mLstM (mCons (mTup (mCons (mMethU 2 1 m_AimWalk_first (mVar 0) mNil) (mCons (mC (.str [])) mNil))) mNil)) (mName 2)) (mSeq (mWhile 50000 (mTru (mVar 2)) (mSeq (mAsg (mLstM mNil) (mName 3)) (mSeq (mFor (mAnyI (mVar 2)) (mGTup 2 (mGCons (mName 4) (mGCons (mName 5) mGNil))) (mSeq (mIfS (mNot (mTru (mMethU 2 2 m_AimWalk_is_fine (mVar 0) (mCons (mVar 4) mNil)))) (mRet (mTup (mCons (mC .non) (mCons (mVar 5) mNil)))) mNext) (mFor (mAnyI (mMethU 2 2 m_AimWalk_signs (mVar 0) (mCons (mVar 4) mNil))) (mName 6) (mSeq (mAsg (mMethU 2 3 m_AimWalk_behind (mVar 0) (mCons (mVar 4) (mCons (mVar 6) mNil))) (mName 7)) (mIfS (mB (mOp (fInY true) (mVar 7) (mVar 1))) (mSeq (mAsg (mC (.bl true)) (mGSub fSetX (mVar 1) (mVar 7))) (mDrop (mApp (mVar 3) (mTup (mCons (mVar 7) (mCons (mOp fAdd (mVar 5) (mVar 6)) mNil)))))) mNext))))) (mAsg (mVar 3) (mName 2))))) (mRet (mTup (mCons (mCB fListY (mCons (mVar 1) mNil)) (mCons (mC .non) mNil)))))))
def m_search : MF := mFn 8 mb_search
abbrev s_Unfit_init : Stmt := inClass (topS 73) 0
theorem sc_Unfit_init : FnScope ["self", "places"] ["self", "places"] (defScope s_Unfit_init) := ⟨rfl, rfl, rfl, by decide +kernel, rfl, by decide +kernel, by decide +kernel⟩
def mb_Unfit_init : MS := (mFldSet [(5, 0)] (mVar 0) (mCB fListY (mCons (mVar 1) mNil)))
def m_Unfit_init : MF := mFn 2 mb_Unfit_init
abbrev s_cheapest_text : Stmt := topS 59
theorem sc_cheapest_text : FnScope ["walk", "costs", "node", "text", "best", "sign", "behind", "cost"] ["walk", "costs"] (defScope s_cheapest_text) := ⟨rfl, rfl, rfl, by decide +kernel, rfl, by decide +kernel, by decide +kernel⟩
def mb_cheapest_text : MS := (mSeq (mAsg (mMethU 3 1 m_ChangeWalk_first (mVar 0) mNil) (mName 2)) (mSeq (mAsg (mC (.str [])) (mName 3)) (mSeq (mWhile 50000 (mNot (mTru (mMethU 3 2 m_ChangeWalk_is_end (mVar 0) (mCons (mVar 2) mNil)))) (mSeq (mAsg (mLc (mAnyI (mMethU 3 2 m_ChangeWalk_steps (mVar 0) (mCons (mVar 2) mNil))) (mGTup 3 (mGCons (mName 6) (mGCons (mName 7) (mGCons (mName 5) mGNil)))) (mAnd (mB (mOp (fIsN true) (mOp fIxX (mVar 1) (mVar 6)) (mC .non))) (mB (mOp (fEq false) (mOp fAdd (mOp fIxX (mVar 1) (mVar 6)) (mVar 7)) (mOp fIxX (mVar 1) (mVar 2))))) (mTup (mCons (mVar 6) (mCons (mVar 5) mNil))) [6, 7, 5]) (mName 4)) (mSeq (mAsg (mOp fIxX (mVar 4) (mC (.int 0))) (mGTup 2 (mGCons (mName 2) (mGCons (mName 5) mGNil)))) (mAsg (mOp fAdd (mVar 3) (mVar 5)) (mName 3))))) (mRet (mVar 3)))))
def m_cheapest_text : MF := mFn 8 mb_cheapest_text
abbrev s_fit : Stmt := topS 75
theorem sc_fit : FnScope ["way", "kind", "text", "wanted", "walk", "costs", "total", "places", "_", "floors", "node", "cost"] ["way", "kind", "text", "wanted"] (defScope s_fit) := ⟨rfl, rfl, rfl, by decide +kernel, rfl, by decide +kernel, by decide +kernel⟩
def mb_fit : MS := (mSeq (mDrop (mCallT 4 m__check_fitting (mCons (mVar 0) (mCons (mVar 1) (mCons (mVar 2) (mCons (mVar 3) mNil)))))) (mSeq (mAsg (mMakeS 3 2 5 m_ChangeWalk_init (mCons (mVar 0) (mCons (mVar 1) (mCons (mVar 2) (mCons (mVar 3) mNil))))) (mName 4)) (mSeq (mAsg (mCallT 1 m_costs_to_end (mCons (mVar 4) mNil)) (mName 5)) (mSeq (mAsg (mOp fIxX (mVar 5) (mMethU 3 1 m_ChangeWalk_first (mVar 4) mNil)) (mName 6)) (mSeq (mIfS (mB (mOp (fIsN false) (mVar 6) (mC .non))) (mSeq (mAsg (mCallT 1 m_search (mCons (mMakeS 2 2 4 m_AimWalk_init (mCons (mVar 0) (mCons (mVar 1) (mCons (mVar 3) mNil)))) mNil)) (mGTup 2 (mGCons (mName 7) (mGCons (mName 8) mGNil)))) (mRet (mMakeS 5 1 2 m_Unfit_init (mCons (mVar 7) mNil)))) mNext) (mSeq (mAsg (mDc (mItems (mVar 5)) (mGTup 2 (mGCons (mName 10) (mGCons (mName 11) mGNil))) mYes (mVar 10) (mIf (mB (mOp (fIsN false) (mVar 11) (mC .non))) (mVar 6) (mCB fMin2 (mCons (mVar 11) (mCons (mVar 6) mNil)))) [10, 11]) (mName 9)) (mRet (mMakeS 4 2 3 m_Fitted_init (mCons (mCallT 2 m_cheapest_text (mCons (mVar 4) (mCons (mVar 5) mNil))) (mCons (mVar 9) mNil))))))))))
def m_fit : MF := mFn 12 mb_fit
abbrev s_least_change : Stmt := topS 76
theorem sc_least_change : FnScope ["way", "kind", "text", "wanted", "found"] ["way", "kind", "text", "wanted"] (defScope s_least_change) := ⟨rfl, rfl, rfl, by decide +kernel, rfl, by decide +kernel, by decide +kernel⟩
def mb_least_change : MS := (mSeq (mAsg (mCallT 4 m_fit (mCons (mVar 0) (mCons (mVar 1) (mCons (mVar 2) (mCons (mVar 3) mNil))))) (mName 4)) (mRet (mIf (mTru (mIsi (tbOwn [(4, true), (5, false)] none) (mVar 4))) (mCallT 2 m_distance_between (mCons (mVar 2) (mCons (mFld [(3, 1), (4, 0)] (mVar 4)) mNil))) (mC .non))))
def m_least_change : MF := mFn 5 mb_least_change
abbrev s_distance : Stmt := topS 74
theorem sc_distance : FnScope ["text", "other"] ["text", "other"] (defScope s_distance) := ⟨rfl, rfl, rfl, by decide +kernel, rfl, by decide +kernel, by decide +kernel⟩
def mb_distance : MS := (mSeq (mDrop (mCallT 1 m__check_short (mCons (mVar 0) mNil))) (mSeq (mDrop (mCallT 1 m__check_short (mCons (mVar 1) mNil))) (mRet (mCallT 2 m_distance_between (mCons (mVar 0) (mCons (mVar 1) mNil))))))
def m_distance : MF := mFn 2 mb_distance
abbrev s__law_fitted_right : Stmt := topS 79
theorem sc__law_fitted_right : FnScope ["rows", "way", "kind", "text", "wanted", "due", "found", "texts", "place", "late", "at", "one", "other"] [] (defScope s__law_fitted_right) := ⟨rfl, rfl, rfl, by decide +kernel, rfl, by decide +kernel, by decide +kernel⟩
def mb__law_fitted_right : MS := (mSeq (mAsg (mLst (mCons (mTup (mCons (mC (.str [])) (mCons (mC (.str [114, 110])) (mCons (mC (.int 2)) mNil)))) (mCons (mTup (mCons (mC (.str [97, 114, 110])) (mCons (mC (.str [114, 97, 110])) (mCons (mC (.int 2)) mNil)))) (mCons (mTup (mCons (mC (.str [110, 110, 110])) (mCons (mC (.str [110])) (mCons (mC (.int 2)) mNil)))) (mCons (mTup (mCons (mC (.str [97, 110, 114])) (mCons (mC (.str [97, 110, 114])) (mCons (mC (.int 0)) mNil)))) (mCons (mTup (mCons (mC (.str [110, 97, 114])) (mCons (mC (.str [97, 114, 110])) (mCons (mC (.int 2)) mNil)))) (mCons (mTup (mCons (mC (.str [114, 114, 110])) (mCons (mC (.str [97, 110])) (mCons (mC (.int 2)) mNil)))) mNil))))))) (mName 0)) (mSeq (mIfS (mNot (mTru (mCB fAll (mCons (mLc (mAnyI (mVar 0)) (mGTup 3 (mGCons (mName 11) (mGCons (mName 12) (mGCons (mName 5) mGNil)))) mYes (mAndV (mOp (fEq false) (mCallT 2 m_distance (mCons (mVar 11) (mCons (mVar 12) mNil))) (mVar 5)) (mOp (fEq false) (mCallT 2 m_distance (mCons (mVar 12) (mCons (mVar 11) mNil))) (mVar 5))) [11, 12, 5]) mNil)))) (mRet (mC (.bl false))) mNext) (mSeq (mAsg (mLst (mCons (mTup (mCons (mTup (mCons (mC (.str [99, 97, 114, 101])) mNil)) (mCons (mC (.str [97, 110, 121])) (mCons (mC (.str [110])) (mCons (mC (.str [114, 110])) (mCons (mC (.int 0)) mNil)))))) (mCons (mTup (mCons (mTup (mCons (mC (.str [99, 97, 114, 101])) mNil)) (mCons (mC (.str [97, 110, 121])) (mCons (mC (.str [97, 110])) (mCons (mC (.str [97, 110])) (mCons (mC .non) mNil)))))) (mCons (mTup (mCons (mTup (mCons (mC (.str [112, 97, 105, 114, 115])) mNil)) (mCons (mC (.str [97, 110, 121])) (mCons (mC (.str [114, 110])) (mCons (mC (.str [114])) (mCons (mC (.int 1)) mNil)))))) mNil)))) (mName 0)) (mSeq (mAsg (mOp fAdd (mVar 0) (mLst (mCons (mTup (mCons (mTup (mCons (mC (.str [98, 111, 116, 104])) mNil)) (mCons (mC (.str [97, 110, 121])) (mCons (mC (.str [97, 97])) (mCons (mC (.str [110])) (mCons (mC (.int 2)) mNil)))))) (mCons (mTup (mCons (mTup (mCons (mC (.str [98, 111, 116, 104])) mNil)) (mCons (mC (.str [112, 97, 105, 114, 101, 100])) (mCons (mC (.str [110])) (mCons (mC (.str [110])) (mCons (mC (.int 1)) mNil)))))) (mCons (mTup (mCons (mTup (mCons (mC (.str [98, 111, 116, 104])) mNil)) (mCons (mC (.str [108, 111, 110, 101])) (mCons (mC (.str [110])) (mCons (mC (.str [110])) (mCons (mC (.int 1)) mNil)))))) mNil))))) (mName 0)) (mSeq (mAsg (mOp fAdd (mVar 0) (mLst (mCons (mTup (mCons (mTup mNil) (mCons (mC (.str [108, 111, 110, 101])) (mCons (mC (.str [110])) (mCons (mC (.str [110])) (mCons (mC .non) mNil)))))) (mCons (mTup (mCons (mTup (mCons (mC (.str [108, 111, 110, 101])) mNil)) (mCons (mC (.str [98, 97, 114, 101])) (mCons (mC (.str [114, 114])) (mCons (mC (.str [114, 114])) (mCons (mC (.int 2)) mNil)))))) (mCons (mTup (mCons (mTup (mCons (mC (.str [97, 108, 108])) mNil)) (mCons (mC (.str [97, 110, 121])) (mCons (mC (.str [114, 110, 114, 110])) (mCons (mC (.str [114, 110, 114, 110])) (mCons (mC (.int 2)) mNil)))))) mNil))))) (mName 0)) (mSeq (mFor (mAnyI (mVar 0)) (mGTup 5 (mGCons (mName 1) (mGCons (mName 2) (mGCons (mName 3) (mGCons (mName 4) (mGCons (mName 5) mGNil)))))) (mSeq (mAsg (mCallT 4 m_fit (mCons (mVar 1) (mCons (mVar 2) (mCons (mVar 3) (mCons (mVar 4) mNil))))) (mName 6)) (mSeq (mIfS (mOr (mB (mOp (fEq true) (mCallT 4 m_least_change (mCons (mVar 1) (mCons (mVar 2) (mCons (mVar 3) (mCons (mVar 4) mNil))))) (mVar 5))) (mNot (mTru (fun ρ h => if (isClsH 6 4) ρ h = true then (mMethY 4 5 m_Fitted_shows (mVar 6) (mCons (mVar 1) (mCons (mVar 2) (mCons (mVar 3) (mCons (mVar 4) mNil))))) ρ h else (mMethY 5 5 m_Unfit_shows (mVar 6) (mCons (mVar 1) (mCons (mVar 2) (mCons (mVar 3) (mCons (mVar 4) mNil))))) ρ h)))) (mRet (mC (.bl false))) mNext) (mIfS (mB (mOp (fEq true) (mIsi (tbOwn [(4, false), (5, true)] none) (mVar 6)) (mOp (fIsN false) (mVar 5) (mC .non)))) (mRet (mC (.bl false))) mNext)))) (mSeq (mAsg (mLst (mCons (mFld [(3, 1), (4, 0)] (mCallT 4 m_fit (mCons (mTup (mCons (mC (.str [112, 97, 105, 114, 115])) mNil)) (mCons (mC (.str [97, 110, 121])) (mCons (mC (.str [114, 110])) (mCons (mC (.str [114])) mNil)))))) (mCons (mFld [(3, 1), (4, 0)] (mCallT 4 m_fit (mCons (mTup (mCons (mC (.str [99, 97, 114, 101])) mNil)) (mCons (mC (.str [98, 97, 114, 101])) (mCons (mC (.str [])) (mCons (mC (.str [114, 110, 114, 110])) mNil)))))) mNil))) (mName 7)) (mSeq (mIfS (mB (mOp (fEq true) (mVar 7) (mLst (mCons (mC (.str [114])) (mCons (mC (.str [110, 110])) mNil))))) (mRet (mC (.bl false))) mNext) (mSeq (mPar 8 9 (mCons (mTup (mCons (mTup mNil) (mCons (mC (.bl false)) mNil))) (mCons mNewM mNil))) (mSeq (mFor (mAnyI (mTup (mCons (mC (.int 0)) (mCons (mC (.int 1)) mNil)))) (mName 10) (mAsg (mTup (mCons (mOp fSub (mC (.int 1)) (mVar 10)) (mCons (mOp fSub (mC (.int 1)) (mVar 10)) mNil))) (mGTup 2 (mGCons (mGSub fSetX (mVar 9) (mTup (mCons (mVar 10) (mCons (mVar 8) (mCons (mC (.int 0)) mNil))))) (mGCons (mGSub fSetX (mVar 9) (mTup (mCons (mVar 10) (mCons (mVar 8) (mCons (mC (.int 1)) mNil))))) mGNil))))) (mSeq (mAsg (mTup (mCons (mC (.int 0)) (mCons (mC (.int 1)) (mCons (mC (.int 1)) mNil)))) (mGTup 3 (mGCons (mGSub fSetX (mVar 9) (mTup (mCons (mC (.int 0)) (mCons (mVar 8) (mCons (mC (.int 0)) mNil))))) (mGCons (mGSub fSetX (mVar 9) (mTup (mCons (mC (.int 1)) (mCons (mVar 8) (mCons (mC (.int 0)) mNil))))) (mGCons (mGSub fSetX (mVar 9) (mTup (mCons (mC (.int 0)) (mCons (mVar 8) (mCons (mC (.int 1)) mNil))))) mGNil))))) (mSeq (mIfS (mNot (mTru (mMethY 4 5 m_Fitted_shows (mMakeS 4 2 3 m_Fitted_init (mCons (mC (.str [97])) (mCons (mVar 9) mNil))) (mCons (mTup mNil) (mCons (mC (.str [97, 110, 121])) (mCons (mC (.str [97])) (mCons (mC (.str [97])) mNil))))))) (mRet (mC (.bl false))) mNext) (mSeq (mIfS (mTru (mMethY 4 5 m_Fitted_shows (mMakeS 4 2 3 m_Fitted_init (mCons (mC (.str [110])) (mCons (mVar 9) mNil))) (mCons (mTup mNil) (mCons (mC (.str [97, 110, 121])) (mCons (mC (.str [97])) (mCons (mC (.str [97])) mNil)))))) (mRet (mC (.bl false))) mNext) (mSeq (mAsg (mC (.int 2)) (mGSub fSetX (mVar 9) (mTup (mCons (mC (.int 1)) (mCons (mVar 8) (mCons (mC (.int 0)) mNil)))))) (mSeq (mIfS (mTru (mMethY 4 5 m_Fitted_shows (mMakeS 4 2 3 m_Fitted_init (mCons (mC (.str [97])) (mCons (mVar 9) mNil))) (mCons (mTup mNil) (mCons (mC (.str [97, 110, 121])) (mCons (mC (.str [97])) (mCons (mC (.str [97])) mNil)))))) (mRet (mC (.bl false))) mNext) (mSeq (mIfS (mNot (mTru (mMethY 5 5 m_Unfit_shows (mMakeS 5 1 2 m_Unfit_init (mCons (mLst (mCons (mTup (mCons (mVar 8) (mCons (mC (.int 0)) mNil))) mNil)) mNil)) (mCons (mTup mNil) (mCons (mC (.str [108, 111, 110, 101])) (mCons (mC (.str [110])) (mCons (mC (.str [110])) mNil))))))) (mRet (mC (.bl false))) mNext) (mSeq (mIfS (mTru (mMethY 5 5 m_Unfit_shows (mMakeS 5 1 2 m_Unfit_init (mCons (mLst (mCons (mTup (mCons (mVar 8) (mCons (mC (.int 0)) mNil))) mNil)) mNil)) (mCons (mTup mNil) (mCons (mC (.str [97, 110, 121])) (mCons (mC (.str [110])) (mCons (mC (.str [110])) mNil)))))) (mRet (mC (.bl false))) mNext) (mRet (mNotV (mMethY 5 5 m_Unfit_shows (mMakeS 5 1 2 m_Unfit_init (mCons (mLst mNil) mNil)) (mCons (mTup mNil) (mCons (mC (.str [108, 111, 110, 101])) (mCons (mC (.str [110])) (mCons (mC (.str [110])) mNil))))))))))))))))))))))))
def m__law_fitted_right : MF := mFn 13 mb__law_fitted_right
abbrev s_law : Stmt := topS 80
theorem sc_law : FnScope ["script", "one"] ["script"] (defScope s_law) := ⟨rfl, rfl, rfl, by decide +kernel, rfl, by decide +kernel, by decide +kernel⟩
def mb_law : MS := (mRet (mIf (mB (mOp (fEq false) (mOp fMod (mCB fInt (mCons (mCB fSum (mCons (mLc (mAnyI (mSl (mVar 0) mNoP (mPart (mC (.int 9))))) (mName 1) mYes (mCB fAbs (mCons (mVar 1) mNil)) [1]) mNil)) mNil)) (mC (.int 2))) (mC (.int 0)))) (mCallT 0 m__law_rates_right mNil) (mCallT 0 m__law_fitted_right mNil)))
def m_law : MF := mFn 2 mb_law
end K50
namespace K50
open PySem PySem.Spec PyProof.Rows L2 RZ PpSet Rm

def h_fa0 : List He.Fa := [.glo "is_conversion",
  .glo "is_way",
  .glo "check_way",
  .glo "check_kind",
  .glo "check_rates",
  .meth "Reader" "__init__",
  .glo "starting",
  .meth "Reader" "first",
  .glo "_read_one",
  .glo "_read_all",
  .glo "step",
  .glo "is_half",
  .meth "Reader" "_move",
  .glo "coming",
  .meth "Reader" "moves",
  .glo "ending",
  .meth "Reader" "end",
  .meth "Reader" "reached",
  .glo "walked",
  .glo "is_text",
  .glo "rate_of",
  .glo "is_integer",
  .meth "Swelling" "_has_rate",
  .glo "is_standing",
  .glo "is_place",
  .meth "Swelling" "_is_closed",
  .glo "weight",
  .meth "Swelling" "_falls",
  .meth "Swelling" "shows",
  .meth "Swelling" "__init__"]
def h_fa1 : List He.Fa := [.glo "_ring_behind",
  .glo "_lift",
  .glo "_climb",
  .glo "best_ring",
  .glo "swell",
  .glo "greatest_rate",
  .glo "least_rate",
  .glo "_law_rates_right",
  .glo "_is_short",
  .glo "_check_short",
  .glo "check_fitting",
  .meth "AimWalk" "steps",
  .meth "ChangeWalk" "steps",
  .meth "AimWalk" "first",
  .meth "ChangeWalk" "first",
  .meth "AimWalk" "is_end",
  .meth "ChangeWalk" "is_end",
  .glo "is_within",
  .meth "AimWalk" "is_node",
  .meth "ChangeWalk" "is_node",
  .glo "are_floors",
  .meth "AimWalk" "__init__",
  .meth "AimWalk" "signs",
  .meth "AimWalk" "behind",
  .meth "AimWalk" "is_fine",
  .meth "ChangeWalk" "__init__",
  .glo "distance_between",
  .glo "fits",
  .glo "turn",
  .meth "Fitted" "shows"]
def h_fa2 : List He.Fa := [.glo "is_closed",
  .meth "Unfit" "shows",
  .glo "_steps_ahead",
  .glo "costs_to_end",
  .meth "Fitted" "__init__",
  .glo "search",
  .meth "Unfit" "__init__",
  .glo "cheapest_text",
  .glo "fit",
  .glo "least_change",
  .glo "distance",
  .glo "_law_fitted_right",
  .glo "law",
  .glo "Reader",
  .cls "Reader",
  .mkr "Reader",
  .glo "Swelling",
  .cls "Swelling",
  .mkr "Swelling",
  .glo "AimWalk",
  .cls "AimWalk",
  .mkr "AimWalk",
  .glo "ChangeWalk",
  .cls "ChangeWalk",
  .mkr "ChangeWalk",
  .glo "Fitted",
  .cls "Fitted",
  .mkr "Fitted",
  .glo "Unfit",
  .cls "Unfit"]
def h_fa3 : List He.Fa := [.mkr "Unfit",
  .noat "Reader" "way",
  .noat "Reader" "kind",
  .noat "Reader" "_known_moves",
  .noat "Reader" "_known_ends",
  .noat "Swelling" "ahead",
  .noat "Swelling" "ring",
  .noat "Swelling" "rate",
  .noat "Swelling" "heights",
  .noat "AimWalk" "reader",
  .noat "AimWalk" "wanted",
  .noat "ChangeWalk" "aim",
  .noat "ChangeWalk" "text",
  .noat "Fitted" "text",
  .noat "Fitted" "floors",
  .noat "Unfit" "places",
  .free "isinstance",
  .free "str",
  .free "tuple",
  .free "len",
  .int "LONGEST" 6,
  .free "all",
  .free "bool",
  .free "zip",
  .free "int",
  .free "list",
  .free "any",
  .int "MOST_SIGNS" 12,
  .free "range",
  .free "enumerate"]
def h_fa4 : List He.Fa := [.free "min",
  .free "sum",
  .free "abs",
  .glo "CONVERSIONS",
  .glo "KINDS",
  .glo "SIGNS",
  .glo "_PLAIN",
  .glo "_HELD",
  .glo "_MADE_OF",
  .glo "_REPLACED"]
abbrev h_fa : List He.Fa := h_fa0 ++ (h_fa1 ++ (h_fa2 ++ (h_fa3 ++ (h_fa4))))
def h_fn0 : List He.DefD := [dfn "is_conversion" none "is_conversion" "is_conversion" s_is_conversion,
  dfn "is_way" none "is_way" "is_way" s_is_way,
  dfn "check_way" none "check_way" "check_way" s_check_way,
  dfn "check_kind" none "check_kind" "check_kind" s_check_kind,
  dfn "check_rates" none "_check" "_check" s__check_rates,
  dfn "Reader" (some "__init__") "__init__" "Reader.__init__" s_Reader_init,
  dfn "starting" none "starting" "starting" s_starting,
  dfn "Reader" (some "first") "first" "Reader.first" s_Reader_first,
  dfn "_read_one" none "_read_one" "_read_one" s__read_one,
  dfn "_read_all" none "_read_all" "_read_all" s__read_all,
  dfn "step" none "step" "step" s_step,
  dfn "is_half" none "is_half" "is_half" s_is_half,
  dfn "Reader" (some "_move") "_move" "Reader._move" s_Reader_move,
  dfn "coming" none "coming" "coming" s_coming,
  dfn "Reader" (some "moves") "moves" "Reader.moves" s_Reader_moves,
  dfn "ending" none "ending" "ending" s_ending,
  dfn "Reader" (some "end") "end" "Reader.end" s_Reader_end,
  dfn "Reader" (some "reached") "reached" "Reader.reached" s_Reader_reached,
  dfn "walked" none "walked" "walked" s_walked,
  dfn "is_text" none "is_text" "is_text" s_is_text,
  dfn "rate_of" none "rate_of" "rate_of" s_rate_of,
  dfn "is_integer" none "is_integer" "is_integer" s_is_integer,
  dfn "Swelling" (some "_has_rate") "_has_rate" "Swelling._has_rate" s_Swelling_has_rate,
  dfn "is_standing" none "is_standing" "is_standing" s_is_standing,
  dfn "is_place" none "is_place" "is_place" s_is_place,
  dfn "Swelling" (some "_is_closed") "_is_closed" "Swelling._is_closed" s_Swelling_is_closed,
  dfn "weight" none "weight" "weight" s_weight,
  dfn "Swelling" (some "_falls") "_falls" "Swelling._falls" s_Swelling_falls,
  dfnK "Swelling" (some "shows") "shows" "Swelling.shows" s_Swelling_shows "least",
  dfn "Swelling" (some "__init__") "__init__" "Swelling.__init__" s_Swelling_init]
def h_fn1 : List He.DefD := [dfn "_ring_behind" none "_ring_behind" "_ring_behind" s__ring_behind,
  dfn "_lift" none "_lift" "_lift" s__lift,
  dfn "_climb" none "_climb" "_climb" s__climb,
  dfn "best_ring" none "best_ring" "best_ring" s_best_ring,
  dfnK "swell" none "swell" "swell" s_swell "least",
  dfn "greatest_rate" none "greatest_rate" "greatest_rate" s_greatest_rate,
  dfn "least_rate" none "least_rate" "least_rate" s_least_rate,
  dfn "_law_rates_right" none "_law_rates_right" "_law_rates_right" s__law_rates_right,
  dfn "_is_short" none "_is_short" "_is_short" s__is_short,
  dfn "_check_short" none "_check_short" "_check_short" s__check_short,
  dfn "check_fitting" none "_check" "_check" s__check_fitting,
  dfn "AimWalk" (some "steps") "steps" "AimWalk.steps" s_AimWalk_steps,
  dfn "ChangeWalk" (some "steps") "steps" "ChangeWalk.steps" s_ChangeWalk_steps,
  dfn "AimWalk" (some "first") "first" "AimWalk.first" s_AimWalk_first,
  dfn "ChangeWalk" (some "first") "first" "ChangeWalk.first" s_ChangeWalk_first,
  dfn "AimWalk" (some "is_end") "is_end" "AimWalk.is_end" s_AimWalk_is_end,
  dfn "ChangeWalk" (some "is_end") "is_end" "ChangeWalk.is_end" s_ChangeWalk_is_end,
  dfn "is_within" none "is_within" "is_within" s_is_within,
  dfn "AimWalk" (some "is_node") "is_node" "AimWalk.is_node" s_AimWalk_is_node,
  dfn "ChangeWalk" (some "is_node") "is_node" "ChangeWalk.is_node" s_ChangeWalk_is_node,
  dfn "are_floors" none "are_floors" "are_floors" s_are_floors,
  dfn "AimWalk" (some "__init__") "__init__" "AimWalk.__init__" s_AimWalk_init,
  dfn "AimWalk" (some "signs") "signs" "AimWalk.signs" s_AimWalk_signs,
  dfn "AimWalk" (some "behind") "behind" "AimWalk.behind" s_AimWalk_behind,
  dfn "AimWalk" (some "is_fine") "is_fine" "AimWalk.is_fine" s_AimWalk_is_fine,
  dfn "ChangeWalk" (some "__init__") "__init__" "ChangeWalk.__init__" s_ChangeWalk_init,
  dfn "distance_between" none "distance_between" "distance_between" s_distance_between,
  dfn "fits" none "fits" "fits" s_fits,
  dfn "turn" none "turn" "turn" s_turn,
  dfn "Fitted" (some "shows") "shows" "Fitted.shows" s_Fitted_shows]
def h_fn2 : List He.DefD := [dfn "is_closed" none "is_closed" "is_closed" s_is_closed,
  dfn "Unfit" (some "shows") "shows" "Unfit.shows" s_Unfit_shows,
  dfn "_steps_ahead" none "_steps_ahead" "_steps_ahead" s__steps_ahead,
  dfn "costs_to_end" none "costs_to_end" "costs_to_end" s_costs_to_end,
  dfn "Fitted" (some "__init__") "__init__" "Fitted.__init__" s_Fitted_init,
  dfn "search" none "search" "search" s_search,
  dfn "Unfit" (some "__init__") "__init__" "Unfit.__init__" s_Unfit_init,
  dfn "cheapest_text" none "cheapest_text" "cheapest_text" s_cheapest_text,
  dfn "fit" none "fit" "fit" s_fit,
  dfn "least_change" none "least_change" "least_change" s_least_change,
  dfn "distance" none "distance" "distance" s_distance,
  dfn "_law_fitted_right" none "_law_fitted_right" "_law_fitted_right" s__law_fitted_right,
  dfn "law" none "law" "law" s_law]
abbrev h_fn : List He.DefD := h_fn0 ++ (h_fn1 ++ (h_fn2))
def h_lo0 : List Str := ["is_integer",
  "is_within",
  "TurnError",
  "BadText",
  "BadKind",
  "BadWay",
  "BadFlag",
  "BadWanted",
  "SIGNS",
  "KINDS",
  "_MADE_OF",
  "is_text",
  "check_kind",
  "fits",
  "is_half",
  "coming",
  "CONVERSIONS",
  "LONGEST",
  "_REPLACED",
  "_HELD",
  "_PLAIN",
  "is_conversion",
  "is_way",
  "check_way",
  "is_standing",
  "turn",
  "_read_one",
  "_read_all",
  "step",
  "ending"]
def h_lo1 : List Str := ["starting",
  "is_place",
  "Reader",
  "walked",
  "rate_of",
  "weight",
  "_ring_behind",
  "_lift",
  "_climb",
  "best_ring",
  "_check",
  "check_rates",
  "Swelling",
  "swell",
  "greatest_rate",
  "least_rate",
  "AimWalk",
  "distance_between",
  "ChangeWalk",
  "cheapest_text",
  "are_floors",
  "search",
  "is_closed",
  "_steps_ahead",
  "costs_to_end",
  "MOST_SIGNS",
  "_is_short",
  "_check_short",
  "check_fitting",
  "Fitted"]
def h_lo2 : List Str := ["Unfit",
  "distance",
  "fit",
  "least_change",
  "_law_rates_right",
  "_law_fitted_right"]
abbrev h_lo : List Str := h_lo0 ++ (h_lo1 ++ (h_lo2))
abbrev h_ts : List He.Tab := [(fun K => He.ga K "_PLAIN", ["all", "lone"]), (fun K => He.ga K "_HELD", ["both", "lones", "pairs"]), (fun K => He.ga K "_MADE_OF", ["any", "bare", "lone"]), (fun K => He.ga K "_REPLACED", ["all", "both", "care", "lone", "lones", "pairs"])]
def h_ex0 (K : PySem.W.Frag) : List Bool := [He.eqO (PySem.W.findIn K (.ref (He.ga K "Reader")) "__class__") (some (some (.builtin "object.__class__"))),
  decide (PySem.W.mroIn K (He.ga K "Reader") (.type "object") = some true),
  He.eqO (PySem.W.findIn K (.ref (He.ga K "Swelling")) "__class__") (some (some (.builtin "object.__class__"))),
  decide (PySem.W.mroIn K (He.ga K "Swelling") (.type "object") = some true),
  He.eqO (PySem.W.findIn K (.ref (He.ga K "AimWalk")) "__class__") (some (some (.builtin "object.__class__"))),
  decide (PySem.W.mroIn K (He.ga K "AimWalk") (.type "object") = some true),
  He.eqO (PySem.W.findIn K (.ref (He.ga K "ChangeWalk")) "__class__") (some (some (.builtin "object.__class__"))),
  decide (PySem.W.mroIn K (He.ga K "ChangeWalk") (.type "object") = some true),
  He.eqO (PySem.W.findIn K (.ref (He.ga K "Fitted")) "__class__") (some (some (.builtin "object.__class__"))),
  decide (PySem.W.mroIn K (He.ga K "Fitted") (.type "object") = some true),
  He.eqO (PySem.W.findIn K (.ref (He.ga K "Unfit")) "__class__") (some (some (.builtin "object.__class__"))),
  decide (PySem.W.mroIn K (He.ga K "Unfit") (.type "object") = some true),
  He.eqO (PySem.W.specialIn K (.builtin "object.__class__") "__get__") (some (some (.builtin "getset_descriptor.__get__"))),
  decide (PySem.W.takesIn K (.builtin "object.__class__") = some true),
  decide (PySem.W.kitOne K (.ref (He.ga K "Fitted")) (.ref (He.ga K "Fitted")) = some true),
  decide (PySem.W.kitOne K (.ref (He.ga K "Unfit")) (.ref (He.ga K "Fitted")) = some false),
  decide (PySem.W.kitOne K (.ref (He.ga K "Fitted")) (.ref (He.ga K "Unfit")) = some false),
  decide (PySem.W.kitOne K (.ref (He.ga K "Unfit")) (.ref (He.ga K "Unfit")) = some true),
  He.eqO (PySem.W.nsIn K mainGlobals "gcd") (some (some (.builtin "math.gcd"))),
  seqB K (He.ga K "CONVERSIONS") [.str "all", .str "both", .str "care", .str "lone", .str "lones", .str "pairs"],
  seqB K (He.ga K "KINDS") [.str "any", .str "bare", .str "lone", .str "paired"],
  seqB K (He.ga K "SIGNS") [.str "a", .str "n", .str "r"],
  nsB K (He.ga K "_PLAIN") "all" "rn",
  He.eqO (PySem.W.nsIn K (He.ga K "_PLAIN") "both") (some none),
  He.eqO (PySem.W.nsIn K (He.ga K "_PLAIN") "care") (some none),
  nsB K (He.ga K "_PLAIN") "lone" "r",
  He.eqO (PySem.W.nsIn K (He.ga K "_PLAIN") "lones") (some none),
  He.eqO (PySem.W.nsIn K (He.ga K "_PLAIN") "pairs") (some none),
  He.eqO (PySem.W.nsIn K (He.ga K "_HELD") "all") (some none),
  He.eqO (PySem.W.nsIn K (He.ga K "_HELD") "both") (some (some (.ref (va K (He.ga K "_HELD") "both"))))]
def h_ex1 (K : PySem.W.Frag) : List Bool := [pairB K (va K (He.ga K "_HELD") "both") "" "n",
  He.eqO (PySem.W.nsIn K (He.ga K "_HELD") "care") (some none),
  He.eqO (PySem.W.nsIn K (He.ga K "_HELD") "lone") (some none),
  He.eqO (PySem.W.nsIn K (He.ga K "_HELD") "lones") (some (some (.ref (va K (He.ga K "_HELD") "lones")))),
  pairB K (va K (He.ga K "_HELD") "lones") "r" "n",
  He.eqO (PySem.W.nsIn K (He.ga K "_HELD") "pairs") (some (some (.ref (va K (He.ga K "_HELD") "pairs")))),
  pairB K (va K (He.ga K "_HELD") "pairs") "" "r",
  He.eqO (PySem.W.nsIn K (He.ga K "_MADE_OF") "any") (some (some (.ref (va K (He.ga K "_MADE_OF") "any")))),
  seqB K (va K (He.ga K "_MADE_OF") "any") [.str "a", .str "n", .str "r"],
  He.eqO (PySem.W.nsIn K (He.ga K "_MADE_OF") "bare") (some (some (.ref (va K (He.ga K "_MADE_OF") "bare")))),
  seqB K (va K (He.ga K "_MADE_OF") "bare") [.str "a", .str "n"],
  He.eqO (PySem.W.nsIn K (He.ga K "_MADE_OF") "lone") (some (some (.ref (va K (He.ga K "_MADE_OF") "lone")))),
  seqB K (va K (He.ga K "_MADE_OF") "lone") [.str "a", .str "r"],
  He.eqO (PySem.W.nsIn K (He.ga K "_REPLACED") "all") (some (some (.ref (va K (He.ga K "_REPLACED") "all")))),
  seqB K (va K (He.ga K "_REPLACED") "all") [.ref (ia K (va K (He.ga K "_REPLACED") "all") 0)],
  pairB K (ia K (va K (He.ga K "_REPLACED") "all") 0) "n" "rn",
  He.eqO (PySem.W.nsIn K (He.ga K "_REPLACED") "both") (some (some (.ref (va K (He.ga K "_REPLACED") "both")))),
  seqB K (va K (He.ga K "_REPLACED") "both") [.ref (ia K (va K (He.ga K "_REPLACED") "both") 0), .ref (ia K (va K (He.ga K "_REPLACED") "both") 1)],
  pairB K (ia K (va K (He.ga K "_REPLACED") "both") 0) "rn" "n",
  pairB K (ia K (va K (He.ga K "_REPLACED") "both") 1) "r" "n",
  He.eqO (PySem.W.nsIn K (He.ga K "_REPLACED") "care") (some (some (.ref (va K (He.ga K "_REPLACED") "care")))),
  seqB K (va K (He.ga K "_REPLACED") "care") [.ref (ia K (va K (He.ga K "_REPLACED") "care") 0), .ref (ia K (va K (He.ga K "_REPLACED") "care") 1)],
  pairB K (ia K (va K (He.ga K "_REPLACED") "care") 0) "rn" "n",
  pairB K (ia K (va K (He.ga K "_REPLACED") "care") 1) "n" "rn",
  He.eqO (PySem.W.nsIn K (He.ga K "_REPLACED") "lone") (some (some (.ref (va K (He.ga K "_REPLACED") "lone")))),
  seqB K (va K (He.ga K "_REPLACED") "lone") [.ref (ia K (va K (He.ga K "_REPLACED") "lone") 0)],
  pairB K (ia K (va K (He.ga K "_REPLACED") "lone") 0) "n" "r",
  He.eqO (PySem.W.nsIn K (He.ga K "_REPLACED") "lones") (some (some (.ref (va K (He.ga K "_REPLACED") "lones")))),
  seqB K (va K (He.ga K "_REPLACED") "lones") [.ref (ia K (va K (He.ga K "_REPLACED") "lones") 0), .ref (ia K (va K (He.ga K "_REPLACED") "lones") 1), .ref (ia K (va K (He.ga K "_REPLACED") "lones") 2)],
  pairB K (ia K (va K (He.ga K "_REPLACED") "lones") 0) "rn" "x"]
def h_ex2 (K : PySem.W.Frag) : List Bool := [pairB K (ia K (va K (He.ga K "_REPLACED") "lones") 1) "r" "n",
  pairB K (ia K (va K (He.ga K "_REPLACED") "lones") 2) "x" "rn",
  He.eqO (PySem.W.nsIn K (He.ga K "_REPLACED") "pairs") (some (some (.ref (va K (He.ga K "_REPLACED") "pairs")))),
  seqB K (va K (He.ga K "_REPLACED") "pairs") [.ref (ia K (va K (He.ga K "_REPLACED") "pairs") 0)],
  pairB K (ia K (va K (He.ga K "_REPLACED") "pairs") 0) "rn" "n"]
abbrev h_exl (K : PySem.W.Frag) : List Bool := h_ex0 K ++ (h_ex1 K ++ (h_ex2 K))
def h_ex (K : PySem.W.Frag) : Bool := (h_exl K).all id
abbrev hR : PySem.W.OpenRow := PySem.W.OpenLaw.row PySem.Challenge.rw_turnedends_k50_known_longer
def h_as : List Addr := 3 :: (List.range' 102 613 ++ List.range' 0 102)
abbrev hk : PySem.W.Hook := hookA h_as h_fa h_fn h_ts h_ex
def hob (s : PySem.W.SharedT) : He.AlX := obsA h_as h_fa h_fn h_ts h_ex (HandSHeadRun.getT s)
theorem hob_eq (s : PySem.W.SharedT) : hob s = hk.obs s.abs := obsA_eq (HandSHeadRun.getT_eq s)
abbrev hP (w : World) : Prop := HandSHeadRun.RunEqI hR (PySem.W.view hR.prog [0, 80]) hk hob 30000 h_lo w
theorem hrunF (w : World) : hP (w.withFollow "special-get-raises" false) := by
  unfold hP HandSHeadRun.RunEqI
  kernel_rfl
theorem hrunT (w : World) : hP (w.withFollow "special-get-raises" true) := by
  unfold hP HandSHeadRun.RunEqI
  kernel_rfl
theorem hrun (w : World) : hP w := PySem.W.byRow2 "special-get-raises" hrunF hrunT w
end K50
namespace K50
open PySem PySem.Spec PyProof.Rows L2 RZ PpSet Rm
section
variable {S : Se} {mg : Str → Option Value} {base : Heap} {ag_CONVERSIONS ag_KINDS ag_SIGNS ag__HELD ag__MADE_OF ag__PLAIN ag__REPLACED ag_behind : Addr}
theorem ok__law_rates_right {f : Addr} {fd : FuncData} {fc_greatest_rate : Addr} {fdc_greatest_rate : FuncData} {fc_least_rate : Addr} {fdc_least_rate : FuncData} {fc_swell : Addr} {fdc_swell : FuncData} {fq_Swelling : Addr} {fdq_Swelling : FuncData} {fk_Swelling_shows : Addr} {fdk_Swelling_shows : FuncData} (F : Fun S.K "_law_rates_right" "_law_rates_right" s__law_rates_right f fd) (c_greatest_rate : Cal S mg base "greatest_rate" 10 ["way", "kind"] 2 m_greatest_rate fc_greatest_rate fdc_greatest_rate) (c_least_rate : Cal S mg base "least_rate" 10 ["way", "kind"] 2 m_least_rate fc_least_rate fdc_least_rate) (f_rate : Fld S "rate" [(1, 0)]) (c_swell : CalK S mg base "swell" 9 ["way", "kind", "least"] 2 m_swell "least" fc_swell fdc_swell) (q_Swelling : Mak S mg base 1 "Swelling" 1 ["self", "rate", "ahead", "ring", "heights"] 5 m_Swelling_init fq_Swelling fdq_Swelling 4) (k_Swelling_shows : MetK S mg base 1 "shows" 9 ["self", "way", "kind", "least"] 3 m_Swelling_shows "least" fk_Swelling_shows fdk_Swelling_shows) (n_any : mg "any" = none) : FnOk S.P S.w S.K mg base CX0 11 f fd [] (spM S 0 m__law_rates_right) := by
  refine F.ok sc__law_rates_right (fun vs H Q E h => h.1) (fun cdv A outer s H vs Q E hr h => ?_)
  have nd := sc__law_rates_right.nd
  refine ⟨_, (pss_cons (ps_set (i := 0) nd rfl (Or.inl rfl) (pe_lst (pa_cons (pe_tup (pa_cons (pe_tup (pa_cons pe_str pa_nil)) (pa_cons pe_str (pa_cons (pe_tup (pa_cons pe_int (pa_cons pe_int pa_nil))) (pa_cons (pe_tup (pa_cons pe_int (pa_cons pe_int pa_nil))) pa_nil))))) (pa_cons (pe_tup (pa_cons (pe_tup (pa_cons pe_str pa_nil)) (pa_cons pe_str (pa_cons (pe_tup (pa_cons pe_int (pa_cons pe_int pa_nil))) (pa_cons (pe_tup (pa_cons pe_int (pa_cons pe_int pa_nil))) pa_nil))))) (pa_cons (pe_tup (pa_cons (pe_tup (pa_cons pe_str pa_nil)) (pa_cons pe_str (pa_cons (pe_tup (pa_cons pe_int (pa_cons pe_int pa_nil))) (pa_cons (pe_tup (pa_cons pe_int (pa_cons pe_int pa_nil))) pa_nil))))) pa_nil))))) (pss_cons (ps_set (i := 0) nd rfl (Or.inl rfl) (pe_op (op_addS S) (pv 0) (pe_lst (pa_cons (pe_tup (pa_cons (pe_tup (pa_cons pe_str pa_nil)) (pa_cons pe_str (pa_cons (pe_tup (pa_cons pe_int (pa_cons pe_int pa_nil))) (pa_cons (pe_tup (pa_cons pe_int (pa_cons pe_int pa_nil))) pa_nil))))) (pa_cons (pe_tup (pa_cons (pe_tup (pa_cons pe_str pa_nil)) (pa_cons pe_str (pa_cons (pe_tup (pa_cons pe_int (pa_cons pe_int pa_nil))) (pa_cons (pe_tup (pa_cons pe_int (pa_cons pe_int pa_nil))) pa_nil))))) pa_nil))))) (pss_cons (ps_set (i := 0) nd rfl (Or.inl rfl) (pe_op (op_addS S) (pv 0) (pe_lst (pa_cons (pe_tup (pa_cons (pe_tup (pa_cons pe_str pa_nil)) (pa_cons pe_str (pa_cons (pe_tup (pa_cons pe_int (pa_cons pe_int pa_nil))) (pa_cons (pe_tup (pa_cons pe_int (pa_cons pe_int pa_nil))) pa_nil))))) (pa_cons (pe_tup (pa_cons (pe_tup (pa_cons pe_str pa_nil)) (pa_cons pe_str (pa_cons (pe_tup (pa_cons pe_int (pa_cons pe_int pa_nil))) (pa_cons (pe_tup (pa_cons pe_int (pa_cons pe_int pa_nil))) pa_nil))))) (pa_cons (pe_tup (pa_cons (pe_tup pa_nil) (pa_cons pe_str (pa_cons (pe_tup (pa_cons pe_int (pa_cons pe_int pa_nil))) (pa_cons (pe_tup (pa_cons pe_int (pa_cons pe_int pa_nil))) pa_nil))))) pa_nil)))))) (pss_cons (ps_set (i := 0) nd rfl (Or.inl rfl) (pe_op (op_addS S) (pv 0) (pe_lst (pa_cons (pe_tup (pa_cons (pe_tup (pa_cons pe_str (pa_cons pe_str pa_nil))) (pa_cons pe_str (pa_cons (pe_tup (pa_cons pe_int (pa_cons pe_int pa_nil))) (pa_cons (pe_tup (pa_cons pe_int (pa_cons pe_int pa_nil))) pa_nil))))) (pa_cons (pe_tup (pa_cons (pe_tup (pa_cons pe_str (pa_cons pe_str pa_nil))) (pa_cons pe_str (pa_cons (pe_tup (pa_cons pe_int (pa_cons pe_int pa_nil))) (pa_cons (pe_tup (pa_cons pe_int (pa_cons pe_int pa_nil))) pa_nil))))) pa_nil))))) (pss_cons (ps_set (i := 0) nd rfl (Or.inl rfl) (pe_op (op_addS S) (pv 0) (pe_lst (pa_cons (pe_tup (pa_cons (pe_tup (pa_cons pe_str pa_nil)) (pa_cons pe_str (pa_cons (pe_tup (pa_cons pe_int (pa_cons pe_int pa_nil))) (pa_cons (pe_tup (pa_cons pe_int (pa_cons pe_int pa_nil))) pa_nil))))) (pa_cons (pe_tup (pa_cons (pe_tup (pa_cons pe_str (pa_cons pe_str pa_nil))) (pa_cons pe_str (pa_cons (pe_tup (pa_cons pe_int (pa_cons pe_int pa_nil))) (pa_cons (pe_tup (pa_cons pe_int (pa_cons pe_int pa_nil))) pa_nil))))) pa_nil))))) (pss_cons (ps_for PassesOwn.never rfl (pi_anyS S (pv 0)) (pg_tup rfl (pgs_cons (pg_name (i := 1) nd rfl (Or.inl rfl)) (pgs_cons (pg_name (i := 2) nd rfl (Or.inl rfl)) (pgs_cons (pg_name (i := 3) nd rfl (Or.inl rfl)) (pgs_cons (pg_name (i := 4) nd rfl (Or.inl rfl)) pgs_nil))))) (pss_cons (ps_if (PW.pt (pw_or (pt_cmpR (op_neS S hr.units) (pe_call c_greatest_rate.ok (hr.mono (by decide)) (by rfl) c_greatest_rate.g c_greatest_rate.kp c_greatest_rate.b .nil pass0 (pa_cons (pv 1) (pa_cons (pv 2) pa_nil))) (pv 3) (nomark _)) (pw_or1 (pt_cmpR (op_neS S hr.units) (pe_call c_least_rate.ok (hr.mono (by decide)) (by rfl) c_least_rate.g c_least_rate.kp c_least_rate.b .nil pass0 (pa_cons (pv 1) (pa_cons (pv 2) pa_nil))) (pv 4) (nomark _))))) (pss_one (ps_ret pe_bl)) pss_nil) (pss_one (ps_if (PW.pt (pw_or (pt_cmpR (op_neS S hr.units) (pe_fldS S (pe_call c_swell.ok (hr.mono (by decide)) (by rfl) c_swell.g c_swell.kp c_swell.d.choose_spec.2 c_swell.d.choose_spec.1 pass0 (pa_cons (pv 1) (pa_cons (pv 2) pa_nil)))) (pv 3) (nomark _)) (pw_or1 (pt_cmpR (op_neS S hr.units) (pe_fldS S (pe_callN c_swell.ok (hr.mono (by decide)) (by rfl) c_swell.g c_swell.kp c_swell.kb pass0 (pa_cons (pv 1) (pa_cons (pv 2) pa_nil)) (pk_cons pe_bl pk_nil))) (pv 4) (nomark _))))) (pss_one (ps_ret pe_bl)) pss_nil)))) (pss_cons (ps_set (i := 5) nd rfl (Or.inl rfl) (pe_tup (pa_cons (pe_tup (pa_cons pe_bl pa_nil)) (pa_cons pe_bl pa_nil)))) (pss_cons (ps_set (i := 6) nd rfl (Or.inl rfl) (pe_make q_Swelling.mak q_Swelling.ok (hr.mono (by decide)) (by rfl) q_Swelling.g q_Swelling.b .nil pass0 (pa_cons (pe_tup (pa_cons pe_int (pa_cons pe_int pa_nil))) (pa_cons pe_str (pa_cons pe_str (pa_cons (pe_dispS S (hu9 hr) (pv 5) pe_int) pa_nil)))))) (pss_cons (ps_if (pt_not (pt_truS S (pe_meth (pv 6) k_Swelling_shows.cl k_Swelling_shows.mt k_Swelling_shows.ok (hr.mono (by decide)) k_Swelling_shows.d.choose_spec.2 k_Swelling_shows.d.choose_spec.1 pass0 (pa_cons (pe_tup (pa_cons pe_str pa_nil)) (pa_cons pe_str pa_nil))))) (pss_one (ps_ret pe_bl)) pss_nil) (pss_cons (ps_if (pt_not (pt_truS S (pe_meth (pe_make q_Swelling.mak q_Swelling.ok (hr.mono (by decide)) (by rfl) q_Swelling.g q_Swelling.b .nil pass0 (pa_cons (pe_tup (pa_cons pe_int (pa_cons pe_int pa_nil))) (pa_cons pe_str (pa_cons pe_str (pa_cons (pe_dispS S (hu9 hr) (pv 5) (pe_un un_neg pe_int)) pa_nil))))) k_Swelling_shows.cl k_Swelling_shows.mt k_Swelling_shows.ok (hr.mono (by decide)) k_Swelling_shows.d.choose_spec.2 k_Swelling_shows.d.choose_spec.1 pass0 (pa_cons (pe_tup (pa_cons pe_str pa_nil)) (pa_cons pe_str pa_nil))))) (pss_one (ps_ret pe_bl)) pss_nil) (pss_cons (ps_set (i := 7) nd rfl (Or.inl rfl) (pe_lst (pa_cons (pe_make q_Swelling.mak q_Swelling.ok (hr.mono (by decide)) (by rfl) q_Swelling.g q_Swelling.b .nil pass0 (pa_cons (pe_tup (pa_cons pe_int (pa_cons pe_int pa_nil))) (pa_cons pe_str (pa_cons pe_str (pa_cons (pe_dispS S (hu9 hr) (pv 5) pe_int) pa_nil))))) (pa_cons (pe_make q_Swelling.mak q_Swelling.ok (hr.mono (by decide)) (by rfl) q_Swelling.g q_Swelling.b .nil pass0 (pa_cons (pe_tup (pa_cons pe_int (pa_cons pe_int pa_nil))) (pa_cons pe_str (pa_cons pe_str (pa_cons (pe_dispS S (hu9 hr) (pv 5) pe_int) pa_nil))))) (pa_cons (pe_make q_Swelling.mak q_Swelling.ok (hr.mono (by decide)) (by rfl) q_Swelling.g q_Swelling.b .nil pass0 (pa_cons (pe_tup (pa_cons pe_int (pa_cons pe_int pa_nil))) (pa_cons pe_str (pa_cons pe_str (pa_cons (pe_newS S) pa_nil))))) pa_nil))))) (pss_cons (ps_set (i := 7) nd rfl (Or.inl rfl) (pe_op (op_addS S) (pv 7) (pe_lst (pa_cons (pe_make q_Swelling.mak q_Swelling.ok (hr.mono (by decide)) (by rfl) q_Swelling.g q_Swelling.b .nil pass0 (pa_cons (pe_tup (pa_cons pe_int (pa_cons pe_int pa_nil))) (pa_cons pe_str (pa_cons pe_str (pa_cons (pe_dispS S (hu9 hr) (pv 5) pe_int) pa_nil))))) (pa_cons (pe_make q_Swelling.mak q_Swelling.ok (hr.mono (by decide)) (by rfl) q_Swelling.g q_Swelling.b .nil pass0 (pa_cons (pe_tup (pa_cons pe_int (pa_cons pe_int pa_nil))) (pa_cons pe_str (pa_cons pe_str (pa_cons (pe_dispS S (hu9 hr) (pv 5) pe_int) pa_nil))))) pa_nil))))) (pss_cons (ps_if (PW.pt (pw_or (pt_truS S (pe_callB (call_anyS S rfl) (by rfl) n_any (by decide +kernel) (pa_cons (pe_lc (own := [("one", 9)]) (g := (gName 9)) (by rfl) nd (pi_anyS S (pv 7)) (blkOk_by (own := [("one", 9)]) (N := ["rows", "way", "kind", "most", "few", "place", "plain", "odd", "heights", "one"]) (sc := defScope s__law_rates_right) (by decide +kernel)) (fun _ _ _ _ _ => (pg_name (i := 9) nd rfl (Or.inl rfl))) (fun _ _ _ _ _ => pts_nil) (fun _ _ _ _ _ => (pe_meth (pv 9) k_Swelling_shows.cl k_Swelling_shows.mt k_Swelling_shows.ok (hr.mono (by decide)) k_Swelling_shows.d.choose_spec.2 k_Swelling_shows.d.choose_spec.1 pass0 (pa_cons (pe_tup (pa_cons pe_str pa_nil)) (pa_cons pe_str pa_nil))))) pa_nil))) (pw_or1 (pt_truS S (pe_meth (pv 6) k_Swelling_shows.cl k_Swelling_shows.mt k_Swelling_shows.ok (hr.mono (by decide)) k_Swelling_shows.d.choose_spec.2 k_Swelling_shows.d.choose_spec.1 pass0 (pa_cons (pe_tup (pa_cons pe_str pa_nil)) (pa_cons pe_str pa_nil))))))) (pss_one (ps_ret pe_bl)) pss_nil) (pss_cons (ps_if (PW.pt (pw_or (pt_truS S (pe_meth (pv 6) k_Swelling_shows.cl k_Swelling_shows.mt k_Swelling_shows.ok (hr.mono (by decide)) k_Swelling_shows.d.choose_spec.2 k_Swelling_shows.d.choose_spec.1 pass0 (pa_cons (pe_tup (pa_cons pe_str pa_nil)) (pa_cons pe_str pa_nil)))) (pw_or1 (pt_truS S (pe_methN (pv 6) k_Swelling_shows.cl k_Swelling_shows.mt k_Swelling_shows.ok (hr.mono (by decide)) k_Swelling_shows.kb pass0 (pa_cons (pe_tup (pa_cons pe_str pa_nil)) (pa_cons pe_str pa_nil)) (pk_cons pe_bl pk_nil)))))) (pss_one (ps_ret pe_bl)) pss_nil) (pss_cons (ps_set (i := 8) nd rfl (Or.inl rfl) (pe_disp2S S (hu9 hr) (pe_tup (pa_cons (pe_tup (pa_cons pe_bl pa_nil)) (pa_cons pe_bl pa_nil))) pe_int (pe_tup (pa_cons (pe_tup (pa_cons pe_bl pa_nil)) (pa_cons pe_bl pa_nil))) (pe_un un_neg pe_int))) (pss_cons (ps_if (pt_not (pt_truS S (pe_methN (pe_make q_Swelling.mak q_Swelling.ok (hr.mono (by decide)) (by rfl) q_Swelling.g q_Swelling.b .nil pass0 (pa_cons (pe_tup (pa_cons pe_int (pa_cons pe_int pa_nil))) (pa_cons pe_str (pa_cons pe_str (pa_cons (pv 8) pa_nil))))) k_Swelling_shows.cl k_Swelling_shows.mt k_Swelling_shows.ok (hr.mono (by decide)) k_Swelling_shows.kb pass0 (pa_cons (pe_tup (pa_cons pe_str pa_nil)) (pa_cons pe_str pa_nil)) (pk_cons pe_bl pk_nil)))) (pss_one (ps_ret pe_bl)) pss_nil) (pss_cons (ps_asg pe_int (pg_sub (pv 8) (pe_tup (pa_cons (pe_tup (pa_cons pe_bl pa_nil)) (pa_cons pe_bl pa_nil))) (set_S S (hu9 hr)))) (pss_cons (ps_if (pt_truS S (pe_methN (pe_make q_Swelling.mak q_Swelling.ok (hr.mono (by decide)) (by rfl) q_Swelling.g q_Swelling.b .nil pass0 (pa_cons (pe_tup (pa_cons pe_int (pa_cons pe_int pa_nil))) (pa_cons pe_str (pa_cons pe_str (pa_cons (pv 8) pa_nil))))) k_Swelling_shows.cl k_Swelling_shows.mt k_Swelling_shows.ok (hr.mono (by decide)) k_Swelling_shows.kb pass0 (pa_cons (pe_tup (pa_cons pe_str pa_nil)) (pa_cons pe_str pa_nil)) (pk_cons pe_bl pk_nil))) (pss_one (ps_ret pe_bl)) pss_nil) (pss_one (ps_ret (pe_not (pe_methN (pe_make q_Swelling.mak q_Swelling.ok (hr.mono (by decide)) (by rfl) q_Swelling.g q_Swelling.b .nil pass0 (pa_cons (pe_tup (pa_cons pe_int (pa_cons pe_int pa_nil))) (pa_cons pe_str (pa_cons pe_str (pa_cons (pv 8) pa_nil))))) k_Swelling_shows.cl k_Swelling_shows.mt k_Swelling_shows.ok (hr.mono (by decide)) k_Swelling_shows.kb pass0 (pa_cons (pe_tup (pa_cons pe_str pa_nil)) (pa_cons pe_str pa_nil)) (pk_cons pe_bl pk_nil))))))))))))))))))))))), fn_run (N := ["rows", "way", "kind", "most", "few", "place", "plain", "odd", "heights", "one"]) (m := mb__law_rates_right) ?_ h⟩
  exact (ss_seq (ss_asg (se_lst (sa_cons (se_tup (sa_cons (se_tup (sa_cons (se_strL) sa_nil)) (sa_cons (se_strL) (sa_cons (se_tup (sa_cons se_int (sa_cons se_int sa_nil))) (sa_cons (se_tup (sa_cons se_int (sa_cons se_int sa_nil))) sa_nil))))) (sa_cons (se_tup (sa_cons (se_tup (sa_cons (se_strL) sa_nil)) (sa_cons (se_strL) (sa_cons (se_tup (sa_cons se_int (sa_cons se_int sa_nil))) (sa_cons (se_tup (sa_cons se_int (sa_cons se_int sa_nil))) sa_nil))))) (sa_cons (se_tup (sa_cons (se_tup (sa_cons (se_strL) sa_nil)) (sa_cons (se_strL) (sa_cons (se_tup (sa_cons se_int (sa_cons se_int sa_nil))) (sa_cons (se_tup (sa_cons se_int (sa_cons se_int sa_nil))) sa_nil))))) sa_nil)))) sg_name) (ss_seq (ss_asg (se_op vo_add se_var (se_lst (sa_cons (se_tup (sa_cons (se_tup (sa_cons (se_strL) sa_nil)) (sa_cons (se_strL) (sa_cons (se_tup (sa_cons se_int (sa_cons se_int sa_nil))) (sa_cons (se_tup (sa_cons se_int (sa_cons se_int sa_nil))) sa_nil))))) (sa_cons (se_tup (sa_cons (se_tup (sa_cons (se_strL) sa_nil)) (sa_cons (se_strL) (sa_cons (se_tup (sa_cons se_int (sa_cons se_int sa_nil))) (sa_cons (se_tup (sa_cons se_int (sa_cons se_int sa_nil))) sa_nil))))) sa_nil)))) sg_name) (ss_seq (ss_asg (se_op vo_add se_var (se_lst (sa_cons (se_tup (sa_cons (se_tup (sa_cons (se_strL) sa_nil)) (sa_cons (se_strL) (sa_cons (se_tup (sa_cons se_int (sa_cons se_int sa_nil))) (sa_cons (se_tup (sa_cons se_int (sa_cons se_int sa_nil))) sa_nil))))) (sa_cons (se_tup (sa_cons (se_tup (sa_cons (se_strL) sa_nil)) (sa_cons (se_strL) (sa_cons (se_tup (sa_cons se_int (sa_cons se_int sa_nil))) (sa_cons (se_tup (sa_cons se_int (sa_cons se_int sa_nil))) sa_nil))))) (sa_cons (se_tup (sa_cons (se_tup sa_nil) (sa_cons (se_strL) (sa_cons (se_tup (sa_cons se_int (sa_cons se_int sa_nil))) (sa_cons (se_tup (sa_cons se_int (sa_cons se_int sa_nil))) sa_nil))))) sa_nil))))) sg_name) (ss_seq (ss_asg (se_op vo_add se_var (se_lst (sa_cons (se_tup (sa_cons (se_tup (sa_cons (se_strL) (sa_cons (se_strL) sa_nil))) (sa_cons (se_strL) (sa_cons (se_tup (sa_cons se_int (sa_cons se_int sa_nil))) (sa_cons (se_tup (sa_cons se_int (sa_cons se_int sa_nil))) sa_nil))))) (sa_cons (se_tup (sa_cons (se_tup (sa_cons (se_strL) (sa_cons (se_strL) sa_nil))) (sa_cons (se_strL) (sa_cons (se_tup (sa_cons se_int (sa_cons se_int sa_nil))) (sa_cons (se_tup (sa_cons se_int (sa_cons se_int sa_nil))) sa_nil))))) sa_nil)))) sg_name) (ss_seq (ss_asg (se_op vo_add se_var (se_lst (sa_cons (se_tup (sa_cons (se_tup (sa_cons (se_strL) sa_nil)) (sa_cons (se_strL) (sa_cons (se_tup (sa_cons se_int (sa_cons se_int sa_nil))) (sa_cons (se_tup (sa_cons se_int (sa_cons se_int sa_nil))) sa_nil))))) (sa_cons (se_tup (sa_cons (se_tup (sa_cons (se_strL) (sa_cons (se_strL) sa_nil))) (sa_cons (se_strL) (sa_cons (se_tup (sa_cons se_int (sa_cons se_int sa_nil))) (sa_cons (se_tup (sa_cons se_int (sa_cons se_int sa_nil))) sa_nil))))) sa_nil)))) sg_name) (ss_seq (ss_for (si_any se_var) (sg_tup (sgs_cons sg_name (sgs_cons sg_name (sgs_cons sg_name (sgs_cons sg_name sgs_nil))))) (ss_seq (ss_if (st_or (st_test (se_op vo_ne (se_callT (sa_cons se_var (sa_cons se_var sa_nil))) se_var)) (st_test (se_op vo_ne (se_callT (sa_cons se_var (sa_cons se_var sa_nil))) se_var))) (ss_ret se_bl) ss_next) (ss_if (st_or (st_test (se_op vo_ne (se_fld f_rate (se_dfl (se_callT (sa_cat (n := 2) (sa_cons se_var (sa_cons se_var sa_nil)) sa_k1f)))) se_var)) (st_test (se_op vo_ne (se_fld f_rate (se_kw (se_callT (sa_catN (sa_cons se_var (sa_cons se_var sa_nil)) (sa_cons se_bl sa_nil))))) se_var))) (ss_ret se_bl) ss_next))) (ss_seq (ss_asg (se_tup (sa_cons (se_tup (sa_cons se_bl sa_nil)) (sa_cons se_bl sa_nil))) sg_name) (ss_seq (ss_asg (se_makeS q_Swelling.k (sa_cons (se_tup (sa_cons se_int (sa_cons se_int sa_nil))) (sa_cons (se_strL) (sa_cons (se_strL) (sa_cons (se_dispV se_var se_int) sa_nil))))) sg_name) (ss_seq (ss_if (st_not (st_tru (se_mdfl (se_methY k_Swelling_shows.nm se_var (sa_cat (n := 2) (sa_cons (se_tup (sa_cons (se_strL) sa_nil)) (sa_cons (se_strL) sa_nil)) sa_k1f))))) (ss_ret se_bl) ss_next) (ss_seq (ss_if (st_not (st_tru (se_mdfl (se_methY k_Swelling_shows.nm (se_makeS q_Swelling.k (sa_cons (se_tup (sa_cons se_int (sa_cons se_int sa_nil))) (sa_cons (se_strL) (sa_cons (se_strL) (sa_cons (se_dispV se_var (se_un vu_neg se_int)) sa_nil))))) (sa_cat (n := 2) (sa_cons (se_tup (sa_cons (se_strL) sa_nil)) (sa_cons (se_strL) sa_nil)) sa_k1f))))) (ss_ret se_bl) ss_next) (ss_seq (ss_asg (se_lst (sa_cons (se_makeS q_Swelling.k (sa_cons (se_tup (sa_cons se_int (sa_cons se_int sa_nil))) (sa_cons (se_strL) (sa_cons (se_strL) (sa_cons (se_dispV se_var se_int) sa_nil))))) (sa_cons (se_makeS q_Swelling.k (sa_cons (se_tup (sa_cons se_int (sa_cons se_int sa_nil))) (sa_cons (se_strL) (sa_cons (se_strL) (sa_cons (se_dispV se_var se_int) sa_nil))))) (sa_cons (se_makeS q_Swelling.k (sa_cons (se_tup (sa_cons se_int (sa_cons se_int sa_nil))) (sa_cons (se_strL) (sa_cons (se_strL) (sa_cons se_newV sa_nil))))) sa_nil)))) sg_name) (ss_seq (ss_asg (se_op vo_add se_var (se_lst (sa_cons (se_makeS q_Swelling.k (sa_cons (se_tup (sa_cons se_int (sa_cons se_int sa_nil))) (sa_cons (se_strL) (sa_cons (se_strL) (sa_cons (se_dispV se_var se_int) sa_nil))))) (sa_cons (se_makeS q_Swelling.k (sa_cons (se_tup (sa_cons se_int (sa_cons se_int sa_nil))) (sa_cons (se_strL) (sa_cons (se_strL) (sa_cons (se_dispV se_var se_int) sa_nil))))) sa_nil)))) sg_name) (ss_seq (ss_if (st_or (st_tru (se_cb vc_any (sa_cons (se_lc (vs := [9]) (si_any se_var) sg_name (gw_name (by decide)) st_yes (se_mdfl (se_methY k_Swelling_shows.nm se_var (sa_cat (n := 2) (sa_cons (se_tup (sa_cons (se_strL) sa_nil)) (sa_cons (se_strL) sa_nil)) sa_k1f)))) sa_nil))) (st_tru (se_mdfl (se_methY k_Swelling_shows.nm se_var (sa_cat (n := 2) (sa_cons (se_tup (sa_cons (se_strL) sa_nil)) (sa_cons (se_strL) sa_nil)) sa_k1f))))) (ss_ret se_bl) ss_next) (ss_seq (ss_if (st_or (st_tru (se_mdfl (se_methY k_Swelling_shows.nm se_var (sa_cat (n := 2) (sa_cons (se_tup (sa_cons (se_strL) sa_nil)) (sa_cons (se_strL) sa_nil)) sa_k1f)))) (st_tru (se_mkw (se_methY k_Swelling_shows.nm se_var (sa_catN (sa_cons (se_tup (sa_cons (se_strL) sa_nil)) (sa_cons (se_strL) sa_nil)) (sa_cons se_bl sa_nil)))))) (ss_ret se_bl) ss_next) (ss_seq (ss_asg (se_disp2M (se_tup (sa_cons (se_tup (sa_cons se_bl sa_nil)) (sa_cons se_bl sa_nil))) se_int (se_tup (sa_cons (se_tup (sa_cons se_bl sa_nil)) (sa_cons se_bl sa_nil))) (se_un vu_neg se_int)) sg_name) (ss_seq (ss_if (st_not (st_tru (se_mkw (se_methY k_Swelling_shows.nm (se_makeS q_Swelling.k (sa_cons (se_tup (sa_cons se_int (sa_cons se_int sa_nil))) (sa_cons (se_strL) (sa_cons (se_strL) (sa_cons se_var sa_nil))))) (sa_catN (sa_cons (se_tup (sa_cons (se_strL) sa_nil)) (sa_cons (se_strL) sa_nil)) (sa_cons se_bl sa_nil)))))) (ss_ret se_bl) ss_next) (ss_seq (ss_asg se_int (sg_sub vst_X se_var (se_tup (sa_cons (se_tup (sa_cons se_bl sa_nil)) (sa_cons se_bl sa_nil))))) (ss_seq (ss_if (st_tru (se_mkw (se_methY k_Swelling_shows.nm (se_makeS q_Swelling.k (sa_cons (se_tup (sa_cons se_int (sa_cons se_int sa_nil))) (sa_cons (se_strL) (sa_cons (se_strL) (sa_cons se_var sa_nil))))) (sa_catN (sa_cons (se_tup (sa_cons (se_strL) sa_nil)) (sa_cons (se_strL) sa_nil)) (sa_cons se_bl sa_nil))))) (ss_ret se_bl) ss_next) (ss_ret (se_notV (se_mkw (se_methY k_Swelling_shows.nm (se_makeS q_Swelling.k (sa_cons (se_tup (sa_cons se_int (sa_cons se_int sa_nil))) (sa_cons (se_strL) (sa_cons (se_strL) (sa_cons se_var sa_nil))))) (sa_catN (sa_cons (se_tup (sa_cons (se_strL) sa_nil)) (sa_cons (se_strL) sa_nil)) (sa_cons se_bl sa_nil))))))))))))))))))))))))
theorem bd__law_rates_right {f : Addr} {fd : FuncData} (F : Fun S.K "_law_rates_right" "_law_rates_right" s__law_rates_right f fd) : Binds S.K fd [] [] := F.binds (ps := []) fun _ _ _ _ _ _ us hl => match us, hl with | [], _ => rfl
theorem ok__is_short {f : Addr} {fd : FuncData} {fc_is_text : Addr} {fdc_is_text : FuncData} (F : Fun S.K "_is_short" "_is_short" s__is_short f fd) (c_is_text : Cal S mg base "is_text" 1 ["text"] 1 m_is_text fc_is_text fdc_is_text) (n_len : mg "len" = none) (i_MOST_SIGNS : ∃ t, mg "MOST_SIGNS" = some (.int 12 t)) : FnOk S.P S.w S.K mg base CX0 2 f fd ["text"] (spM S 1 m__is_short) := by
  refine F.ok sc__is_short (fun vs H Q E h => h.1) (fun cdv A outer s H vs Q E hr h => ?_)
  have nd := sc__is_short.nd
  refine ⟨_, (pss_one (ps_ret (pe_and (pe_call c_is_text.ok (hr.mono (by decide)) (by rfl) c_is_text.g c_is_text.kp c_is_text.b .nil pass0 (pa_cons (pv 0) pa_nil)) (pe_one (pe_cmpR op_le (pe_callB (call_lenS S) (by rfl) n_len (by decide +kernel) (pa_cons (pv 0) pa_nil)) (pe_glob (v := .int 12) (by rfl) i_MOST_SIGNS.choose_spec ⟨_, rfl⟩) (nomark _)))))), fn_run (N := ["text"]) (m := mb__is_short) ?_ h⟩
  exact (ss_ret (se_andV (se_callT (sa_cons se_var sa_nil)) (se_op vo_cmp (se_cb vc_len (sa_cons se_var sa_nil)) se_int)))
theorem bd__is_short {f : Addr} {fd : FuncData} (F : Fun S.K "_is_short" "_is_short" s__is_short f fd) : Binds S.K fd ["text"] [] := F.binds (ps := ["text"]) fun _ _ _ _ _ _ us hl => match us, hl with | [_], _ => rfl
theorem ok__check_fitting {f : Addr} {fd : FuncData} {fc_check_way : Addr} {fdc_check_way : FuncData} {fc_check_kind : Addr} {fdc_check_kind : FuncData} {fc__check_short : Addr} {fdc__check_short : FuncData} {fc__is_short : Addr} {fdc__is_short : FuncData} (F : Fun S.K "_check" "_check" s__check_fitting f fd) (c_check_way : Cal S mg base "check_way" 3 ["way"] 1 m_check_way fc_check_way fdc_check_way) (c_check_kind : Cal S mg base "check_kind" 1 ["kind"] 1 m_check_kind fc_check_kind fdc_check_kind) (c__check_short : Cal S mg base "_check_short" 3 ["text"] 1 m__check_short fc__check_short fdc__check_short) (c__is_short : Cal S mg base "_is_short" 2 ["text"] 1 m__is_short fc__is_short fdc__is_short) : FnOk S.P S.w S.K mg base CX0 4 f fd ["way", "kind", "text", "wanted"] (spM S 4 m__check_fitting) := by
  refine F.ok sc__check_fitting (fun vs H Q E h => h.1) (fun cdv A outer s H vs Q E hr h => ?_)
  have nd := sc__check_fitting.nd
  refine ⟨_, (pss_cons (ps_expr (pe_call c_check_way.ok (hr.mono (by decide)) (by rfl) c_check_way.g c_check_way.kp c_check_way.b .nil pass0 (pa_cons (pv 0) pa_nil))) (pss_cons (ps_expr (pe_call c_check_kind.ok (hr.mono (by decide)) (by rfl) c_check_kind.g c_check_kind.kp c_check_kind.b .nil pass0 (pa_cons (pv 1) pa_nil))) (pss_cons (ps_expr (pe_call c__check_short.ok (hr.mono (by decide)) (by rfl) c__check_short.g c__check_short.kp c__check_short.b .nil pass0 (pa_cons (pv 2) pa_nil))) (pss_one (ps_if (pt_not (pt_truS S (pe_call c__is_short.ok (hr.mono (by decide)) (by rfl) c__is_short.g c__is_short.kp c__is_short.b .nil pass0 (pa_cons (pv 3) pa_nil)))) (pss_one ps_never) pss_nil))))), fn_run (N := ["way", "kind", "text", "wanted"]) (m := mb__check_fitting) ?_ h⟩
  exact (ss_seq (ss_drop (se_callT (sa_cons se_var sa_nil))) (ss_seq (ss_drop (se_callT (sa_cons se_var sa_nil))) (ss_seq (ss_drop (se_callT (sa_cons se_var sa_nil))) (ss_if (st_not (st_tru (se_callT (sa_cons se_var sa_nil)))) ss_bad ss_next))))
theorem bd__check_fitting {f : Addr} {fd : FuncData} (F : Fun S.K "_check" "_check" s__check_fitting f fd) : Binds S.K fd ["way", "kind", "text", "wanted"] [] := F.binds (ps := ["way", "kind", "text", "wanted"]) fun _ _ _ _ _ _ us hl => match us, hl with | [_, _, _, _], _ => rfl
theorem ok_ChangeWalk_is_end {f : Addr} {fd : FuncData} {fk_AimWalk_is_end : Addr} {fdk_AimWalk_is_end : FuncData} (F : Fun S.K "is_end" "ChangeWalk.is_end" s_ChangeWalk_is_end f fd) (n_len : mg "len" = none) (f_text : Fld S "text" [(3, 1), (4, 0)]) (k_AimWalk_is_end : Met S mg base 2 "is_end" 5 ["self", "node"] 2 m_AimWalk_is_end fk_AimWalk_is_end fdk_AimWalk_is_end) (f_aim : Fld S "aim" [(3, 0)]) : FnOk S.P S.w S.K mg base CX0 6 f fd ["self", "node"] (spM S 2 m_ChangeWalk_is_end) := by
  refine F.ok sc_ChangeWalk_is_end (fun vs H Q E h => h.1) (fun cdv A outer s H vs Q E hr h => ?_)
  have nd := sc_ChangeWalk_is_end.nd
  refine ⟨_, (pss_cons (ps_asg (pv 1) (pg_tup rfl (pgs_cons (pg_name (i := 2) nd rfl (Or.inl rfl)) (pgs_cons (pg_name (i := 3) nd rfl (Or.inl rfl)) (pgs_cons (pg_name (i := 4) nd rfl (Or.inl rfl)) pgs_nil))))) (pss_one (ps_ret (pe_and (pe_cmpR (op_eqS S hr.units) (pv 2) (pe_callB (call_lenS S) (by rfl) n_len (by decide +kernel) (pa_cons (pe_fldS S (pv 0)) pa_nil)) (nomark _)) (pe_one (pe_meth (pe_fldS S (pv 0)) k_AimWalk_is_end.cl k_AimWalk_is_end.mt k_AimWalk_is_end.ok (hr.mono (by decide)) k_AimWalk_is_end.b .nil pass0 (pa_cons (pe_tup (pa_cons (pv 3) (pa_cons (pv 4) pa_nil))) pa_nil))))))), fn_run (N := ["self", "node", "at", "place", "done"]) (m := mb_ChangeWalk_is_end) ?_ h⟩
  exact (ss_seq (ss_asg se_var (sg_tup (sgs_cons sg_name (sgs_cons sg_name (sgs_cons sg_name sgs_nil))))) (ss_ret (se_andV (se_op vo_eq se_var (se_cb vc_len (sa_cons (se_fld f_text se_var) sa_nil))) (se_methU k_AimWalk_is_end.nm (se_fld f_aim se_var) (sa_cons (se_tup (sa_cons se_var (sa_cons se_var sa_nil))) sa_nil)))))
theorem bd_ChangeWalk_is_end {f : Addr} {fd : FuncData} (F : Fun S.K "is_end" "ChangeWalk.is_end" s_ChangeWalk_is_end f fd) : Binds S.K fd ["self", "node"] [] := F.binds (ps := ["self", "node"]) fun _ _ _ _ _ _ us hl => match us, hl with | [_, _], _ => rfl
theorem ok_AimWalk_is_fine {f : Addr} {fd : FuncData} {fk_AimWalk_is_end : Addr} {fdk_AimWalk_is_end : FuncData} (F : Fun S.K "is_fine" "AimWalk.is_fine" s_AimWalk_is_fine f fd) (k_AimWalk_is_end : Met S mg base 2 "is_end" 5 ["self", "node"] 2 m_AimWalk_is_end fk_AimWalk_is_end fdk_AimWalk_is_end) : FnOk S.P S.w S.K mg base CX0 6 f fd ["self", "node"] (spM S 2 m_AimWalk_is_fine) := by
  refine F.ok sc_AimWalk_is_fine (fun vs H Q E h => h.1) (fun cdv A outer s H vs Q E hr h => ?_)
  have nd := sc_AimWalk_is_fine.nd
  refine ⟨_, (pss_one (ps_ret (pe_not (pe_meth (pv 0) k_AimWalk_is_end.cl k_AimWalk_is_end.mt k_AimWalk_is_end.ok (hr.mono (by decide)) k_AimWalk_is_end.b .nil pass0 (pa_cons (pv 1) pa_nil))))), fn_run (N := ["self", "node"]) (m := mb_AimWalk_is_fine) ?_ h⟩
  exact (ss_ret (se_notV (se_methU k_AimWalk_is_end.nm se_var (sa_cons se_var sa_nil))))
theorem bd_AimWalk_is_fine {f : Addr} {fd : FuncData} (F : Fun S.K "is_fine" "AimWalk.is_fine" s_AimWalk_is_fine f fd) : Binds S.K fd ["self", "node"] [] := F.binds (ps := ["self", "node"]) fun _ _ _ _ _ _ us hl => match us, hl with | [_, _], _ => rfl
theorem ok_distance {f : Addr} {fd : FuncData} {fc__check_short : Addr} {fdc__check_short : FuncData} {fc_distance_between : Addr} {fdc_distance_between : FuncData} (F : Fun S.K "distance" "distance" s_distance f fd) (c__check_short : Cal S mg base "_check_short" 3 ["text"] 1 m__check_short fc__check_short fdc__check_short) (c_distance_between : Cal S mg base "distance_between" 1 ["text", "other"] 2 m_distance_between fc_distance_between fdc_distance_between) : FnOk S.P S.w S.K mg base CX0 4 f fd ["text", "other"] (spM S 2 m_distance) := by
  refine F.ok sc_distance (fun vs H Q E h => h.1) (fun cdv A outer s H vs Q E hr h => ?_)
  have nd := sc_distance.nd
  refine ⟨_, (pss_cons (ps_expr (pe_call c__check_short.ok (hr.mono (by decide)) (by rfl) c__check_short.g c__check_short.kp c__check_short.b .nil pass0 (pa_cons (pv 0) pa_nil))) (pss_cons (ps_expr (pe_call c__check_short.ok (hr.mono (by decide)) (by rfl) c__check_short.g c__check_short.kp c__check_short.b .nil pass0 (pa_cons (pv 1) pa_nil))) (pss_one (ps_ret (pe_call c_distance_between.ok (hr.mono (by decide)) (by rfl) c_distance_between.g c_distance_between.kp c_distance_between.b .nil pass0 (pa_cons (pv 0) (pa_cons (pv 1) pa_nil))))))), fn_run (N := ["text", "other"]) (m := mb_distance) ?_ h⟩
  exact (ss_seq (ss_drop (se_callT (sa_cons se_var sa_nil))) (ss_seq (ss_drop (se_callT (sa_cons se_var sa_nil))) (ss_ret (se_callT (sa_cons se_var (sa_cons se_var sa_nil))))))
theorem bd_distance {f : Addr} {fd : FuncData} (F : Fun S.K "distance" "distance" s_distance f fd) : Binds S.K fd ["text", "other"] [] := F.binds (ps := ["text", "other"]) fun _ _ _ _ _ _ us hl => match us, hl with | [_, _], _ => rfl
end
end K50
namespace K50
open PySem PySem.Spec PyProof.Rows L2 RZ PpSet Rm
section
variable {S : Se} {mg : Str → Option Value} {base : Heap} {ag_CONVERSIONS ag_KINDS ag_SIGNS ag__HELD ag__MADE_OF ag__PLAIN ag__REPLACED ag_behind : Addr}
theorem ok_is_conversion {f : Addr} {fd : FuncData} {ag_CONVERSIONS : Addr} (F : Fun S.K "is_conversion" "is_conversion" s_is_conversion f fd) (n_isinstance : mg "isinstance" = none) (n_str : mg "str" = none) (g_CONVERSIONS : mg "CONVERSIONS" = some (.ref ag_CONVERSIONS)) (z_CONVERSIONS : ∀ F ι H, RV S.toSg F ι H (.tup [(.str [97, 108, 108]), (.str [98, 111, 116, 104]), (.str [99, 97, 114, 101]), (.str [108, 111, 110, 101]), (.str [108, 111, 110, 101, 115]), (.str [112, 97, 105, 114, 115])]) (.ref ag_CONVERSIONS)) : FnOk S.P S.w S.K mg base CX0 1 f fd ["word"] (spM S 1 m_is_conversion) := by
  refine F.ok sc_is_conversion (fun vs H Q E h => h.1) (fun cdv A outer s H vs Q E hr h => ?_)
  have nd := sc_is_conversion.nd
  refine ⟨_, (pss_one (ps_ret (pe_and (pe_callB (call_isiS S) (by rfl) n_isinstance (by decide +kernel) (pa_cons (pv 0) (pa_cons (pe_bltn (v := .ty "str") (u := .type "str") (by rfl) n_str (by decide +kernel) rfl) pa_nil))) (pe_one (pe_cmpR (op_inYS S (hu65 hr)) (pv 0) (pe_glob (v := .ref ag_CONVERSIONS) (by rfl) g_CONVERSIONS rfl) rfl))))), fn_run (N := ["word"]) (m := mb_is_conversion) ?_ h⟩
  exact (ss_ret (se_andV (se_isi (.ty "str") isT_ty se_var) (se_op vo_inY se_var (se_c z_CONVERSIONS))))
theorem bd_is_conversion {f : Addr} {fd : FuncData} (F : Fun S.K "is_conversion" "is_conversion" s_is_conversion f fd) : Binds S.K fd ["word"] [] := F.binds (ps := ["word"]) fun _ _ _ _ _ _ us hl => match us, hl with | [_], _ => rfl
theorem ok__read_all {f : Addr} {fd : FuncData} {fc__read_one : Addr} {fdc__read_one : FuncData} (F : Fun S.K "_read_all" "_read_all" s__read_all f fd) (c__read_one : Cal S mg base "_read_one" 1 ["word", "flag", "sign"] 3 m__read_one fc__read_one fdc__read_one) : FnOk S.P S.w S.K mg base CX0 2 f fd ["word", "flag", "text"] (spM S 3 m__read_all) := by
  refine F.ok sc__read_all (fun vs H Q E h => h.1) (fun cdv A outer s H vs Q E hr h => ?_)
  have nd := sc__read_all.nd
  refine ⟨_, (pss_cons (ps_set (i := 3) nd rfl (Or.inl rfl) (pe_lst pa_nil)) (pss_cons (ps_for PassesOwn.never rfl (pi_anyS S (pv 2)) (pg_name (i := 4) nd rfl (Or.inl rfl)) (pss_cons (ps_asg (pe_call c__read_one.ok (hr.mono (by decide)) (by rfl) c__read_one.g c__read_one.kp c__read_one.b .nil pass0 (pa_cons (pv 0) (pa_cons (pv 1) (pa_cons (pv 4) pa_nil)))) (pg_tup rfl (pgs_cons (pg_name (i := 1) nd rfl (Or.inl rfl)) (pgs_cons (pg_name (i := 5) nd rfl (Or.inl rfl)) pgs_nil)))) (pss_one (ps_expr (pe_bm PySem.F.plainAttrs_list PySem.F.slot_list_append PySem.F.type_list_append mt_append (pv 3) (pa_cons (pv 5) pa_nil)))))) (pss_one (ps_ret (pe_tup (pa_cons (pv 1) (pa_cons (pe_joinS S pe_str (pv 3)) pa_nil))))))), fn_run (N := ["word", "flag", "text", "given", "sign", "out"]) (m := mb__read_all) ?_ h⟩
  exact (ss_seq (ss_asg (se_lstM sa_nil) sg_name) (ss_seq (ss_for (si_any se_var) sg_name (ss_seq (ss_asg (se_callT (sa_cons se_var (sa_cons se_var (sa_cons se_var sa_nil)))) (sg_tup (sgs_cons sg_name (sgs_cons sg_name sgs_nil)))) (ss_drop (se_app se_var se_var)))) (ss_ret (se_tup (sa_cons se_var (sa_cons (se_join0 se_var) sa_nil))))))
theorem bd__read_all {f : Addr} {fd : FuncData} (F : Fun S.K "_read_all" "_read_all" s__read_all f fd) : Binds S.K fd ["word", "flag", "text"] [] := F.binds (ps := ["word", "flag", "text"]) fun _ _ _ _ _ _ us hl => match us, hl with | [_, _, _], _ => rfl
theorem ok_rate_of {f : Addr} {fd : FuncData} {fc_walked : Addr} {fdc_walked : FuncData} (F : Fun S.K "rate_of" "rate_of" s_rate_of f fd) (c_walked : Cal S mg base "walked" 6 ["reader", "place", "text"] 3 m_walked fc_walked fdc_walked) (b_gcd : mg "gcd" = some (.builtin "math.gcd")) (n_len : mg "len" = none) : FnOk S.P S.w S.K mg base CX0 7 f fd ["reader", "place", "ring"] (spM S 3 m_rate_of) := by
  refine F.ok sc_rate_of (fun vs H Q E h => h.1) (fun cdv A outer s H vs Q E hr h => ?_)
  have nd := sc_rate_of.nd
  refine ⟨_, (pss_cons (ps_set (i := 3) nd rfl (Or.inl rfl) (pe_call c_walked.ok (hr.mono (by decide)) (by rfl) c_walked.g c_walked.kp c_walked.b .nil pass0 (pa_cons (pv 0) (pa_cons (pv 1) (pa_cons (pv 2) pa_nil))))) (pss_cons (ps_if (PW.pt (pw_or (pt_cmpR (op_eqS S hr.units) (pv 2) pe_str (nomark _)) (pw_or (pt_cmpR op_isAll (pv 3) pe_non (nomark _)) (pw_or1 (pt_cmpR (op_neS S hr.units) (pe_ix (ix_S S (hu9 hr)) (pv 3) pe_int (fun _ _ => rfl)) (pv 1) (nomark _)))))) (pss_one (ps_ret pe_non)) pss_nil) (pss_cons (ps_set (i := 4) nd rfl (Or.inl rfl) (pe_ix (ix_S S (hu9 hr)) (pv 3) pe_int (fun _ _ => rfl))) (pss_cons (ps_set (i := 5) nd rfl (Or.inl rfl) (pe_callBfun cr_gcd (by rfl) b_gcd (pa_cons (pv 4) (pa_cons (pe_callB (call_lenS S) (by rfl) n_len (by decide +kernel) (pa_cons (pv 2) pa_nil)) pa_nil)))) (pss_one (ps_ret (pe_tup (pa_cons (pe_op op_fdiv (pv 4) (pv 5)) (pa_cons (pe_op op_fdiv (pe_callB (call_lenS S) (by rfl) n_len (by decide +kernel) (pa_cons (pv 2) pa_nil)) (pv 5)) pa_nil))))))))), fn_run (N := ["reader", "place", "ring", "found", "many", "common"]) (m := mb_rate_of) ?_ h⟩
  exact (ss_seq (ss_asg (se_callT (sa_cons se_var (sa_cons se_var (sa_cons se_var sa_nil)))) sg_name) (ss_seq (ss_if (st_or (st_test (se_op vo_eq se_var (se_strL))) (st_or (st_test (se_op vo_is se_var se_non)) (st_test (se_op vo_ne (se_op vo_ixX se_var se_int) se_var)))) (ss_ret se_non) ss_next) (ss_seq (ss_asg (se_op vo_ixX se_var se_int) sg_name) (ss_seq (ss_asg (se_cb vc_gcd (sa_cons se_var (sa_cons (se_cb vc_len (sa_cons se_var sa_nil)) sa_nil))) sg_name) (ss_ret (se_tup (sa_cons (se_op vo_div se_var se_var) (sa_cons (se_op vo_div (se_cb vc_len (sa_cons se_var sa_nil)) se_var) sa_nil))))))))
theorem bd_rate_of {f : Addr} {fd : FuncData} (F : Fun S.K "rate_of" "rate_of" s_rate_of f fd) : Binds S.K fd ["reader", "place", "ring"] [] := F.binds (ps := ["reader", "place", "ring"]) fun _ _ _ _ _ _ us hl => match us, hl with | [_, _, _], _ => rfl
theorem ok_weight {f : Addr} {fd : FuncData} (F : Fun S.K "weight" "weight" s_weight f fd) (n_len : mg "len" = none) : FnOk S.P S.w S.K mg base CX0 1 f fd ["rate", "given", "least"] (spM S 3 m_weight) := by
  refine F.ok sc_weight (fun vs H Q E h => h.1) (fun cdv A outer s H vs Q E hr h => ?_)
  have nd := sc_weight.nd
  refine ⟨_, (pss_cons (ps_set (i := 3) nd rfl (Or.inl rfl) (pe_op op_sub (pe_op (op_mulS S) (pe_callB (call_lenS S) (by rfl) n_len (by decide +kernel) (pa_cons (pv 1) pa_nil)) (pe_ix (ix_S S (hu9 hr)) (pv 0) pe_int (fun _ _ => rfl))) (pe_ix (ix_S S (hu9 hr)) (pv 0) pe_int (fun _ _ => rfl)))) (pss_one (ps_ret (pe_ifExp (pt_truS S (pv 2)) (pe_un un_neg (pv 3)) (pv 3))))), fn_run (N := ["rate", "given", "least", "above"]) (m := mb_weight) ?_ h⟩
  exact (ss_seq (ss_asg (se_op vo_sub (se_op vo_mul (se_cb vc_len (sa_cons se_var sa_nil)) (se_op vo_ixX se_var se_int)) (se_op vo_ixX se_var se_int)) sg_name) (ss_ret (se_if (st_tru se_var) (se_un vu_neg se_var) se_var)))
theorem bd_weight {f : Addr} {fd : FuncData} (F : Fun S.K "weight" "weight" s_weight f fd) : Binds S.K fd ["rate", "given", "least"] [] := F.binds (ps := ["rate", "given", "least"]) fun _ _ _ _ _ _ us hl => match us, hl with | [_, _, _], _ => rfl
theorem ok_least_rate {f : Addr} {fd : FuncData} {fc_swell : Addr} {fdc_swell : FuncData} (F : Fun S.K "least_rate" "least_rate" s_least_rate f fd) (f_rate : Fld S "rate" [(1, 0)]) (c_swell : CalK S mg base "swell" 9 ["way", "kind", "least"] 2 m_swell "least" fc_swell fdc_swell) : FnOk S.P S.w S.K mg base CX0 10 f fd ["way", "kind"] (spM S 2 m_least_rate) := by
  refine F.ok sc_least_rate (fun vs H Q E h => h.1) (fun cdv A outer s H vs Q E hr h => ?_)
  have nd := sc_least_rate.nd
  refine ⟨_, (pss_one (ps_ret (pe_fldS S (pe_callN c_swell.ok (hr.mono (by decide)) (by rfl) c_swell.g c_swell.kp c_swell.kb pass0 (pa_cons (pv 0) (pa_cons (pv 1) pa_nil)) (pk_cons pe_bl pk_nil))))), fn_run (N := ["way", "kind"]) (m := mb_least_rate) ?_ h⟩
  exact (ss_ret (se_fld f_rate (se_kw (se_callT (sa_catN (sa_cons se_var (sa_cons se_var sa_nil)) (sa_cons se_bl sa_nil))))))
theorem bd_least_rate {f : Addr} {fd : FuncData} (F : Fun S.K "least_rate" "least_rate" s_least_rate f fd) : Binds S.K fd ["way", "kind"] [] := F.binds (ps := ["way", "kind"]) fun _ _ _ _ _ _ us hl => match us, hl with | [_, _], _ => rfl
theorem ok_AimWalk_is_end {f : Addr} {fd : FuncData} {fk_Reader_end : Addr} {fdk_Reader_end : FuncData} (F : Fun S.K "is_end" "AimWalk.is_end" s_AimWalk_is_end f fd) (k_Reader_end : Met S mg base 0 "end" 4 ["self", "place"] 2 m_Reader_end fk_Reader_end fdk_Reader_end) (f_reader : Fld S "reader" [(2, 0)]) (n_len : mg "len" = none) (f_wanted : Fld S "wanted" [(2, 1)]) : FnOk S.P S.w S.K mg base CX0 5 f fd ["self", "node"] (spM S 2 m_AimWalk_is_end) := by
  refine F.ok sc_AimWalk_is_end (fun vs H Q E h => h.1) (fun cdv A outer s H vs Q E hr h => ?_)
  have nd := sc_AimWalk_is_end.nd
  refine ⟨_, (pss_cons (ps_asg (pv 1) (pg_tup rfl (pgs_cons (pg_name (i := 2) nd rfl (Or.inl rfl)) (pgs_cons (pg_name (i := 3) nd rfl (Or.inl rfl)) pgs_nil)))) (pss_cons (ps_set (i := 4) nd rfl (Or.inl rfl) (pe_meth (pe_fldS S (pv 0)) k_Reader_end.cl k_Reader_end.mt k_Reader_end.ok (hr.mono (by decide)) k_Reader_end.b .nil pass0 (pa_cons (pv 2) pa_nil))) (pss_one (ps_ret (pe_and (pe_cmpR op_notAll (pv 4) pe_non (nomark _)) (pe_and (pe_cmpR (op_eqS S hr.units) (pe_op (op_addS S) (pv 3) (pe_callB (call_lenS S) (by rfl) n_len (by decide +kernel) (pa_cons (pv 4) pa_nil))) (pe_callB (call_lenS S) (by rfl) n_len (by decide +kernel) (pa_cons (pe_fldS S (pv 0)) pa_nil)) (nomark _)) (pe_one (pe_m1 PySem.F.slot_str_endswith PySem.F.type_str_endswith mt_ends (pe_fldS S (pv 0)) (pv 4))))))))), fn_run (N := ["self", "node", "place", "done", "end"]) (m := mb_AimWalk_is_end) ?_ h⟩
  exact (ss_seq (ss_asg se_var (sg_tup (sgs_cons sg_name (sgs_cons sg_name sgs_nil)))) (ss_seq (ss_asg (se_methU k_Reader_end.nm (se_fld f_reader se_var) (sa_cons se_var sa_nil)) sg_name) (ss_ret (se_andV (se_op vo_not se_var se_non) (se_andV (se_op vo_eq (se_op vo_add se_var (se_cb vc_len (sa_cons se_var sa_nil))) (se_cb vc_len (sa_cons (se_fld f_wanted se_var) sa_nil))) (se_m1 vo_ends (se_fld f_wanted se_var) se_var))))))
theorem bd_AimWalk_is_end {f : Addr} {fd : FuncData} (F : Fun S.K "is_end" "AimWalk.is_end" s_AimWalk_is_end f fd) : Binds S.K fd ["self", "node"] [] := F.binds (ps := ["self", "node"]) fun _ _ _ _ _ _ us hl => match us, hl with | [_, _], _ => rfl
theorem ok__law_fitted_right {f : Addr} {fd : FuncData} {fc_distance : Addr} {fdc_distance : FuncData} {fc_fit : Addr} {fdc_fit : FuncData} {fc_least_change : Addr} {fdc_least_change : FuncData} {fk_Fitted_shows : Addr} {fdk_Fitted_shows : FuncData} {fk_Unfit_shows : Addr} {fdk_Unfit_shows : FuncData} {fq_Fitted : Addr} {fdq_Fitted : FuncData} {fq_Unfit : Addr} {fdq_Unfit : FuncData} (F : Fun S.K "_law_fitted_right" "_law_fitted_right" s__law_fitted_right f fd) (n_all : mg "all" = none) (c_distance : Cal S mg base "distance" 4 ["text", "other"] 2 m_distance fc_distance fdc_distance) (c_fit : Cal S mg base "fit" 10 ["way", "kind", "text", "wanted"] 4 m_fit fc_fit fdc_fit) (c_least_change : Cal S mg base "least_change" 11 ["way", "kind", "text", "wanted"] 4 m_least_change fc_least_change fdc_least_change) (k_Fitted_shows : Met S mg base 4 "shows" 9 ["self", "way", "kind", "text", "wanted"] 5 m_Fitted_shows fk_Fitted_shows fdk_Fitted_shows) (k_Unfit_shows : Met S mg base 5 "shows" 9 ["self", "way", "kind", "text", "wanted"] 5 m_Unfit_shows fk_Unfit_shows fdk_Unfit_shows) (n_isinstance : mg "isinstance" = none) (w_Unfit : mg "Unfit" = some (.ref (S.ct 5))) (v_Unfit : IsT S (.ref (S.ct 5)) (tbOwn [(4, false), (5, true)] none)) (f_text : Fld S "text" [(3, 1), (4, 0)]) (q_Fitted : Mak S mg base 4 "Fitted" 1 ["self", "text", "floors"] 3 m_Fitted_init fq_Fitted fdq_Fitted 2) (q_Unfit : Mak S mg base 5 "Unfit" 1 ["self", "places"] 2 m_Unfit_init fq_Unfit fdq_Unfit 1) : FnOk S.P S.w S.K mg base CX0 12 f fd [] (spM S 0 m__law_fitted_right) := by
  refine F.ok sc__law_fitted_right (fun vs H Q E h => h.1) (fun cdv A outer s H vs Q E hr h => ?_)
  have nd := sc__law_fitted_right.nd
  refine ⟨_, (pss_cons (ps_set (i := 0) nd rfl (Or.inl rfl) (pe_lst (pa_cons (pe_tup (pa_cons pe_str (pa_cons pe_str (pa_cons pe_int pa_nil)))) (pa_cons (pe_tup (pa_cons pe_str (pa_cons pe_str (pa_cons pe_int pa_nil)))) (pa_cons (pe_tup (pa_cons pe_str (pa_cons pe_str (pa_cons pe_int pa_nil)))) (pa_cons (pe_tup (pa_cons pe_str (pa_cons pe_str (pa_cons pe_int pa_nil)))) (pa_cons (pe_tup (pa_cons pe_str (pa_cons pe_str (pa_cons pe_int pa_nil)))) (pa_cons (pe_tup (pa_cons pe_str (pa_cons pe_str (pa_cons pe_int pa_nil)))) pa_nil)))))))) (pss_cons (ps_if (pt_not (pt_truS S (pe_callB (call_allS S rfl) (by rfl) n_all (by decide +kernel) (pa_cons (pe_lc (own := [("one", 11), ("other", 12), ("due", 5)]) (g := (gTup S.K 3 (gNames [11, 12, 5]))) (by rfl) nd (pi_anyS S (pv 0)) (blkOk_by (own := [("one", 11), ("other", 12), ("due", 5)]) (N := ["rows", "way", "kind", "text", "wanted", "due", "found", "texts", "place", "late", "at", "one", "other"]) (sc := defScope s__law_fitted_right) (by decide +kernel)) (fun _ _ _ _ _ => (pg_tup rfl (pgs_cons (pg_name (i := 11) nd rfl (Or.inl rfl)) (pgs_cons (pg_name (i := 12) nd rfl (Or.inl rfl)) (pgs_cons (pg_name (i := 5) nd rfl (Or.inl rfl)) pgs_nil))))) (fun _ _ _ _ _ => pts_nil) (fun _ _ _ _ _ => (pe_and (pe_cmpR (op_eqS S hr.units) (pe_call c_distance.ok (hr.mono (by decide)) (by rfl) c_distance.g c_distance.kp c_distance.b .nil pass0 (pa_cons (pv 11) (pa_cons (pv 12) pa_nil))) (pv 5) (nomark _)) (pe_one (pe_cmpR (op_eqS S hr.units) (pe_call c_distance.ok (hr.mono (by decide)) (by rfl) c_distance.g c_distance.kp c_distance.b .nil pass0 (pa_cons (pv 12) (pa_cons (pv 11) pa_nil))) (pv 5) (nomark _)))))) pa_nil)))) (pss_one (ps_ret pe_bl)) pss_nil) (pss_cons (ps_set (i := 0) nd rfl (Or.inl rfl) (pe_lst (pa_cons (pe_tup (pa_cons (pe_tup (pa_cons pe_str pa_nil)) (pa_cons pe_str (pa_cons pe_str (pa_cons pe_str (pa_cons pe_int pa_nil)))))) (pa_cons (pe_tup (pa_cons (pe_tup (pa_cons pe_str pa_nil)) (pa_cons pe_str (pa_cons pe_str (pa_cons pe_str (pa_cons pe_non pa_nil)))))) (pa_cons (pe_tup (pa_cons (pe_tup (pa_cons pe_str pa_nil)) (pa_cons pe_str (pa_cons pe_str (pa_cons pe_str (pa_cons pe_int pa_nil)))))) pa_nil))))) (pss_cons (ps_set (i := 0) nd rfl (Or.inl rfl) (pe_op (op_addS S) (pv 0) (pe_lst (pa_cons (pe_tup (pa_cons (pe_tup (pa_cons pe_str pa_nil)) (pa_cons pe_str (pa_cons pe_str (pa_cons pe_str (pa_cons pe_int pa_nil)))))) (pa_cons (pe_tup (pa_cons (pe_tup (pa_cons pe_str pa_nil)) (pa_cons pe_str (pa_cons pe_str (pa_cons pe_str (pa_cons pe_int pa_nil)))))) (pa_cons (pe_tup (pa_cons (pe_tup (pa_cons pe_str pa_nil)) (pa_cons pe_str (pa_cons pe_str (pa_cons pe_str (pa_cons pe_int pa_nil)))))) pa_nil)))))) (pss_cons (ps_set (i := 0) nd rfl (Or.inl rfl) (pe_op (op_addS S) (pv 0) (pe_lst (pa_cons (pe_tup (pa_cons (pe_tup pa_nil) (pa_cons pe_str (pa_cons pe_str (pa_cons pe_str (pa_cons pe_non pa_nil)))))) (pa_cons (pe_tup (pa_cons (pe_tup (pa_cons pe_str pa_nil)) (pa_cons pe_str (pa_cons pe_str (pa_cons pe_str (pa_cons pe_int pa_nil)))))) (pa_cons (pe_tup (pa_cons (pe_tup (pa_cons pe_str pa_nil)) (pa_cons pe_str (pa_cons pe_str (pa_cons pe_str (pa_cons pe_int pa_nil)))))) pa_nil)))))) (pss_cons (ps_for PassesOwn.never rfl (pi_anyS S (pv 0)) (pg_tup rfl (pgs_cons (pg_name (i := 1) nd rfl (Or.inl rfl)) (pgs_cons (pg_name (i := 2) nd rfl (Or.inl rfl)) (pgs_cons (pg_name (i := 3) nd rfl (Or.inl rfl)) (pgs_cons (pg_name (i := 4) nd rfl (Or.inl rfl)) (pgs_cons (pg_name (i := 5) nd rfl (Or.inl rfl)) pgs_nil)))))) (pss_cons (ps_set (i := 6) nd rfl (Or.inl rfl) (pe_call c_fit.ok (hr.mono (by decide)) (by rfl) c_fit.g c_fit.kp c_fit.b .nil pass0 (pa_cons (pv 1) (pa_cons (pv 2) (pa_cons (pv 3) (pa_cons (pv 4) pa_nil)))))) (pss_cons (ps_if (PW.pt (pw_or (pt_cmpR (op_neS S hr.units) (pe_call c_least_change.ok (hr.mono (by decide)) (by rfl) c_least_change.g c_least_change.kp c_least_change.b .nil pass0 (pa_cons (pv 1) (pa_cons (pv 2) (pa_cons (pv 3) (pa_cons (pv 4) pa_nil))))) (pv 5) (nomark _)) (pw_or1 (pt_not (pt_truS S (PE.or (pe_meth (pv 6) k_Fitted_shows.cl k_Fitted_shows.mt k_Fitted_shows.ok (hr.mono (by decide)) k_Fitted_shows.b .nil pass0 (pa_cons (pv 1) (pa_cons (pv 2) (pa_cons (pv 3) (pa_cons (pv 4) pa_nil))))) (pe_meth (pv 6) k_Unfit_shows.cl k_Unfit_shows.mt k_Unfit_shows.ok (hr.mono (by decide)) k_Unfit_shows.b .nil pass0 (pa_cons (pv 1) (pa_cons (pv 2) (pa_cons (pv 3) (pa_cons (pv 4) pa_nil))))))))))) (pss_one (ps_ret pe_bl)) pss_nil) (pss_one (ps_if (pt_cmpR (op_neS S hr.units) (pe_callB (call_isiS S) (by rfl) n_isinstance (by decide +kernel) (pa_cons (pv 6) (pa_cons (pe_glob (v := .ref (S.ct 5)) (by rfl) w_Unfit rfl) pa_nil))) (pe_cmpR op_isAll (pv 5) pe_non (nomark _)) (nomark _)) (pss_one (ps_ret pe_bl)) pss_nil))))) (pss_cons (ps_set (i := 7) nd rfl (Or.inl rfl) (pe_lst (pa_cons (pe_fldS S (pe_call c_fit.ok (hr.mono (by decide)) (by rfl) c_fit.g c_fit.kp c_fit.b .nil pass0 (pa_cons (pe_tup (pa_cons pe_str pa_nil)) (pa_cons pe_str (pa_cons pe_str (pa_cons pe_str pa_nil)))))) (pa_cons (pe_fldS S (pe_call c_fit.ok (hr.mono (by decide)) (by rfl) c_fit.g c_fit.kp c_fit.b .nil pass0 (pa_cons (pe_tup (pa_cons pe_str pa_nil)) (pa_cons pe_str (pa_cons pe_str (pa_cons pe_str pa_nil)))))) pa_nil)))) (pss_cons (ps_if (pt_cmpR (op_neS S hr.units) (pv 7) (pe_lst (pa_cons pe_str (pa_cons pe_str pa_nil))) (nomark _)) (pss_one (ps_ret pe_bl)) pss_nil) (pss_cons (ps_par (i := 8) (j := 9) (by rfl) nd rfl rfl (by decide) rfl rfl (pa_cons (pe_tup (pa_cons (pe_tup pa_nil) (pa_cons pe_bl pa_nil))) (pa_cons (pe_newS S) pa_nil)) (by rfl)) (pss_cons (ps_for PassesOwn.never rfl (pi_anyS S (pe_tup (pa_cons pe_int (pa_cons pe_int pa_nil)))) (pg_name (i := 10) nd rfl (Or.inl rfl)) (pss_one (ps_asg (pe_tup (pa_cons (pe_op op_sub pe_int (pv 10)) (pa_cons (pe_op op_sub pe_int (pv 10)) pa_nil))) (pg_tup rfl (pgs_cons (pg_sub (pv 9) (pe_tup (pa_cons (pv 10) (pa_cons (pv 8) (pa_cons pe_int pa_nil)))) (set_S S (hu9 hr))) (pgs_cons (pg_sub (pv 9) (pe_tup (pa_cons (pv 10) (pa_cons (pv 8) (pa_cons pe_int pa_nil)))) (set_S S (hu9 hr))) pgs_nil)))))) (pss_cons (ps_asg (pe_tup (pa_cons pe_int (pa_cons pe_int (pa_cons pe_int pa_nil)))) (pg_tup rfl (pgs_cons (pg_sub (pv 9) (pe_tup (pa_cons pe_int (pa_cons (pv 8) (pa_cons pe_int pa_nil)))) (set_S S (hu9 hr))) (pgs_cons (pg_sub (pv 9) (pe_tup (pa_cons pe_int (pa_cons (pv 8) (pa_cons pe_int pa_nil)))) (set_S S (hu9 hr))) (pgs_cons (pg_sub (pv 9) (pe_tup (pa_cons pe_int (pa_cons (pv 8) (pa_cons pe_int pa_nil)))) (set_S S (hu9 hr))) pgs_nil))))) (pss_cons (ps_if (pt_not (pt_truS S (pe_meth (pe_make q_Fitted.mak q_Fitted.ok (hr.mono (by decide)) (by rfl) q_Fitted.g q_Fitted.b .nil pass0 (pa_cons pe_str (pa_cons (pv 9) pa_nil))) k_Fitted_shows.cl k_Fitted_shows.mt k_Fitted_shows.ok (hr.mono (by decide)) k_Fitted_shows.b .nil pass0 (pa_cons (pe_tup pa_nil) (pa_cons pe_str (pa_cons pe_str (pa_cons pe_str pa_nil))))))) (pss_one (ps_ret pe_bl)) pss_nil) (pss_cons (ps_if (pt_truS S (pe_meth (pe_make q_Fitted.mak q_Fitted.ok (hr.mono (by decide)) (by rfl) q_Fitted.g q_Fitted.b .nil pass0 (pa_cons pe_str (pa_cons (pv 9) pa_nil))) k_Fitted_shows.cl k_Fitted_shows.mt k_Fitted_shows.ok (hr.mono (by decide)) k_Fitted_shows.b .nil pass0 (pa_cons (pe_tup pa_nil) (pa_cons pe_str (pa_cons pe_str (pa_cons pe_str pa_nil)))))) (pss_one (ps_ret pe_bl)) pss_nil) (pss_cons (ps_asg pe_int (pg_sub (pv 9) (pe_tup (pa_cons pe_int (pa_cons (pv 8) (pa_cons pe_int pa_nil)))) (set_S S (hu9 hr)))) (pss_cons (ps_if (pt_truS S (pe_meth (pe_make q_Fitted.mak q_Fitted.ok (hr.mono (by decide)) (by rfl) q_Fitted.g q_Fitted.b .nil pass0 (pa_cons pe_str (pa_cons (pv 9) pa_nil))) k_Fitted_shows.cl k_Fitted_shows.mt k_Fitted_shows.ok (hr.mono (by decide)) k_Fitted_shows.b .nil pass0 (pa_cons (pe_tup pa_nil) (pa_cons pe_str (pa_cons pe_str (pa_cons pe_str pa_nil)))))) (pss_one (ps_ret pe_bl)) pss_nil) (pss_cons (ps_if (pt_not (pt_truS S (pe_meth (pe_make q_Unfit.mak q_Unfit.ok (hr.mono (by decide)) (by rfl) q_Unfit.g q_Unfit.b .nil pass0 (pa_cons (pe_lst (pa_cons (pe_tup (pa_cons (pv 8) (pa_cons pe_int pa_nil))) pa_nil)) pa_nil)) k_Unfit_shows.cl k_Unfit_shows.mt k_Unfit_shows.ok (hr.mono (by decide)) k_Unfit_shows.b .nil pass0 (pa_cons (pe_tup pa_nil) (pa_cons pe_str (pa_cons pe_str (pa_cons pe_str pa_nil))))))) (pss_one (ps_ret pe_bl)) pss_nil) (pss_cons (ps_if (pt_truS S (pe_meth (pe_make q_Unfit.mak q_Unfit.ok (hr.mono (by decide)) (by rfl) q_Unfit.g q_Unfit.b .nil pass0 (pa_cons (pe_lst (pa_cons (pe_tup (pa_cons (pv 8) (pa_cons pe_int pa_nil))) pa_nil)) pa_nil)) k_Unfit_shows.cl k_Unfit_shows.mt k_Unfit_shows.ok (hr.mono (by decide)) k_Unfit_shows.b .nil pass0 (pa_cons (pe_tup pa_nil) (pa_cons pe_str (pa_cons pe_str (pa_cons pe_str pa_nil)))))) (pss_one (ps_ret pe_bl)) pss_nil) (pss_one (ps_ret (pe_not (pe_meth (pe_make q_Unfit.mak q_Unfit.ok (hr.mono (by decide)) (by rfl) q_Unfit.g q_Unfit.b .nil pass0 (pa_cons (pe_lst pa_nil) pa_nil)) k_Unfit_shows.cl k_Unfit_shows.mt k_Unfit_shows.ok (hr.mono (by decide)) k_Unfit_shows.b .nil pass0 (pa_cons (pe_tup pa_nil) (pa_cons pe_str (pa_cons pe_str (pa_cons pe_str pa_nil))))))))))))))))))))))))), fn_run (N := ["rows", "way", "kind", "text", "wanted", "due", "found", "texts", "place", "late", "at", "one", "other"]) (m := mb__law_fitted_right) ?_ h⟩
  exact (ss_seq (ss_asg (se_lst (sa_cons (se_tup (sa_cons (se_strL) (sa_cons (se_strL) (sa_cons se_int sa_nil)))) (sa_cons (se_tup (sa_cons (se_strL) (sa_cons (se_strL) (sa_cons se_int sa_nil)))) (sa_cons (se_tup (sa_cons (se_strL) (sa_cons (se_strL) (sa_cons se_int sa_nil)))) (sa_cons (se_tup (sa_cons (se_strL) (sa_cons (se_strL) (sa_cons se_int sa_nil)))) (sa_cons (se_tup (sa_cons (se_strL) (sa_cons (se_strL) (sa_cons se_int sa_nil)))) (sa_cons (se_tup (sa_cons (se_strL) (sa_cons (se_strL) (sa_cons se_int sa_nil)))) sa_nil))))))) sg_name) (ss_seq (ss_if (st_not (st_tru (se_cb vc_all (sa_cons (se_lc (vs := [11, 12, 5]) (si_any se_var) (sg_tup (sgs_cons sg_name (sgs_cons sg_name (sgs_cons sg_name sgs_nil)))) (gw_tup (gws_names [11, 12, 5] (by decide))) st_yes (se_andV (se_op vo_eq (se_callT (sa_cons se_var (sa_cons se_var sa_nil))) se_var) (se_op vo_eq (se_callT (sa_cons se_var (sa_cons se_var sa_nil))) se_var))) sa_nil)))) (ss_ret se_bl) ss_next) (ss_seq (ss_asg (se_lst (sa_cons (se_tup (sa_cons (se_tup (sa_cons (se_strL) sa_nil)) (sa_cons (se_strL) (sa_cons (se_strL) (sa_cons (se_strL) (sa_cons se_int sa_nil)))))) (sa_cons (se_tup (sa_cons (se_tup (sa_cons (se_strL) sa_nil)) (sa_cons (se_strL) (sa_cons (se_strL) (sa_cons (se_strL) (sa_cons se_non sa_nil)))))) (sa_cons (se_tup (sa_cons (se_tup (sa_cons (se_strL) sa_nil)) (sa_cons (se_strL) (sa_cons (se_strL) (sa_cons (se_strL) (sa_cons se_int sa_nil)))))) sa_nil)))) sg_name) (ss_seq (ss_asg (se_op vo_add se_var (se_lst (sa_cons (se_tup (sa_cons (se_tup (sa_cons (se_strL) sa_nil)) (sa_cons (se_strL) (sa_cons (se_strL) (sa_cons (se_strL) (sa_cons se_int sa_nil)))))) (sa_cons (se_tup (sa_cons (se_tup (sa_cons (se_strL) sa_nil)) (sa_cons (se_strL) (sa_cons (se_strL) (sa_cons (se_strL) (sa_cons se_int sa_nil)))))) (sa_cons (se_tup (sa_cons (se_tup (sa_cons (se_strL) sa_nil)) (sa_cons (se_strL) (sa_cons (se_strL) (sa_cons (se_strL) (sa_cons se_int sa_nil)))))) sa_nil))))) sg_name) (ss_seq (ss_asg (se_op vo_add se_var (se_lst (sa_cons (se_tup (sa_cons (se_tup sa_nil) (sa_cons (se_strL) (sa_cons (se_strL) (sa_cons (se_strL) (sa_cons se_non sa_nil)))))) (sa_cons (se_tup (sa_cons (se_tup (sa_cons (se_strL) sa_nil)) (sa_cons (se_strL) (sa_cons (se_strL) (sa_cons (se_strL) (sa_cons se_int sa_nil)))))) (sa_cons (se_tup (sa_cons (se_tup (sa_cons (se_strL) sa_nil)) (sa_cons (se_strL) (sa_cons (se_strL) (sa_cons (se_strL) (sa_cons se_int sa_nil)))))) sa_nil))))) sg_name) (ss_seq (ss_for (si_any se_var) (sg_tup (sgs_cons sg_name (sgs_cons sg_name (sgs_cons sg_name (sgs_cons sg_name (sgs_cons sg_name sgs_nil)))))) (ss_seq (ss_asg (se_callT (sa_cons se_var (sa_cons se_var (sa_cons se_var (sa_cons se_var sa_nil))))) sg_name) (ss_seq (ss_if (st_or (st_test (se_op vo_ne (se_callT (sa_cons se_var (sa_cons se_var (sa_cons se_var (sa_cons se_var sa_nil))))) se_var)) (st_not (st_tru (se_orH (isClsH 6 4) (se_methY k_Fitted_shows.nm se_var (sa_cons se_var (sa_cons se_var (sa_cons se_var (sa_cons se_var sa_nil))))) (se_methY k_Unfit_shows.nm se_var (sa_cons se_var (sa_cons se_var (sa_cons se_var (sa_cons se_var sa_nil))))))))) (ss_ret se_bl) ss_next) (ss_if (st_test (se_op vo_ne (se_isi (.own _) v_Unfit se_var) (se_op vo_is se_var se_non))) (ss_ret se_bl) ss_next)))) (ss_seq (ss_asg (se_lst (sa_cons (se_fld f_text (se_callT (sa_cons (se_tup (sa_cons (se_strL) sa_nil)) (sa_cons (se_strL) (sa_cons (se_strL) (sa_cons (se_strL) sa_nil)))))) (sa_cons (se_fld f_text (se_callT (sa_cons (se_tup (sa_cons (se_strL) sa_nil)) (sa_cons (se_strL) (sa_cons (se_strL) (sa_cons (se_strL) sa_nil)))))) sa_nil))) sg_name) (ss_seq (ss_if (st_test (se_op vo_ne se_var (se_lst (sa_cons (se_strL) (sa_cons (se_strL) sa_nil))))) (ss_ret se_bl) ss_next) (ss_seq (ss_par (sa_cons (se_tup (sa_cons (se_tup sa_nil) (sa_cons se_bl sa_nil))) (sa_cons se_newM sa_nil))) (ss_seq (ss_for (si_any (se_tup (sa_cons se_int (sa_cons se_int sa_nil)))) sg_name (ss_asg (se_tup (sa_cons (se_op vo_sub se_int se_var) (sa_cons (se_op vo_sub se_int se_var) sa_nil))) (sg_tup (sgs_cons (sg_sub vst_X se_var (se_tup (sa_cons se_var (sa_cons se_var (sa_cons se_int sa_nil))))) (sgs_cons (sg_sub vst_X se_var (se_tup (sa_cons se_var (sa_cons se_var (sa_cons se_int sa_nil))))) sgs_nil))))) (ss_seq (ss_asg (se_tup (sa_cons se_int (sa_cons se_int (sa_cons se_int sa_nil)))) (sg_tup (sgs_cons (sg_sub vst_X se_var (se_tup (sa_cons se_int (sa_cons se_var (sa_cons se_int sa_nil))))) (sgs_cons (sg_sub vst_X se_var (se_tup (sa_cons se_int (sa_cons se_var (sa_cons se_int sa_nil))))) (sgs_cons (sg_sub vst_X se_var (se_tup (sa_cons se_int (sa_cons se_var (sa_cons se_int sa_nil))))) sgs_nil))))) (ss_seq (ss_if (st_not (st_tru (se_methY k_Fitted_shows.nm (se_makeS q_Fitted.k (sa_cons (se_strL) (sa_cons se_var sa_nil))) (sa_cons (se_tup sa_nil) (sa_cons (se_strL) (sa_cons (se_strL) (sa_cons (se_strL) sa_nil))))))) (ss_ret se_bl) ss_next) (ss_seq (ss_if (st_tru (se_methY k_Fitted_shows.nm (se_makeS q_Fitted.k (sa_cons (se_strL) (sa_cons se_var sa_nil))) (sa_cons (se_tup sa_nil) (sa_cons (se_strL) (sa_cons (se_strL) (sa_cons (se_strL) sa_nil)))))) (ss_ret se_bl) ss_next) (ss_seq (ss_asg se_int (sg_sub vst_X se_var (se_tup (sa_cons se_int (sa_cons se_var (sa_cons se_int sa_nil)))))) (ss_seq (ss_if (st_tru (se_methY k_Fitted_shows.nm (se_makeS q_Fitted.k (sa_cons (se_strL) (sa_cons se_var sa_nil))) (sa_cons (se_tup sa_nil) (sa_cons (se_strL) (sa_cons (se_strL) (sa_cons (se_strL) sa_nil)))))) (ss_ret se_bl) ss_next) (ss_seq (ss_if (st_not (st_tru (se_methY k_Unfit_shows.nm (se_makeS q_Unfit.k (sa_cons (se_lst (sa_cons (se_tup (sa_cons se_var (sa_cons se_int sa_nil))) sa_nil)) sa_nil)) (sa_cons (se_tup sa_nil) (sa_cons (se_strL) (sa_cons (se_strL) (sa_cons (se_strL) sa_nil))))))) (ss_ret se_bl) ss_next) (ss_seq (ss_if (st_tru (se_methY k_Unfit_shows.nm (se_makeS q_Unfit.k (sa_cons (se_lst (sa_cons (se_tup (sa_cons se_var (sa_cons se_int sa_nil))) sa_nil)) sa_nil)) (sa_cons (se_tup sa_nil) (sa_cons (se_strL) (sa_cons (se_strL) (sa_cons (se_strL) sa_nil)))))) (ss_ret se_bl) ss_next) (ss_ret (se_notV (se_methY k_Unfit_shows.nm (se_makeS q_Unfit.k (sa_cons (se_lst sa_nil) sa_nil)) (sa_cons (se_tup sa_nil) (sa_cons (se_strL) (sa_cons (se_strL) (sa_cons (se_strL) sa_nil))))))))))))))))))))))))
theorem bd__law_fitted_right {f : Addr} {fd : FuncData} (F : Fun S.K "_law_fitted_right" "_law_fitted_right" s__law_fitted_right f fd) : Binds S.K fd [] [] := F.binds (ps := []) fun _ _ _ _ _ _ us hl => match us, hl with | [], _ => rfl
end
end K50
namespace K50
open PySem PySem.Spec PyProof.Rows L2 RZ PpSet Rm
section
variable {S : Se} {mg : Str → Option Value} {base : Heap} {ag_CONVERSIONS ag_KINDS ag_SIGNS ag__HELD ag__MADE_OF ag__PLAIN ag__REPLACED ag_behind : Addr}
theorem ok_check_way {f : Addr} {fd : FuncData} {fc_is_way : Addr} {fdc_is_way : FuncData} (F : Fun S.K "check_way" "check_way" s_check_way f fd) (c_is_way : Cal S mg base "is_way" 2 ["way"] 1 m_is_way fc_is_way fdc_is_way) : FnOk S.P S.w S.K mg base CX0 3 f fd ["way"] (spM S 1 m_check_way) := by
  refine F.ok sc_check_way (fun vs H Q E h => h.1) (fun cdv A outer s H vs Q E hr h => ?_)
  have nd := sc_check_way.nd
  refine ⟨_, (pss_one (ps_if (pt_not (pt_truS S (pe_call c_is_way.ok (hr.mono (by decide)) (by rfl) c_is_way.g c_is_way.kp c_is_way.b .nil pass0 (pa_cons (pv 0) pa_nil)))) (pss_one ps_never) pss_nil)), fn_run (N := ["way"]) (m := mb_check_way) ?_ h⟩
  exact (ss_if (st_not (st_tru (se_callT (sa_cons se_var sa_nil)))) ss_bad ss_next)
theorem bd_check_way {f : Addr} {fd : FuncData} (F : Fun S.K "check_way" "check_way" s_check_way f fd) : Binds S.K fd ["way"] [] := F.binds (ps := ["way"]) fun _ _ _ _ _ _ us hl => match us, hl with | [_], _ => rfl
theorem ok__check_rates {f : Addr} {fd : FuncData} {fc_check_way : Addr} {fdc_check_way : FuncData} {fc_check_kind : Addr} {fdc_check_kind : FuncData} (F : Fun S.K "_check" "_check" s__check_rates f fd) (c_check_way : Cal S mg base "check_way" 3 ["way"] 1 m_check_way fc_check_way fdc_check_way) (c_check_kind : Cal S mg base "check_kind" 1 ["kind"] 1 m_check_kind fc_check_kind fdc_check_kind) (n_isinstance : mg "isinstance" = none) (n_bool : mg "bool" = none) : FnOk S.P S.w S.K mg base CX0 4 f fd ["way", "kind", "least"] (spM S 3 m__check_rates) := by
  refine F.ok sc__check_rates (fun vs H Q E h => h.1) (fun cdv A outer s H vs Q E hr h => ?_)
  have nd := sc__check_rates.nd
  refine ⟨_, (pss_cons (ps_expr (pe_call c_check_way.ok (hr.mono (by decide)) (by rfl) c_check_way.g c_check_way.kp c_check_way.b .nil pass0 (pa_cons (pv 0) pa_nil))) (pss_cons (ps_expr (pe_call c_check_kind.ok (hr.mono (by decide)) (by rfl) c_check_kind.g c_check_kind.kp c_check_kind.b .nil pass0 (pa_cons (pv 1) pa_nil))) (pss_one (ps_if (pt_not (pt_truS S (pe_callB (call_isiS S) (by rfl) n_isinstance (by decide +kernel) (pa_cons (pv 2) (pa_cons (pe_bltn (v := .ty "bool") (u := .type "bool") (by rfl) n_bool (by decide +kernel) rfl) pa_nil))))) (pss_one ps_never) pss_nil)))), fn_run (N := ["way", "kind", "least"]) (m := mb__check_rates) ?_ h⟩
  exact (ss_seq (ss_drop (se_callT (sa_cons se_var sa_nil))) (ss_seq (ss_drop (se_callT (sa_cons se_var sa_nil))) (ss_if (st_not (st_tru (se_isi (.ty "bool") isT_ty se_var))) ss_bad ss_next)))
theorem bd__check_rates {f : Addr} {fd : FuncData} (F : Fun S.K "_check" "_check" s__check_rates f fd) : Binds S.K fd ["way", "kind", "least"] [] := F.binds (ps := ["way", "kind", "least"]) fun _ _ _ _ _ _ us hl => match us, hl with | [_, _, _], _ => rfl
theorem ok__read_one {f : Addr} {fd : FuncData} {ag__PLAIN : Addr} {ag__HELD : Addr} (F : Fun S.K "_read_one" "_read_one" s__read_one f fd) (g__PLAIN : mg "_PLAIN" = some (.ref ag__PLAIN)) (t__PLAIN : KTab S.toSg ag__PLAIN kt__PLAIN) (g__HELD : mg "_HELD" = some (.ref ag__HELD)) (t__HELD : KTab S.toSg ag__HELD kt__HELD) : FnOk S.P S.w S.K mg base CX0 1 f fd ["word", "flag", "sign"] (spM S 3 m__read_one) := by
  refine F.ok sc__read_one (fun vs H Q E h => h.1) (fun cdv A outer s H vs Q E hr h => ?_)
  have nd := sc__read_one.nd
  refine ⟨_, (pss_cons (ps_if (pt_cmpR (op_kdS S) (pv 0) (pe_glob (v := .ref ag__PLAIN) (by rfl) g__PLAIN rfl) rfl) (pss_one (ps_ret (pe_tup (pa_cons pe_bl (pa_cons (pe_ifExp (pt_cmpR (op_eqS S hr.units) (pv 2) pe_str (nomark _)) (pe_ix (ix_kdS S) (pe_glob (v := .ref ag__PLAIN) (by rfl) g__PLAIN rfl) (pv 0) (fun _ _ => rfl)) (pv 2)) pa_nil))))) pss_nil) (pss_cons (ps_if (pt_cmpR (op_eqS S hr.units) (pv 0) pe_str (nomark _)) (pss_one (ps_ret (pe_tup (pa_cons (pe_cmpR (op_eqS S hr.units) (pv 2) pe_str (nomark _)) (pa_cons (pe_ifExp (PW.pt (pw_and (pt_cmpR (op_eqS S hr.units) (pv 2) pe_str (nomark _)) (pw_and1 (pt_not (pt_truS S (pv 1)))))) pe_str (pv 2)) pa_nil))))) pss_nil) (pss_cons (ps_asg (pe_ix (ix_kdS S) (pe_glob (v := .ref ag__HELD) (by rfl) g__HELD rfl) (pv 0) (fun _ _ => rfl)) (pg_tup rfl (pgs_cons (pg_name (i := 3) nd rfl (Or.inl rfl)) (pgs_cons (pg_name (i := 4) nd rfl (Or.inl rfl)) pgs_nil)))) (pss_cons (ps_set (i := 5) nd rfl (Or.inl rfl) pe_str) (pss_cons (ps_if (pt_truS S (pv 1)) (pss_one (ps_set (i := 5) nd rfl (Or.inl rfl) (pe_ifExp (pt_cmpR (op_eqS S hr.units) (pv 2) pe_str (nomark _)) (pv 3) (pv 4)))) pss_nil) (pss_one (ps_ret (pe_tup (pa_cons (pe_cmpR (op_eqS S hr.units) (pv 2) pe_str (nomark _)) (pa_cons (pe_ifExp (pt_cmpR (op_eqS S hr.units) (pv 2) pe_str (nomark _)) (pv 5) (pe_op (op_addS S) (pv 5) (pv 2))) pa_nil)))))))))), fn_run (N := ["word", "flag", "sign", "ahead_of_n", "otherwise", "held"]) (m := mb__read_one) ?_ h⟩
  exact (ss_seq (ss_if (st_test (se_inK t__PLAIN se_var)) (ss_ret (se_tup (sa_cons se_bl (sa_cons (se_if (st_test (se_op vo_eq se_var (se_strL))) (se_ixK t__PLAIN se_var) se_var) sa_nil)))) ss_next) (ss_seq (ss_if (st_test (se_op vo_eq se_var (se_strL))) (ss_ret (se_tup (sa_cons (se_op vo_eq se_var (se_strL)) (sa_cons (se_if (st_and (st_test (se_op vo_eq se_var (se_strL))) (st_not (st_tru se_var))) (se_strL) se_var) sa_nil)))) ss_next) (ss_seq (ss_asg (se_ixK t__HELD se_var) (sg_tup (sgs_cons sg_name (sgs_cons sg_name sgs_nil)))) (ss_seq (ss_asg (se_strL) sg_name) (ss_seq (ss_if (st_tru se_var) (ss_asg (se_if (st_test (se_op vo_eq se_var (se_strL))) se_var se_var) sg_name) ss_next) (ss_ret (se_tup (sa_cons (se_op vo_eq se_var (se_strL)) (sa_cons (se_if (st_test (se_op vo_eq se_var (se_strL))) se_var (se_op vo_add se_var se_var)) sa_nil)))))))))
theorem bd__read_one {f : Addr} {fd : FuncData} (F : Fun S.K "_read_one" "_read_one" s__read_one f fd) : Binds S.K fd ["word", "flag", "sign"] [] := F.binds (ps := ["word", "flag", "sign"]) fun _ _ _ _ _ _ us hl => match us, hl with | [_, _, _], _ => rfl
theorem ok_Reader_move {f : Addr} {fd : FuncData} {fc_step : Addr} {fdc_step : FuncData} {fc_is_half : Addr} {fdc_is_half : FuncData} (F : Fun S.K "_move" "Reader._move" s_Reader_move f fd) (c_step : Cal S mg base "step" 3 ["way", "standing", "sign"] 3 m_step fc_step fdc_step) (f_way : Fld S "way" [(0, 0)]) (c_is_half : Cal S mg base "is_half" 1 ["kind", "sign"] 2 m_is_half fc_is_half fdc_is_half) (f_kind : Fld S "kind" [(0, 1)]) : FnOk S.P S.w S.K mg base CX0 4 f fd ["self", "place", "sign"] (spM S 3 m_Reader_move) := by
  refine F.ok sc_Reader_move (fun vs H Q E h => h.1) (fun cdv A outer s H vs Q E hr h => ?_)
  have nd := sc_Reader_move.nd
  refine ⟨_, (pss_cons (ps_asg (pe_call c_step.ok (hr.mono (by decide)) (by rfl) c_step.g c_step.kp c_step.b .nil pass0 (pa_cons (pe_fldS S (pv 0)) (pa_cons (pe_ix (ix_S S (hu9 hr)) (pv 1) pe_int (fun _ _ => rfl)) (pa_cons (pv 2) pa_nil)))) (pg_tup rfl (pgs_cons (pg_name (i := 3) nd rfl (Or.inl rfl)) (pgs_cons (pg_name (i := 4) nd rfl (Or.inl rfl)) pgs_nil)))) (pss_one (ps_ret (pe_tup (pa_cons (pv 2) (pa_cons (pe_tup (pa_cons (pv 3) (pa_cons (pe_call c_is_half.ok (hr.mono (by decide)) (by rfl) c_is_half.g c_is_half.kp c_is_half.b .nil pass0 (pa_cons (pe_fldS S (pv 0)) (pa_cons (pv 2) pa_nil))) pa_nil))) (pa_cons (pv 4) pa_nil))))))), fn_run (N := ["self", "place", "sign", "standing", "given"]) (m := mb_Reader_move) ?_ h⟩
  exact (ss_seq (ss_asg (se_callT (sa_cons (se_fld f_way se_var) (sa_cons (se_op vo_ixX se_var se_int) (sa_cons se_var sa_nil)))) (sg_tup (sgs_cons sg_name (sgs_cons sg_name sgs_nil)))) (ss_ret (se_tup (sa_cons se_var (sa_cons (se_tup (sa_cons se_var (sa_cons (se_callT (sa_cons (se_fld f_kind se_var) (sa_cons se_var sa_nil))) sa_nil))) (sa_cons se_var sa_nil))))))
theorem bd_Reader_move {f : Addr} {fd : FuncData} (F : Fun S.K "_move" "Reader._move" s_Reader_move f fd) : Binds S.K fd ["self", "place", "sign"] [] := F.binds (ps := ["self", "place", "sign"]) fun _ _ _ _ _ _ us hl => match us, hl with | [_, _, _], _ => rfl
theorem ok_ending {f : Addr} {fd : FuncData} {fc__read_all : Addr} {fdc__read_all : FuncData} {ag__HELD : Addr} (F : Fun S.K "ending" "ending" s_ending f fd) (n_zip : mg "zip" = none) (c__read_all : Cal S mg base "_read_all" 2 ["word", "flag", "text"] 3 m__read_all fc__read_all fdc__read_all) (g__HELD : mg "_HELD" = some (.ref ag__HELD)) (t__HELD : KTab S.toSg ag__HELD kt__HELD) : FnOk S.P S.w S.K mg base CX0 3 f fd ["way", "standing"] (spM S 2 m_ending) := by
  refine F.ok sc_ending (fun vs H Q E h => h.1) (fun cdv A outer s H vs Q E hr h => ?_)
  have nd := sc_ending.nd
  refine ⟨_, (pss_cons (ps_set (i := 2) nd rfl (Or.inl rfl) pe_str) (pss_cons (ps_for PassesOwn.never rfl (pi_zipA (by rfl) n_zip (pa_cons (pv 0) (pa_cons (pv 1) pa_nil))) (pg_tup rfl (pgs_cons (pg_name (i := 3) nd rfl (Or.inl rfl)) (pgs_cons (pg_name (i := 4) nd rfl (Or.inl rfl)) pgs_nil))) (pss_cons (ps_asg (pe_call c__read_all.ok (hr.mono (by decide)) (by rfl) c__read_all.g c__read_all.kp c__read_all.b .nil pass0 (pa_cons (pv 3) (pa_cons (pv 4) (pa_cons (pv 2) pa_nil)))) (pg_tup rfl (pgs_cons (pg_name (i := 5) nd rfl (Or.inl rfl)) (pgs_cons (pg_name (i := 2) nd rfl (Or.inl rfl)) pgs_nil)))) (pss_one (ps_if (PW.pt (pw_and (pt_truS S (pv 5)) (pw_and1 (pt_cmpR (op_kdS S) (pv 3) (pe_glob (v := .ref ag__HELD) (by rfl) g__HELD rfl) rfl)))) (pss_one (ps_set (i := 2) nd rfl (Or.inl rfl) (pe_op (op_addS S) (pv 2) (pe_ix (ix_S S (hu9 hr)) (pe_ix (ix_kdS S) (pe_glob (v := .ref ag__HELD) (by rfl) g__HELD rfl) (pv 3) (fun _ _ => rfl)) pe_int (fun _ _ => rfl))))) pss_nil)))) (pss_one (ps_ret (pv 2))))), fn_run (N := ["way", "standing", "text", "word", "flag", "flag_behind"]) (m := mb_ending) ?_ h⟩
  exact (ss_seq (ss_asg (se_strL) sg_name) (ss_seq (ss_for (si_zip (sa_cons se_var (sa_cons se_var sa_nil))) (sg_tup (sgs_cons sg_name (sgs_cons sg_name sgs_nil))) (ss_seq (ss_asg (se_callT (sa_cons se_var (sa_cons se_var (sa_cons se_var sa_nil)))) (sg_tup (sgs_cons sg_name (sgs_cons sg_name sgs_nil)))) (ss_if (st_and (st_tru se_var) (st_test (se_inK t__HELD se_var))) (ss_asg (se_op vo_add se_var (se_op vo_ixX (se_ixK t__HELD se_var) se_int)) sg_name) ss_next))) (ss_ret se_var)))
theorem bd_ending {f : Addr} {fd : FuncData} (F : Fun S.K "ending" "ending" s_ending f fd) : Binds S.K fd ["way", "standing"] [] := F.binds (ps := ["way", "standing"]) fun _ _ _ _ _ _ us hl => match us, hl with | [_, _], _ => rfl
theorem ok_Swelling_shows {f : Addr} {fd : FuncData} {fc_check_rates : Addr} {fdc_check_rates : FuncData} {fq_Reader : Addr} {fdq_Reader : FuncData} {fk_Swelling__has_rate : Addr} {fdk_Swelling__has_rate : FuncData} {fk_Swelling__is_closed : Addr} {fdk_Swelling__is_closed : FuncData} {fk_Swelling__falls : Addr} {fdk_Swelling__falls : FuncData} (F : FunD S.K "shows" "Swelling.shows" (defArgs s_Swelling_shows) (defBody s_Swelling_shows) (defScope s_Swelling_shows) [] [("least", V.bl false)] f fd) (c_check_rates : Cal S mg base "check_rates" 4 ["way", "kind", "least"] 3 m__check_rates fc_check_rates fdc_check_rates) (q_Reader : Mak S mg base 0 "Reader" 1 ["self", "way", "kind"] 3 m_Reader_init fq_Reader fdq_Reader 4) (k_Swelling__has_rate : Met S mg base 1 "_has_rate" 8 ["self", "reader"] 2 m_Swelling_has_rate fk_Swelling__has_rate fdk_Swelling__has_rate) (k_Swelling__is_closed : Met S mg base 1 "_is_closed" 6 ["self", "reader"] 2 m_Swelling_is_closed fk_Swelling__is_closed fdk_Swelling__is_closed) (k_Swelling__falls : Met S mg base 1 "_falls" 6 ["self", "reader", "least"] 3 m_Swelling_falls fk_Swelling__falls fdk_Swelling__falls) : FnOk S.P S.w S.K mg base CX0 9 f fd ["self", "way", "kind", "least"] (spM S 4 m_Swelling_shows) := by
  refine F.ok sc_Swelling_shows (fun vs H Q E h => h.1) (fun cdv A outer s H vs Q E hr h => ?_)
  have nd := sc_Swelling_shows.nd
  refine ⟨_, (pss_cons (ps_expr (pe_call c_check_rates.ok (hr.mono (by decide)) (by rfl) c_check_rates.g c_check_rates.kp c_check_rates.b .nil pass0 (pa_cons (pv 1) (pa_cons (pv 2) (pa_cons (pv 3) pa_nil))))) (pss_cons (ps_set (i := 4) nd rfl (Or.inl rfl) (pe_make q_Reader.mak q_Reader.ok (hr.mono (by decide)) (by rfl) q_Reader.g q_Reader.b .nil pass0 (pa_cons (pv 1) (pa_cons (pv 2) pa_nil)))) (pss_one (ps_ret (pe_and (pe_meth (pv 0) k_Swelling__has_rate.cl k_Swelling__has_rate.mt k_Swelling__has_rate.ok (hr.mono (by decide)) k_Swelling__has_rate.b .nil pass0 (pa_cons (pv 4) pa_nil)) (pe_and (pe_meth (pv 0) k_Swelling__is_closed.cl k_Swelling__is_closed.mt k_Swelling__is_closed.ok (hr.mono (by decide)) k_Swelling__is_closed.b .nil pass0 (pa_cons (pv 4) pa_nil)) (pe_one (pe_meth (pv 0) k_Swelling__falls.cl k_Swelling__falls.mt k_Swelling__falls.ok (hr.mono (by decide)) k_Swelling__falls.b .nil pass0 (pa_cons (pv 4) (pa_cons (pv 3) pa_nil)))))))))), fn_run (N := ["self", "way", "kind", "least", "reader"]) (m := mb_Swelling_shows) ?_ h⟩
  exact (ss_seq (ss_drop (se_callT (sa_cons se_var (sa_cons se_var (sa_cons se_var sa_nil))))) (ss_seq (ss_asg (se_makeS q_Reader.k (sa_cons se_var (sa_cons se_var sa_nil))) sg_name) (ss_ret (se_andV (se_methU k_Swelling__has_rate.nm se_var (sa_cons se_var sa_nil)) (se_andV (se_methU k_Swelling__is_closed.nm se_var (sa_cons se_var sa_nil)) (se_methU k_Swelling__falls.nm se_var (sa_cons se_var (sa_cons se_var sa_nil))))))))
theorem bd_Swelling_shows {f : Addr} {fd : FuncData} (F : FunD S.K "shows" "Swelling.shows" (defArgs s_Swelling_shows) (defBody s_Swelling_shows) (defScope s_Swelling_shows) [] [("least", V.bl false)] f fd) : ∃ ds, Vals [V.bl false] ds ∧ Binds S.K fd ["self", "way", "kind", "least"] ds := F.binds0 (ps := ["self", "way", "kind", "least"]) 3 (fun z => nomatch z) rfl fun _ _ _ _ _ _ us ks h1 h2 => match us, h1, ks, h2 with | [_, _, _], _, [_], _ => ⟨_, _, _, _, _, _, rfl, rfl, rfl⟩
theorem kb_Swelling_shows {f : Addr} {fd : FuncData} (F : FunD S.K "shows" "Swelling.shows" (defArgs s_Swelling_shows) (defBody s_Swelling_shows) (defScope s_Swelling_shows) [] [("least", V.bl false)] f fd) : KBn S.K fd ["self", "way", "kind", "least"] 3 ["least"] (fun us ws => us ++ ws) (fun vs zs => vs ++ zs) := by
  obtain ⟨mv, h⟩ := F.kbinds0 (ps := ["self", "way", "kind", "least"]) 3 ["least"] [] (fun us _ ws => us ++ ws) (fun z => nomatch z) (fun q hq => nomatch hq) (fun r1 _ r3 => r1.append r3) fun _ _ _ _ _ _ us mv ws h1 h2 h3 => match us, h1, ws, h3 with | [_, _, _], _, [_], _ => rfl
  exact h
theorem ok_AimWalk_first {f : Addr} {fd : FuncData} {fk_Reader_first : Addr} {fdk_Reader_first : FuncData} (F : Fun S.K "first" "AimWalk.first" s_AimWalk_first f fd) (k_Reader_first : Met S mg base 0 "first" 2 ["self"] 1 m_Reader_first fk_Reader_first fdk_Reader_first) (f_reader : Fld S "reader" [(2, 0)]) : FnOk S.P S.w S.K mg base CX0 3 f fd ["self"] (spM S 1 m_AimWalk_first) := by
  refine F.ok sc_AimWalk_first (fun vs H Q E h => h.1) (fun cdv A outer s H vs Q E hr h => ?_)
  have nd := sc_AimWalk_first.nd
  refine ⟨_, (pss_one (ps_ret (pe_tup (pa_cons (pe_meth0 (pe_fldS S (pv 0)) k_Reader_first.cl k_Reader_first.mt k_Reader_first.ok (hr.mono (by decide)) k_Reader_first.b .nil pass0) (pa_cons pe_int pa_nil))))), fn_run (N := ["self"]) (m := mb_AimWalk_first) ?_ h⟩
  exact (ss_ret (se_tup (sa_cons (se_methU k_Reader_first.nm (se_fld f_reader se_var) sa_nil) (sa_cons se_int sa_nil))))
theorem bd_AimWalk_first {f : Addr} {fd : FuncData} (F : Fun S.K "first" "AimWalk.first" s_AimWalk_first f fd) : Binds S.K fd ["self"] [] := F.binds (ps := ["self"]) fun _ _ _ _ _ _ us hl => match us, hl with | [_], _ => rfl
theorem ok_ChangeWalk_is_node {f : Addr} {fd : FuncData} {fc_is_within : Addr} {fdc_is_within : FuncData} {fk_AimWalk_is_node : Addr} {fdk_AimWalk_is_node : FuncData} (F : Fun S.K "is_node" "ChangeWalk.is_node" s_ChangeWalk_is_node f fd) (n_isinstance : mg "isinstance" = none) (n_tuple : mg "tuple" = none) (n_len : mg "len" = none) (c_is_within : Cal S mg base "is_within" 2 ["number", "low", "high"] 3 m_is_within fc_is_within fdc_is_within) (f_text : Fld S "text" [(3, 1), (4, 0)]) (k_AimWalk_is_node : Met S mg base 2 "is_node" 3 ["self", "node"] 2 m_AimWalk_is_node fk_AimWalk_is_node fdk_AimWalk_is_node) (f_aim : Fld S "aim" [(3, 0)]) : FnOk S.P S.w S.K mg base CX0 4 f fd ["self", "node"] (spM S 2 m_ChangeWalk_is_node) := by
  refine F.ok sc_ChangeWalk_is_node (fun vs H Q E h => h.1) (fun cdv A outer s H vs Q E hr h => ?_)
  have nd := sc_ChangeWalk_is_node.nd
  refine ⟨_, (pss_cons (ps_if (PW.pt (pw_or (pt_not (pt_truS S (pe_callB (call_isiS S) (by rfl) n_isinstance (by decide +kernel) (pa_cons (pv 1) (pa_cons (pe_bltn (v := .ty "tuple") (u := .type "tuple") (by rfl) n_tuple (by decide +kernel) rfl) pa_nil))))) (pw_or1 (pt_cmpR (op_neS S hr.units) (pe_callB (call_lenS S) (by rfl) n_len (by decide +kernel) (pa_cons (pv 1) pa_nil)) pe_int (nomark _))))) (pss_one (ps_ret pe_bl)) pss_nil) (pss_one (ps_ret (pe_and (pe_call c_is_within.ok (hr.mono (by decide)) (by rfl) c_is_within.g c_is_within.kp c_is_within.b .nil pass0 (pa_cons (pe_ix (ix_S S (hu9 hr)) (pv 1) pe_int (fun _ _ => rfl)) (pa_cons pe_int (pa_cons (pe_callB (call_lenS S) (by rfl) n_len (by decide +kernel) (pa_cons (pe_fldS S (pv 0)) pa_nil)) pa_nil)))) (pe_one (pe_meth (pe_fldS S (pv 0)) k_AimWalk_is_node.cl k_AimWalk_is_node.mt k_AimWalk_is_node.ok (hr.mono (by decide)) k_AimWalk_is_node.b .nil pass0 (pa_cons (pe_slice (sl_S S) (pv 1) (po_some pe_int) po_none) pa_nil))))))), fn_run (N := ["self", "node"]) (m := mb_ChangeWalk_is_node) ?_ h⟩
  exact (ss_seq (ss_if (st_or (st_not (st_tru (se_isi (.ty "tuple") isT_ty se_var))) (st_test (se_op vo_ne (se_cb vc_len (sa_cons se_var sa_nil)) se_int))) (ss_ret se_bl) ss_next) (ss_ret (se_andV (se_callT (sa_cons (se_op vo_ixX se_var se_int) (sa_cons se_int (sa_cons (se_cb vc_len (sa_cons (se_fld f_text se_var) sa_nil)) sa_nil)))) (se_methU k_AimWalk_is_node.nm (se_fld f_aim se_var) (sa_cons (se_sl se_var (so_some se_int) so_none) sa_nil)))))
theorem bd_ChangeWalk_is_node {f : Addr} {fd : FuncData} (F : Fun S.K "is_node" "ChangeWalk.is_node" s_ChangeWalk_is_node f fd) : Binds S.K fd ["self", "node"] [] := F.binds (ps := ["self", "node"]) fun _ _ _ _ _ _ us hl => match us, hl with | [_, _], _ => rfl
theorem ok_Fitted_init {f : Addr} {fd : FuncData} (F : Fun S.K "__init__" "Fitted.__init__" s_Fitted_init f fd) (f_text : Fld S "text" [(3, 1), (4, 0)]) (f_floors : Fld S "floors" [(4, 1)]) : FnOk S.P S.w S.K mg base CX0 1 f fd ["self", "text", "floors"] (spM S 3 m_Fitted_init) := by
  refine F.ok sc_Fitted_init (fun vs H Q E h => h.1) (fun cdv A outer s H vs Q E hr h => ?_)
  have nd := sc_Fitted_init.nd
  refine ⟨_, (pss_cons (ps_fld (pv 0) (pv 1) rfl) (pss_one (ps_fld (pv 0) (pe_dcN (own := [("node", 3)]) (g := (gName 3)) (hu9 hr) (by rfl) nd (pi_anyS S (pv 2)) (blkOk_by (own := [("node", 3)]) (N := ["self", "text", "floors", "node"]) (sc := defScope s_Fitted_init) (by decide +kernel)) (fun _ _ _ _ _ => (pg_name (i := 3) nd rfl (Or.inl rfl))) (fun _ _ _ _ _ => pts_nil) (fun _ _ _ _ _ => (pv 3)) (fun _ _ _ _ _ => (pe_ix (ix_S S (hu9 hr)) (pv 2) (pv 3) (fun _ _ => rfl)))) rfl))), fn_run (N := ["self", "text", "floors", "node"]) (m := mb_Fitted_init) ?_ h⟩
  exact (ss_seq (ss_fld f_text se_var se_var) (ss_fld f_floors se_var (se_isoM 2 (se_dcM (vs := [3]) (si_any se_var) sg_name (gw_name (by decide)) st_yes se_var (se_op vo_ixX se_var se_var)))))
theorem bd_Fitted_init {f : Addr} {fd : FuncData} (F : Fun S.K "__init__" "Fitted.__init__" s_Fitted_init f fd) : Binds S.K fd ["self", "text", "floors"] [] := F.binds (ps := ["self", "text", "floors"]) fun _ _ _ _ _ _ us hl => match us, hl with | [_, _, _], _ => rfl
theorem ok_fit {f : Addr} {fd : FuncData} {fc_check_fitting : Addr} {fdc_check_fitting : FuncData} {fq_ChangeWalk : Addr} {fdq_ChangeWalk : FuncData} {fc_costs_to_end : Addr} {fdc_costs_to_end : FuncData} {fk_ChangeWalk_first : Addr} {fdk_ChangeWalk_first : FuncData} {fc_search : Addr} {fdc_search : FuncData} {fq_AimWalk : Addr} {fdq_AimWalk : FuncData} {fq_Unfit : Addr} {fdq_Unfit : FuncData} {fq_Fitted : Addr} {fdq_Fitted : FuncData} {fc_cheapest_text : Addr} {fdc_cheapest_text : FuncData} (F : Fun S.K "fit" "fit" s_fit f fd) (c_check_fitting : Cal S mg base "check_fitting" 4 ["way", "kind", "text", "wanted"] 4 m__check_fitting fc_check_fitting fdc_check_fitting) (q_ChangeWalk : Mak S mg base 3 "ChangeWalk" 5 ["self", "way", "kind", "text", "wanted"] 5 m_ChangeWalk_init fq_ChangeWalk fdq_ChangeWalk 2) (c_costs_to_end : Cal S mg base "costs_to_end" 9 ["walk"] 1 m_costs_to_end fc_costs_to_end fdc_costs_to_end) (k_ChangeWalk_first : Met S mg base 3 "first" 4 ["self"] 1 m_ChangeWalk_first fk_ChangeWalk_first fdk_ChangeWalk_first) (c_search : Cal S mg base "search" 8 ["walk"] 1 m_search fc_search fdc_search) (q_AimWalk : Mak S mg base 2 "AimWalk" 3 ["self", "way", "kind", "wanted"] 4 m_AimWalk_init fq_AimWalk fdq_AimWalk 2) (q_Unfit : Mak S mg base 5 "Unfit" 1 ["self", "places"] 2 m_Unfit_init fq_Unfit fdq_Unfit 1) (n_min : mg "min" = none) (q_Fitted : Mak S mg base 4 "Fitted" 1 ["self", "text", "floors"] 3 m_Fitted_init fq_Fitted fdq_Fitted 2) (c_cheapest_text : Cal S mg base "cheapest_text" 8 ["walk", "costs"] 2 m_cheapest_text fc_cheapest_text fdc_cheapest_text) : FnOk S.P S.w S.K mg base CX0 10 f fd ["way", "kind", "text", "wanted"] (spM S 4 m_fit) := by
  refine F.ok sc_fit (fun vs H Q E h => h.1) (fun cdv A outer s H vs Q E hr h => ?_)
  have nd := sc_fit.nd
  refine ⟨_, (pss_cons (ps_expr (pe_call c_check_fitting.ok (hr.mono (by decide)) (by rfl) c_check_fitting.g c_check_fitting.kp c_check_fitting.b .nil pass0 (pa_cons (pv 0) (pa_cons (pv 1) (pa_cons (pv 2) (pa_cons (pv 3) pa_nil)))))) (pss_cons (ps_set (i := 4) nd rfl (Or.inl rfl) (pe_make q_ChangeWalk.mak q_ChangeWalk.ok (hr.mono (by decide)) (by rfl) q_ChangeWalk.g q_ChangeWalk.b .nil pass0 (pa_cons (pv 0) (pa_cons (pv 1) (pa_cons (pv 2) (pa_cons (pv 3) pa_nil)))))) (pss_cons (ps_set (i := 5) nd rfl (Or.inl rfl) (pe_call c_costs_to_end.ok (hr.mono (by decide)) (by rfl) c_costs_to_end.g c_costs_to_end.kp c_costs_to_end.b .nil pass0 (pa_cons (pv 4) pa_nil))) (pss_cons (ps_set (i := 6) nd rfl (Or.inr rfl) (pe_ix (ix_S S (hu9 hr)) (pv 5) (pe_meth0 (pv 4) k_ChangeWalk_first.cl k_ChangeWalk_first.mt k_ChangeWalk_first.ok (hr.mono (by decide)) k_ChangeWalk_first.b .nil pass0) (fun _ _ => rfl))) (pss_cons (ps_if (pt_cmpR op_isAll (pv 6) pe_non (nomark _)) (pss_cons (ps_asg (pe_call c_search.ok (hr.mono (by decide)) (by rfl) c_search.g c_search.kp c_search.b .nil pass0 (pa_cons (pe_make q_AimWalk.mak q_AimWalk.ok (hr.mono (by decide)) (by rfl) q_AimWalk.g q_AimWalk.b .nil pass0 (pa_cons (pv 0) (pa_cons (pv 1) (pa_cons (pv 3) pa_nil)))) pa_nil)) (pg_tup rfl (pgs_cons (pg_name (i := 7) nd rfl (Or.inl rfl)) (pgs_cons (pg_name (i := 8) nd rfl (Or.inl rfl)) pgs_nil)))) (pss_one (ps_ret (pe_make q_Unfit.mak q_Unfit.ok (hr.mono (by decide)) (by rfl) q_Unfit.g q_Unfit.b .nil pass0 (pa_cons (pv 7) pa_nil))))) pss_nil) (pss_cons (ps_setDcN (i := 9) (own := [("node", 10), ("cost", 11)]) (g := (gTup S.K 2 (gNames [10, 11]))) (hu9 hr) (by rfl) nd rfl rfl (sw_trueD rfl rfl rfl (by decide +kernel)) (pi_itemsS S (pv 5)) (blkOk_by (own := [("node", 10), ("cost", 11)]) (N := ["way", "kind", "text", "wanted", "walk", "costs", "total", "places", "_", "floors", "node", "cost"]) (sc := defScope s_fit) (by decide +kernel)) (fun _ _ _ _ _ => (pg_tup rfl (pgs_cons (pg_name (i := 10) nd rfl (Or.inl rfl)) (pgs_cons (pg_name (i := 11) nd rfl (Or.inl rfl)) pgs_nil)))) (fun _ _ _ _ _ => pts_nil) (fun _ _ _ _ _ => (pv 10)) (fun _ _ _ _ _ => (pe_ifExp (pt_cmpR op_isAll (pv 11) pe_non (nomark _)) (pv 6) (pe_callB (call_min2' rfl) (by rfl) n_min (by decide +kernel) (pa_cons (pv 11) (pa_cons (pv 6) pa_nil)))))) (pss_one (ps_ret (pe_make q_Fitted.mak q_Fitted.ok (hr.mono (by decide)) (by rfl) q_Fitted.g q_Fitted.b .nil pass0 (pa_cons (pe_call c_cheapest_text.ok (hr.mono (by decide)) (by rfl) c_cheapest_text.g c_cheapest_text.kp c_cheapest_text.b .nil pass0 (pa_cons (pv 4) (pa_cons (pv 5) pa_nil))) (pa_cons (pv 9) pa_nil))))))))))), fn_run (N := ["way", "kind", "text", "wanted", "walk", "costs", "total", "places", "_", "floors", "node", "cost"]) (m := mb_fit) ?_ h⟩
  exact (ss_seq (ss_drop (se_callT (sa_cons se_var (sa_cons se_var (sa_cons se_var (sa_cons se_var sa_nil)))))) (ss_seq (ss_asg (se_makeS q_ChangeWalk.k (sa_cons se_var (sa_cons se_var (sa_cons se_var (sa_cons se_var sa_nil))))) sg_name) (ss_seq (ss_asg (se_callT (sa_cons se_var sa_nil)) sg_name) (ss_seq (ss_asg (se_op vo_ixX se_var (se_methU k_ChangeWalk_first.nm se_var sa_nil)) sg_name) (ss_seq (ss_if (st_test (se_op vo_is se_var se_non)) (ss_seq (ss_asg (se_callT (sa_cons (se_makeS q_AimWalk.k (sa_cons se_var (sa_cons se_var (sa_cons se_var sa_nil)))) sa_nil)) (sg_tup (sgs_cons sg_name (sgs_cons sg_name sgs_nil)))) (ss_ret (se_makeS q_Unfit.k (sa_cons se_var sa_nil)))) ss_next) (ss_seq (ss_asg (se_dc (vs := [10, 11]) (si_items se_var) (sg_tup (sgs_cons sg_name (sgs_cons sg_name sgs_nil))) (gw_tup (gws_names [10, 11] (by decide))) st_yes se_var (se_if (st_test (se_op vo_is se_var se_non)) se_var (se_cb vc_min2 (sa_cons se_var (sa_cons se_var sa_nil))))) sg_name) (ss_ret (se_makeS q_Fitted.k (sa_cons (se_callT (sa_cons se_var (sa_cons se_var sa_nil))) (sa_cons se_var sa_nil))))))))))
theorem bd_fit {f : Addr} {fd : FuncData} (F : Fun S.K "fit" "fit" s_fit f fd) : Binds S.K fd ["way", "kind", "text", "wanted"] [] := F.binds (ps := ["way", "kind", "text", "wanted"]) fun _ _ _ _ _ _ us hl => match us, hl with | [_, _, _, _], _ => rfl
end
end K50
namespace K50
open PySem PySem.Spec PyProof.Rows L2 RZ PpSet Rm
section
variable {S : Se} {mg : Str → Option Value} {base : Heap} {ag_CONVERSIONS ag_KINDS ag_SIGNS ag__HELD ag__MADE_OF ag__PLAIN ag__REPLACED ag_behind : Addr}
theorem ok_check_kind {f : Addr} {fd : FuncData} {ag_KINDS : Addr} (F : Fun S.K "check_kind" "check_kind" s_check_kind f fd) (n_isinstance : mg "isinstance" = none) (n_str : mg "str" = none) (g_KINDS : mg "KINDS" = some (.ref ag_KINDS)) (z_KINDS : ∀ F ι H, RV S.toSg F ι H (.tup [(.str [97, 110, 121]), (.str [98, 97, 114, 101]), (.str [108, 111, 110, 101]), (.str [112, 97, 105, 114, 101, 100])]) (.ref ag_KINDS)) : FnOk S.P S.w S.K mg base CX0 1 f fd ["kind"] (spM S 1 m_check_kind) := by
  refine F.ok sc_check_kind (fun vs H Q E h => h.1) (fun cdv A outer s H vs Q E hr h => ?_)
  have nd := sc_check_kind.nd
  refine ⟨_, (pss_one (ps_if (PW.pt (pw_or (pt_not (pt_truS S (pe_callB (call_isiS S) (by rfl) n_isinstance (by decide +kernel) (pa_cons (pv 0) (pa_cons (pe_bltn (v := .ty "str") (u := .type "str") (by rfl) n_str (by decide +kernel) rfl) pa_nil))))) (pw_or1 (pt_cmpR (op_niYS S (hu65 hr)) (pv 0) (pe_glob (v := .ref ag_KINDS) (by rfl) g_KINDS rfl) rfl)))) (pss_one ps_never) pss_nil)), fn_run (N := ["kind"]) (m := mb_check_kind) ?_ h⟩
  exact (ss_if (st_or (st_not (st_tru (se_isi (.ty "str") isT_ty se_var))) (st_test (se_op vo_niY se_var (se_c z_KINDS)))) ss_bad ss_next)
theorem bd_check_kind {f : Addr} {fd : FuncData} (F : Fun S.K "check_kind" "check_kind" s_check_kind f fd) : Binds S.K fd ["kind"] [] := F.binds (ps := ["kind"]) fun _ _ _ _ _ _ us hl => match us, hl with | [_], _ => rfl
theorem ok_Reader_init {f : Addr} {fd : FuncData} (F : Fun S.K "__init__" "Reader.__init__" s_Reader_init f fd) (f_way : Fld S "way" [(0, 0)]) (f_kind : Fld S "kind" [(0, 1)]) (f__known_moves : Fld S "_known_moves" [(0, 2)]) (f__known_ends : Fld S "_known_ends" [(0, 3)]) : FnOk S.P S.w S.K mg base CX0 1 f fd ["self", "way", "kind"] (spM S 3 m_Reader_init) := by
  refine F.ok sc_Reader_init (fun vs H Q E h => h.1) (fun cdv A outer s H vs Q E hr h => ?_)
  have nd := sc_Reader_init.nd
  refine ⟨_, (pss_cons (ps_fld (pv 0) (pv 1) rfl) (pss_cons (ps_fld (pv 0) (pv 2) rfl) (pss_cons (ps_fld (pv 0) (pe_newS S) rfl) (pss_one (ps_fld (pv 0) (pe_newS S) rfl))))), fn_run (N := ["self", "way", "kind"]) (m := mb_Reader_init) ?_ h⟩
  exact (ss_seq (ss_fld f_way se_var se_var) (ss_seq (ss_fld f_kind se_var se_var) (ss_seq (ss_fld f__known_moves se_var se_newM) (ss_fld f__known_ends se_var se_newM))))
theorem bd_Reader_init {f : Addr} {fd : FuncData} (F : Fun S.K "__init__" "Reader.__init__" s_Reader_init f fd) : Binds S.K fd ["self", "way", "kind"] [] := F.binds (ps := ["self", "way", "kind"]) fun _ _ _ _ _ _ us hl => match us, hl with | [_, _, _], _ => rfl
theorem ok_is_half {f : Addr} {fd : FuncData} (F : Fun S.K "is_half" "is_half" s_is_half f fd)  : FnOk S.P S.w S.K mg base CX0 1 f fd ["kind", "sign"] (spM S 2 m_is_half) := by
  refine F.ok sc_is_half (fun vs H Q E h => h.1) (fun cdv A outer s H vs Q E hr h => ?_)
  have nd := sc_is_half.nd
  refine ⟨_, (pss_one (ps_ret (pe_and (pe_cmpR (op_eqS S hr.units) (pv 0) pe_str (nomark _)) (pe_one (pe_cmpR (op_eqS S hr.units) (pv 1) pe_str (nomark _)))))), fn_run (N := ["kind", "sign"]) (m := mb_is_half) ?_ h⟩
  exact (ss_ret (se_andV (se_op vo_eq se_var (se_strL)) (se_op vo_eq se_var (se_strL))))
theorem bd_is_half {f : Addr} {fd : FuncData} (F : Fun S.K "is_half" "is_half" s_is_half f fd) : Binds S.K fd ["kind", "sign"] [] := F.binds (ps := ["kind", "sign"]) fun _ _ _ _ _ _ us hl => match us, hl with | [_, _], _ => rfl
theorem ok__climb {f : Addr} {fd : FuncData} {fc__lift : Addr} {fdc__lift : FuncData} (F : Fun S.K "_climb" "_climb" s__climb f fd) (c__lift : Cal S mg base "_lift" 6 ["reader", "heights", "chosen", "rate", "least"] 5 m__lift fc__lift fdc__lift) : FnOk S.P S.w S.K mg base CX0 7 f fd ["reader", "places", "rate", "least"] (spM S 4 m__climb) := by
  refine F.ok sc__climb (fun vs H Q E h => h.1) (fun cdv A outer s H vs Q E hr h => ?_)
  have nd := sc__climb.nd
  refine ⟨_, (pss_cons (ps_setDcN (i := 4) (own := [("place", 8)]) (g := (gName 8)) (hu9 hr) (by rfl) nd rfl rfl (sw_trueD rfl rfl rfl (by decide +kernel)) (pi_anyS S (pv 1)) (blkOk_by (own := [("place", 8)]) (N := ["reader", "places", "rate", "least", "heights", "chosen", "raised", "_", "place"]) (sc := defScope s__climb) (by decide +kernel)) (fun _ _ _ _ _ => (pg_name (i := 8) nd rfl (Or.inl rfl))) (fun _ _ _ _ _ => pts_nil) (fun _ _ _ _ _ => (pv 8)) (fun _ _ _ _ _ => pe_int)) (pss_cons (ps_set (i := 5) nd rfl (Or.inl rfl) (pe_newS S)) (pss_cons (ps_set (i := 6) nd rfl (Or.inl rfl) pe_non) (pss_cons (ps_for PassesOwn.never rfl (pi_anyS S (pv 1)) (pg_name (i := 7) nd rfl (Or.inl rfl)) (pss_cons (ps_set (i := 6) nd rfl (Or.inl rfl) (pe_call c__lift.ok (hr.mono (by decide)) (by rfl) c__lift.g c__lift.kp c__lift.b .nil pass0 (pa_cons (pv 0) (pa_cons (pv 4) (pa_cons (pv 5) (pa_cons (pv 2) (pa_cons (pv 3) pa_nil))))))) (pss_one (ps_if (pt_cmpR op_isAll (pv 6) pe_non (nomark _)) (pss_one ps_break) pss_nil)))) (pss_one (ps_ret (pe_tup (pa_cons (pv 4) (pa_cons (pv 5) (pa_cons (pv 6) pa_nil)))))))))), fn_run (N := ["reader", "places", "rate", "least", "heights", "chosen", "raised", "_", "place"]) (m := mb__climb) ?_ h⟩
  exact (ss_seq (ss_asg (se_dcM (vs := [8]) (si_any se_var) sg_name (gw_name (by decide)) st_yes se_var se_int) sg_name) (ss_seq (ss_asg se_newM sg_name) (ss_seq (ss_asg se_non sg_name) (ss_seq (ss_for (si_any se_var) sg_name (ss_seq (ss_asg (se_callT (sa_cons se_var (sa_cons se_var (sa_cons se_var (sa_cons se_var (sa_cons se_var sa_nil)))))) sg_name) (ss_if (st_test (se_op vo_is se_var se_non)) ss_bk ss_next))) (ss_ret (se_tup (sa_cons se_var (sa_cons se_var (sa_cons se_var sa_nil)))))))))
theorem bd__climb {f : Addr} {fd : FuncData} (F : Fun S.K "_climb" "_climb" s__climb f fd) : Binds S.K fd ["reader", "places", "rate", "least"] [] := F.binds (ps := ["reader", "places", "rate", "least"]) fun _ _ _ _ _ _ us hl => match us, hl with | [_, _, _, _], _ => rfl
theorem ok_AimWalk_steps {f : Addr} {fd : FuncData} {fk_Reader_moves : Addr} {fdk_Reader_moves : FuncData} (F : Fun S.K "steps" "AimWalk.steps" s_AimWalk_steps f fd) (k_Reader_moves : Met S mg base 0 "moves" 5 ["self", "place"] 2 m_Reader_moves fk_Reader_moves fdk_Reader_moves) (f_reader : Fld S "reader" [(2, 0)]) (f_wanted : Fld S "wanted" [(2, 1)]) (n_len : mg "len" = none) : FnOk S.P S.w S.K mg base CX0 6 f fd ["self", "node"] (spM S 2 m_AimWalk_steps) := by
  refine F.ok sc_AimWalk_steps (fun vs H Q E h => h.1) (fun cdv A outer s H vs Q E hr h => ?_)
  have nd := sc_AimWalk_steps.nd
  refine ⟨_, (pss_cons (ps_asg (pv 1) (pg_tup rfl (pgs_cons (pg_name (i := 2) nd rfl (Or.inl rfl)) (pgs_cons (pg_name (i := 3) nd rfl (Or.inr rfl)) pgs_nil)))) (pss_one (ps_ret (pe_lc (own := [("sign", 4), ("behind", 5), ("given", 6)]) (g := (gTup S.K 3 (gNames [4, 5, 6]))) (by rfl) nd (pi_anyS S (pe_meth (pe_fldS S (pv 0)) k_Reader_moves.cl k_Reader_moves.mt k_Reader_moves.ok (hr.mono (by decide)) k_Reader_moves.b .nil pass0 (pa_cons (pv 2) pa_nil))) (blkOk_by (own := [("sign", 4), ("behind", 5), ("given", 6)]) (N := ["self", "node", "place", "done", "sign", "behind", "given"]) (sc := defScope s_AimWalk_steps) (by decide +kernel)) (fun _ _ _ _ _ => (pg_tup rfl (pgs_cons (pg_name (i := 4) nd rfl (Or.inl rfl)) (pgs_cons (pg_name (i := 5) nd rfl (Or.inl rfl)) (pgs_cons (pg_name (i := 6) nd rfl (Or.inl rfl)) pgs_nil))))) (fun _ _ _ _ _ => (pts_one (pt_truS S (pe_stwS S (pe_fldS S (pv 0)) (pa_cons (pv 6) (pa_cons (pv 3) pa_nil)))))) (fun _ _ _ _ _ => (pe_tup (pa_cons (pe_tup (pa_cons (pv 5) (pa_cons (pe_op (op_addS S) (pv 3) (pe_callB (call_lenS S) (by rfl) n_len (by decide +kernel) (pa_cons (pv 6) pa_nil))) pa_nil))) (pa_cons pe_int (pa_cons (pv 4) pa_nil))))))))), fn_run (N := ["self", "node", "place", "done", "sign", "behind", "given"]) (m := mb_AimWalk_steps) ?_ h⟩
  exact (ss_seq (ss_asg se_var (sg_tup (sgs_cons sg_name (sgs_cons sg_name sgs_nil)))) (ss_ret (se_lc (vs := [4, 5, 6]) (si_any (se_methU k_Reader_moves.nm (se_fld f_reader se_var) (sa_cons se_var sa_nil))) (sg_tup (sgs_cons sg_name (sgs_cons sg_name (sgs_cons sg_name sgs_nil)))) (gw_tup (gws_names [4, 5, 6] (by decide))) (st_tru (se_stw (se_fld f_wanted se_var) se_var se_var)) (se_tup (sa_cons (se_tup (sa_cons se_var (sa_cons (se_op vo_add se_var (se_cb vc_len (sa_cons se_var sa_nil))) sa_nil))) (sa_cons se_int (sa_cons se_var sa_nil)))))))
theorem bd_AimWalk_steps {f : Addr} {fd : FuncData} (F : Fun S.K "steps" "AimWalk.steps" s_AimWalk_steps f fd) : Binds S.K fd ["self", "node"] [] := F.binds (ps := ["self", "node"]) fun _ _ _ _ _ _ us hl => match us, hl with | [_, _], _ => rfl
theorem ok_fits {f : Addr} {fd : FuncData} (F : Fun S.K "fits" "fits" s_fits f fd)  : FnOk S.P S.w S.K mg base CX0 1 f fd ["text", "kind"] (spM S 2 m_fits) := by
  refine F.ok sc_fits (fun vs H Q E h => h.1) (fun cdv A outer s H vs Q E hr h => ?_)
  have nd := sc_fits.nd
  refine ⟨_, (pss_cons (ps_if (pt_cmpR (op_eqS S hr.units) (pv 1) pe_str (nomark _)) (pss_one (ps_ret (pe_cmpR (op_niYS S (hu65 hr)) pe_str (pv 0) rfl))) pss_nil) (pss_cons (ps_if (pt_cmpR (op_eqS S hr.units) (pv 1) pe_str (nomark _)) (pss_one (ps_ret (pe_cmpR (op_niYS S (hu65 hr)) pe_str (pv 0) rfl))) pss_nil) (pss_cons (ps_if (pt_cmpR (op_eqS S hr.units) (pv 1) pe_str (nomark _)) (pss_one (ps_ret (pe_chain (op_eqS S hr.units) (op_eqS S hr.units) (pe_m1 PySem.F.slot_str_count PySem.F.type_str_count mt_count (pv 0) pe_str) (pe_m1 PySem.F.slot_str_count PySem.F.type_str_count mt_count (pv 0) pe_str) (pe_m1 PySem.F.slot_str_count PySem.F.type_str_count mt_count (pv 0) pe_str)))) pss_nil) (pss_one (ps_ret pe_bl))))), fn_run (N := ["text", "kind"]) (m := mb_fits) ?_ h⟩
  exact (ss_seq (ss_if (st_test (se_op vo_eq se_var (se_strL))) (ss_ret (se_op vo_niY (se_strL) se_var)) ss_next) (ss_seq (ss_if (st_test (se_op vo_eq se_var (se_strL))) (ss_ret (se_op vo_niY (se_strL) se_var)) ss_next) (ss_seq (ss_if (st_test (se_op vo_eq se_var (se_strL))) (ss_ret (se_chain vo_eq vo_eq (se_m1 vo_count se_var (se_strL)) (se_m1 vo_count se_var (se_strL)) (se_m1 vo_count se_var (se_strL)))) ss_next) (ss_ret se_bl))))
theorem bd_fits {f : Addr} {fd : FuncData} (F : Fun S.K "fits" "fits" s_fits f fd) : Binds S.K fd ["text", "kind"] [] := F.binds (ps := ["text", "kind"]) fun _ _ _ _ _ _ us hl => match us, hl with | [_, _], _ => rfl
theorem ok_Fitted_shows {f : Addr} {fd : FuncData} {fc_check_fitting : Addr} {fdc_check_fitting : FuncData} {fc_is_text : Addr} {fdc_is_text : FuncData} {fc_fits : Addr} {fdc_fits : FuncData} {fc_turn : Addr} {fdc_turn : FuncData} {fc_are_floors : Addr} {fdc_are_floors : FuncData} {fc_distance_between : Addr} {fdc_distance_between : FuncData} {fq_ChangeWalk : Addr} {fdq_ChangeWalk : FuncData} (F : Fun S.K "shows" "Fitted.shows" s_Fitted_shows f fd) (c_check_fitting : Cal S mg base "check_fitting" 4 ["way", "kind", "text", "wanted"] 4 m__check_fitting fc_check_fitting fdc_check_fitting) (c_is_text : Cal S mg base "is_text" 1 ["text"] 1 m_is_text fc_is_text fdc_is_text) (f_text : Fld S "text" [(3, 1), (4, 0)]) (c_fits : Cal S mg base "fits" 1 ["text", "kind"] 2 m_fits fc_fits fdc_fits) (c_turn : Cal S mg base "turn" 1 ["way", "text"] 2 m_turn fc_turn fdc_turn) (c_are_floors : Cal S mg base "are_floors" 8 ["walk", "floors", "total"] 3 m_are_floors fc_are_floors fdc_are_floors) (c_distance_between : Cal S mg base "distance_between" 1 ["text", "other"] 2 m_distance_between fc_distance_between fdc_distance_between) (f_floors : Fld S "floors" [(4, 1)]) (q_ChangeWalk : Mak S mg base 3 "ChangeWalk" 5 ["self", "way", "kind", "text", "wanted"] 5 m_ChangeWalk_init fq_ChangeWalk fdq_ChangeWalk 2) : FnOk S.P S.w S.K mg base CX0 9 f fd ["self", "way", "kind", "text", "wanted"] (spM S 5 m_Fitted_shows) := by
  refine F.ok sc_Fitted_shows (fun vs H Q E h => h.1) (fun cdv A outer s H vs Q E hr h => ?_)
  have nd := sc_Fitted_shows.nd
  refine ⟨_, (pss_cons (ps_expr (pe_call c_check_fitting.ok (hr.mono (by decide)) (by rfl) c_check_fitting.g c_check_fitting.kp c_check_fitting.b .nil pass0 (pa_cons (pv 1) (pa_cons (pv 2) (pa_cons (pv 3) (pa_cons (pv 4) pa_nil)))))) (pss_cons (ps_if (PW.pt (pw_or (pt_not (pt_truS S (pe_call c_is_text.ok (hr.mono (by decide)) (by rfl) c_is_text.g c_is_text.kp c_is_text.b .nil pass0 (pa_cons (pe_fldS S (pv 0)) pa_nil)))) (pw_or (pt_not (pt_truS S (pe_call c_fits.ok (hr.mono (by decide)) (by rfl) c_fits.g c_fits.kp c_fits.b .nil pass0 (pa_cons (pe_fldS S (pv 0)) (pa_cons (pv 2) pa_nil))))) (pw_or1 (pt_cmpR (op_neS S hr.units) (pe_call c_turn.ok (hr.mono (by decide)) (by rfl) c_turn.g c_turn.kp c_turn.b .nil pass0 (pa_cons (pv 1) (pa_cons (pe_fldS S (pv 0)) pa_nil))) (pv 4) (nomark _)))))) (pss_one (ps_ret pe_bl)) pss_nil) (pss_one (ps_ret (pe_call c_are_floors.ok (hr.mono (by decide)) (by rfl) c_are_floors.g c_are_floors.kp c_are_floors.b .nil pass0 (pa_cons (pe_make q_ChangeWalk.mak q_ChangeWalk.ok (hr.mono (by decide)) (by rfl) q_ChangeWalk.g q_ChangeWalk.b .nil pass0 (pa_cons (pv 1) (pa_cons (pv 2) (pa_cons (pv 3) (pa_cons (pv 4) pa_nil))))) (pa_cons (pe_fldS S (pv 0)) (pa_cons (pe_call c_distance_between.ok (hr.mono (by decide)) (by rfl) c_distance_between.g c_distance_between.kp c_distance_between.b .nil pass0 (pa_cons (pv 3) (pa_cons (pe_fldS S (pv 0)) pa_nil))) pa_nil)))))))), fn_run (N := ["self", "way", "kind", "text", "wanted"]) (m := mb_Fitted_shows) ?_ h⟩
  exact (ss_seq (ss_drop (se_callT (sa_cons se_var (sa_cons se_var (sa_cons se_var (sa_cons se_var sa_nil)))))) (ss_seq (ss_if (st_or (st_not (st_tru (se_callT (sa_cons (se_fld f_text se_var) sa_nil)))) (st_or (st_not (st_tru (se_callT (sa_cons (se_fld f_text se_var) (sa_cons se_var sa_nil))))) (st_test (se_op vo_ne (se_callT (sa_cons se_var (sa_cons (se_fld f_text se_var) sa_nil))) se_var)))) (ss_ret se_bl) ss_next) (ss_ret (se_callT (sa_cons (se_makeS q_ChangeWalk.k (sa_cons se_var (sa_cons se_var (sa_cons se_var (sa_cons se_var sa_nil))))) (sa_cons (se_fld f_floors se_var) (sa_cons (se_callT (sa_cons se_var (sa_cons (se_fld f_text se_var) sa_nil))) sa_nil)))))))
theorem bd_Fitted_shows {f : Addr} {fd : FuncData} (F : Fun S.K "shows" "Fitted.shows" s_Fitted_shows f fd) : Binds S.K fd ["self", "way", "kind", "text", "wanted"] [] := F.binds (ps := ["self", "way", "kind", "text", "wanted"]) fun _ _ _ _ _ _ us hl => match us, hl with | [_, _, _, _, _], _ => rfl
theorem ok_Unfit_shows {f : Addr} {fd : FuncData} {fc_check_fitting : Addr} {fdc_check_fitting : FuncData} {fc_is_closed : Addr} {fdc_is_closed : FuncData} {fq_AimWalk : Addr} {fdq_AimWalk : FuncData} (F : Fun S.K "shows" "Unfit.shows" s_Unfit_shows f fd) (c_check_fitting : Cal S mg base "check_fitting" 4 ["way", "kind", "text", "wanted"] 4 m__check_fitting fc_check_fitting fdc_check_fitting) (c_is_closed : Cal S mg base "is_closed" 8 ["walk", "nodes"] 2 m_is_closed fc_is_closed fdc_is_closed) (f_places : Fld S "places" [(5, 0)]) (q_AimWalk : Mak S mg base 2 "AimWalk" 3 ["self", "way", "kind", "wanted"] 4 m_AimWalk_init fq_AimWalk fdq_AimWalk 2) : FnOk S.P S.w S.K mg base CX0 9 f fd ["self", "way", "kind", "text", "wanted"] (spM S 5 m_Unfit_shows) := by
  refine F.ok sc_Unfit_shows (fun vs H Q E h => h.1) (fun cdv A outer s H vs Q E hr h => ?_)
  have nd := sc_Unfit_shows.nd
  refine ⟨_, (pss_cons (ps_expr (pe_call c_check_fitting.ok (hr.mono (by decide)) (by rfl) c_check_fitting.g c_check_fitting.kp c_check_fitting.b .nil pass0 (pa_cons (pv 1) (pa_cons (pv 2) (pa_cons (pv 3) (pa_cons (pv 4) pa_nil)))))) (pss_one (ps_ret (pe_call c_is_closed.ok (hr.mono (by decide)) (by rfl) c_is_closed.g c_is_closed.kp c_is_closed.b .nil pass0 (pa_cons (pe_make q_AimWalk.mak q_AimWalk.ok (hr.mono (by decide)) (by rfl) q_AimWalk.g q_AimWalk.b .nil pass0 (pa_cons (pv 1) (pa_cons (pv 2) (pa_cons (pv 4) pa_nil)))) (pa_cons (pe_fldS S (pv 0)) pa_nil)))))), fn_run (N := ["self", "way", "kind", "text", "wanted"]) (m := mb_Unfit_shows) ?_ h⟩
  exact (ss_seq (ss_drop (se_callT (sa_cons se_var (sa_cons se_var (sa_cons se_var (sa_cons se_var sa_nil)))))) (ss_ret (se_callT (sa_cons (se_makeS q_AimWalk.k (sa_cons se_var (sa_cons se_var (sa_cons se_var sa_nil)))) (sa_cons (se_fld f_places se_var) sa_nil)))))
theorem bd_Unfit_shows {f : Addr} {fd : FuncData} (F : Fun S.K "shows" "Unfit.shows" s_Unfit_shows f fd) : Binds S.K fd ["self", "way", "kind", "text", "wanted"] [] := F.binds (ps := ["self", "way", "kind", "text", "wanted"]) fun _ _ _ _ _ _ us hl => match us, hl with | [_, _, _, _, _], _ => rfl
theorem ok__steps_ahead {f : Addr} {fd : FuncData} {fk_ChangeWalk_first : Addr} {fdk_ChangeWalk_first : FuncData} {fk_ChangeWalk_steps : Addr} {fdk_ChangeWalk_steps : FuncData} (F : Fun S.K "_steps_ahead" "_steps_ahead" s__steps_ahead f fd) (k_ChangeWalk_first : Met S mg base 3 "first" 4 ["self"] 1 m_ChangeWalk_first fk_ChangeWalk_first fdk_ChangeWalk_first) (k_ChangeWalk_steps : Met S mg base 3 "steps" 7 ["self", "node"] 2 m_ChangeWalk_steps fk_ChangeWalk_steps fdk_ChangeWalk_steps) : FnOk S.P S.w S.K mg base CX0 8 f fd ["walk"] (spM S 1 m__steps_ahead) := by
  refine F.ok sc__steps_ahead (fun vs H Q E h => h.1) (fun cdv A outer s H vs Q E hr h => ?_)
  have nd := sc__steps_ahead.nd
  refine ⟨_, (pss_cons (ps_set (i := 1) nd rfl (Or.inl rfl) (pe_dispS S (hu9 hr) (pe_meth0 (pv 0) k_ChangeWalk_first.cl k_ChangeWalk_first.mt k_ChangeWalk_first.ok (hr.mono (by decide)) k_ChangeWalk_first.b .nil pass0) (pe_lst pa_nil))) (pss_cons (ps_set (i := 2) nd rfl (Or.inl rfl) (pe_lst (pa_cons (pe_meth0 (pv 0) k_ChangeWalk_first.cl k_ChangeWalk_first.mt k_ChangeWalk_first.ok (hr.mono (by decide)) k_ChangeWalk_first.b .nil pass0) pa_nil))) (pss_cons (ps_while PassesOwn.never (pt_truS S (pv 2)) (pss_cons (ps_set (i := 3) nd rfl (Or.inl rfl) (pe_bm0 PySem.F.plainAttrs_list PySem.F.slot_list_pop PySem.F.type_list_pop mt_pop (pv 2))) (pss_one (ps_for PassesOwn.never rfl (pi_anyS S (pe_meth (pv 0) k_ChangeWalk_steps.cl k_ChangeWalk_steps.mt k_ChangeWalk_steps.ok (hr.mono (by decide)) k_ChangeWalk_steps.b .nil pass0 (pa_cons (pv 3) pa_nil))) (pg_tup rfl (pgs_cons (pg_name (i := 4) nd rfl (Or.inl rfl)) (pgs_cons (pg_name (i := 5) nd rfl (Or.inl rfl)) (pgs_cons (pg_name (i := 6) nd rfl (Or.inl rfl)) pgs_nil)))) (pss_cons (ps_if (pt_cmpR (op_niYS S (hu65 hr)) (pv 4) (pv 1) rfl) (pss_cons (ps_asg (pe_lst pa_nil) (pg_sub (pv 1) (pv 4) (set_S S (hu9 hr)))) (pss_one (ps_expr (pe_bm PySem.F.plainAttrs_list PySem.F.slot_list_append PySem.F.type_list_append mt_append (pv 2) (pa_cons (pv 4) pa_nil))))) pss_nil) (pss_one (ps_expr (pe_bm PySem.F.plainAttrs_list PySem.F.slot_list_append PySem.F.type_list_append mt_append (pe_ix (ix_S S (hu9 hr)) (pv 1) (pv 4) (fun _ _ => rfl)) (pa_cons (pe_tup (pa_cons (pv 3) (pa_cons (pv 5) pa_nil))) pa_nil))))))))) (pss_one (ps_ret (pv 1)))))), fn_run (N := ["walk", "found", "waiting", "node", "behind", "cost", "_"]) (m := mb__steps_ahead) ?_ h⟩
  exact (ss_seq (ss_asg (se_dispM (se_methU k_ChangeWalk_first.nm se_var sa_nil) (se_lstM sa_nil)) sg_name) (ss_seq (ss_asg (se_lstM (sa_cons (se_methU k_ChangeWalk_first.nm se_var sa_nil) sa_nil)) sg_name) (ss_seq (ss_while (st_tru se_var) (ss_seq (ss_asg (se_pop se_var) sg_name) (ss_for (si_any (se_methU k_ChangeWalk_steps.nm se_var (sa_cons se_var sa_nil))) (sg_tup (sgs_cons sg_name (sgs_cons sg_name (sgs_cons sg_name sgs_nil)))) (ss_seq (ss_if (st_test (se_op vo_niY se_var se_var)) (ss_seq (ss_asg (se_lstM sa_nil) (sg_sub vst_X se_var se_var)) (ss_drop (se_app se_var se_var))) ss_next) (ss_drop (se_app (se_op vo_ixX se_var se_var) (se_tup (sa_cons se_var (sa_cons se_var sa_nil))))))))) (ss_ret se_var))))
theorem bd__steps_ahead {f : Addr} {fd : FuncData} (F : Fun S.K "_steps_ahead" "_steps_ahead" s__steps_ahead f fd) : Binds S.K fd ["walk"] [] := F.binds (ps := ["walk"]) fun _ _ _ _ _ _ us hl => match us, hl with | [_], _ => rfl
theorem ok_costs_to_end {f : Addr} {fd : FuncData} {fc__steps_ahead : Addr} {fdc__steps_ahead : FuncData} {fk_ChangeWalk_is_end : Addr} {fdk_ChangeWalk_is_end : FuncData} (F : Fun S.K "costs_to_end" "costs_to_end" s_costs_to_end f fd) (c__steps_ahead : Cal S mg base "_steps_ahead" 8 ["walk"] 1 m__steps_ahead fc__steps_ahead fdc__steps_ahead) (k_ChangeWalk_is_end : Met S mg base 3 "is_end" 6 ["self", "node"] 2 m_ChangeWalk_is_end fk_ChangeWalk_is_end fdk_ChangeWalk_is_end) : FnOk S.P S.w S.K mg base CX0 9 f fd ["walk"] (spM S 1 m_costs_to_end) := by
  refine F.ok sc_costs_to_end (fun vs H Q E h => h.1) (fun cdv A outer s H vs Q E hr h => ?_)
  have nd := sc_costs_to_end.nd
  refine ⟨_, (pss_cons (ps_set (i := 1) nd rfl (Or.inl rfl) (pe_call c__steps_ahead.ok (hr.mono (by decide)) (by rfl) c__steps_ahead.g c__steps_ahead.kp c__steps_ahead.b .nil pass0 (pa_cons (pv 0) pa_nil))) (pss_cons (ps_setDcN (i := 2) (own := [("node", 6)]) (g := (gName 6)) (hu9 hr) (by rfl) nd rfl rfl (sw_trueD rfl rfl rfl (by decide +kernel)) (pi_anyS S (pv 1)) (blkOk_by (own := [("node", 6)]) (N := ["walk", "ahead", "found", "level", "cost", "costlier", "node", "before", "more"]) (sc := defScope s_costs_to_end) (by decide +kernel)) (fun _ _ _ _ _ => (pg_name (i := 6) nd rfl (Or.inl rfl))) (fun _ _ _ _ _ => pts_nil) (fun _ _ _ _ _ => (pv 6)) (fun _ _ _ _ _ => pe_non)) (pss_cons (ps_setLc (i := 3) (own := [("node", 6)]) (g := (gName 6)) (by rfl) nd rfl rfl (sw_true rfl rfl rfl (by decide +kernel)) (pi_anyS S (pv 1)) (blkOk_by (own := [("node", 6)]) (N := ["walk", "ahead", "found", "level", "cost", "costlier", "node", "before", "more"]) (sc := defScope s_costs_to_end) (by decide +kernel)) (fun _ _ _ _ _ => (pg_name (i := 6) nd rfl (Or.inl rfl))) (fun _ _ _ _ _ => (pts_one (pt_truS S (pe_meth (pv 0) k_ChangeWalk_is_end.cl k_ChangeWalk_is_end.mt k_ChangeWalk_is_end.ok (hr.mono (by decide)) k_ChangeWalk_is_end.b .nil pass0 (pa_cons (pv 6) pa_nil))))) (fun _ _ _ _ _ => (pv 6))) (pss_cons (ps_set (i := 4) nd rfl (Or.inl rfl) pe_int) (pss_cons (ps_while PassesOwn.never (pt_truS S (pv 3)) (pss_cons (ps_set (i := 5) nd rfl (Or.inl rfl) (pe_lst pa_nil)) (pss_cons (ps_while PassesOwn.never (pt_truS S (pv 3)) (pss_cons (ps_set (i := 6) nd rfl (Or.inl rfl) (pe_bm0 PySem.F.plainAttrs_list PySem.F.slot_list_pop PySem.F.type_list_pop mt_pop (pv 3))) (pss_one (ps_if (pt_cmpR op_isAll (pe_ix (ix_S S (hu9 hr)) (pv 2) (pv 6) (fun _ _ => rfl)) pe_non (nomark _)) (pss_cons (ps_asg (pv 4) (pg_sub (pv 2) (pv 6) (set_S S (hu9 hr)))) (pss_cons (ps_aug (i := 3) nd rfl (Or.inl rfl) (pe_lc (own := [("before", 7), ("more", 8)]) (g := (gTup S.K 2 (gNames [7, 8]))) (by rfl) nd (pi_anyS S (pe_ix (ix_S S (hu9 hr)) (pv 1) (pv 6) (fun _ _ => rfl))) (blkOk_by (own := [("before", 7), ("more", 8)]) (N := ["walk", "ahead", "found", "level", "cost", "costlier", "node", "before", "more"]) (sc := defScope s_costs_to_end) (by decide +kernel)) (fun _ _ _ _ _ => (pg_tup rfl (pgs_cons (pg_name (i := 7) nd rfl (Or.inl rfl)) (pgs_cons (pg_name (i := 8) nd rfl (Or.inl rfl)) pgs_nil)))) (fun _ _ _ _ _ => (pts_one (pt_cmpR (op_eqS S hr.units) (pv 8) pe_int (nomark _)))) (fun _ _ _ _ _ => (pv 7))) ip_ext2) (pss_one (ps_aug (i := 5) nd rfl (Or.inl rfl) (pe_lc (own := [("before", 7), ("more", 8)]) (g := (gTup S.K 2 (gNames [7, 8]))) (by rfl) nd (pi_anyS S (pe_ix (ix_S S (hu9 hr)) (pv 1) (pv 6) (fun _ _ => rfl))) (blkOk_by (own := [("before", 7), ("more", 8)]) (N := ["walk", "ahead", "found", "level", "cost", "costlier", "node", "before", "more"]) (sc := defScope s_costs_to_end) (by decide +kernel)) (fun _ _ _ _ _ => (pg_tup rfl (pgs_cons (pg_name (i := 7) nd rfl (Or.inl rfl)) (pgs_cons (pg_name (i := 8) nd rfl (Or.inl rfl)) pgs_nil)))) (fun _ _ _ _ _ => (pts_one (pt_cmpR (op_eqS S hr.units) (pv 8) pe_int (nomark _)))) (fun _ _ _ _ _ => (pv 7))) ip_ext2)))) pss_nil)))) (pss_cons (ps_set (i := 3) nd rfl (Or.inl rfl) (pv 5)) (pss_one (ps_aug (i := 4) nd rfl (Or.inl rfl) pe_int ip_add)))))) (pss_one (ps_ret (pv 2)))))))), fn_run (N := ["walk", "ahead", "found", "level", "cost", "costlier", "node", "before", "more"]) (m := mb_costs_to_end) ?_ h⟩
  exact (ss_seq (ss_asg (se_callT (sa_cons se_var sa_nil)) sg_name) (ss_seq (ss_asg (se_dcM (vs := [6]) (si_any se_var) sg_name (gw_name (by decide)) st_yes se_var se_non) sg_name) (ss_seq (ss_asg (se_lcM (vs := [6]) (si_any se_var) sg_name (gw_name (by decide)) (st_tru (se_methU k_ChangeWalk_is_end.nm se_var (sa_cons se_var sa_nil))) se_var) sg_name) (ss_seq (ss_asg se_int sg_name) (ss_seq (ss_while (st_tru se_var) (ss_seq (ss_asg (se_lstM sa_nil) sg_name) (ss_seq (ss_while (st_tru se_var) (ss_seq (ss_asg (se_pop se_var) sg_name) (ss_if (st_test (se_op vo_is (se_op vo_ixX se_var se_var) se_non)) (ss_seq (ss_asg se_var (sg_sub vst_X se_var se_var)) (ss_seq (ss_augE (se_lc (vs := [7, 8]) (si_any (se_op vo_ixX se_var se_var)) (sg_tup (sgs_cons sg_name (sgs_cons sg_name sgs_nil))) (gw_tup (gws_names [7, 8] (by decide))) (st_test (se_op vo_eq se_var se_int)) se_var)) (ss_augE (se_lc (vs := [7, 8]) (si_any (se_op vo_ixX se_var se_var)) (sg_tup (sgs_cons sg_name (sgs_cons sg_name sgs_nil))) (gw_tup (gws_names [7, 8] (by decide))) (st_test (se_op vo_eq se_var se_int)) se_var)))) ss_next))) (ss_seq (ss_asg se_var sg_name) (ss_aug se_int))))) (ss_ret se_var))))))
theorem bd_costs_to_end {f : Addr} {fd : FuncData} (F : Fun S.K "costs_to_end" "costs_to_end" s_costs_to_end f fd) : Binds S.K fd ["walk"] [] := F.binds (ps := ["walk"]) fun _ _ _ _ _ _ us hl => match us, hl with | [_], _ => rfl
end
end K50
namespace K50
open PySem PySem.Spec PyProof.Rows L2 RZ PpSet Rm
section
variable {S : Se} {mg : Str → Option Value} {base : Heap} {ag_CONVERSIONS ag_KINDS ag_SIGNS ag__HELD ag__MADE_OF ag__PLAIN ag__REPLACED ag_behind : Addr}
theorem ok_Reader_moves {f : Addr} {fd : FuncData} {fc_coming : Addr} {fdc_coming : FuncData} {fk_Reader__move : Addr} {fdk_Reader__move : FuncData} (F : Fun S.K "moves" "Reader.moves" s_Reader_moves f fd) (f__known_moves : Fld S "_known_moves" [(0, 2)]) (c_coming : Cal S mg base "coming" 1 ["kind", "waits"] 2 m_coming fc_coming fdc_coming) (f_kind : Fld S "kind" [(0, 1)]) (k_Reader__move : Met S mg base 0 "_move" 4 ["self", "place", "sign"] 3 m_Reader_move fk_Reader__move fdk_Reader__move) : FnOk S.P S.w S.K mg base CX0 5 f fd ["self", "place"] (spM S 2 m_Reader_moves) := by
  refine F.ok sc_Reader_moves (fun vs H Q E h => h.1) (fun cdv A outer s H vs Q E hr h => ?_)
  have nd := sc_Reader_moves.nd
  refine ⟨_, (pss_cons (ps_if (pt_cmpR (op_niYS S (hu65 hr)) (pv 1) (pe_fldS S (pv 0)) rfl) (pss_one (ps_asg (pe_lc (own := [("sign", 2)]) (g := (gName 2)) (by rfl) nd (pi_anyS S (pe_call c_coming.ok (hr.mono (by decide)) (by rfl) c_coming.g c_coming.kp c_coming.b .nil pass0 (pa_cons (pe_fldS S (pv 0)) (pa_cons (pe_ix (ix_S S (hu9 hr)) (pv 1) pe_int (fun _ _ => rfl)) pa_nil)))) (blkOk_by (own := [("sign", 2)]) (N := ["self", "place", "sign"]) (sc := defScope s_Reader_moves) (by decide +kernel)) (fun _ _ _ _ _ => (pg_name (i := 2) nd rfl (Or.inl rfl))) (fun _ _ _ _ _ => pts_nil) (fun _ _ _ _ _ => (pe_meth (pv 0) k_Reader__move.cl k_Reader__move.mt k_Reader__move.ok (hr.mono (by decide)) k_Reader__move.b .nil pass0 (pa_cons (pv 1) (pa_cons (pv 2) pa_nil))))) (pg_sub (pe_fldS S (pv 0)) (pv 1) (set_S S (hu9 hr))))) pss_nil) (pss_one (ps_ret (pe_ix (ix_S S (hu9 hr)) (pe_fldS S (pv 0)) (pv 1) (fun _ _ => rfl))))), fn_run (N := ["self", "place", "sign"]) (m := mb_Reader_moves) ?_ h⟩
  exact (ss_seq (ss_if (st_test (se_op vo_niY se_var (se_fld f__known_moves se_var))) (ss_asg (se_lc (vs := [2]) (si_any (se_callT (sa_cons (se_fld f_kind se_var) (sa_cons (se_op vo_ixX se_var se_int) sa_nil)))) sg_name (gw_name (by decide)) st_yes (se_methU k_Reader__move.nm se_var (sa_cons se_var (sa_cons se_var sa_nil)))) (sg_sub vst_X (se_fld f__known_moves se_var) se_var)) ss_next) (ss_ret (se_op vo_ixX (se_fld f__known_moves se_var) se_var)))
theorem bd_Reader_moves {f : Addr} {fd : FuncData} (F : Fun S.K "moves" "Reader.moves" s_Reader_moves f fd) : Binds S.K fd ["self", "place"] [] := F.binds (ps := ["self", "place"]) fun _ _ _ _ _ _ us hl => match us, hl with | [_, _], _ => rfl
theorem ok_walked {f : Addr} {fd : FuncData} {fk_Reader_moves : Addr} {fdk_Reader_moves : FuncData} (F : Fun S.K "walked" "walked" s_walked f fd) (k_Reader_moves : Met S mg base 0 "moves" 5 ["self", "place"] 2 m_Reader_moves fk_Reader_moves fdk_Reader_moves) (n_len : mg "len" = none) : FnOk S.P S.w S.K mg base CX0 6 f fd ["reader", "place", "text"] (spM S 3 m_walked) := by
  refine F.ok sc_walked (fun vs H Q E h => h.1) (fun cdv A outer s H vs Q E hr h => ?_)
  have nd := sc_walked.nd
  refine ⟨_, (pss_cons (ps_set (i := 3) nd rfl (Or.inl rfl) pe_int) (pss_cons (ps_for PassesOwn.never rfl (pi_anyS S (pv 2)) (pg_name (i := 4) nd rfl (Or.inr rfl)) (pss_cons (ps_setLc (i := 5) (own := [("move", 8)]) (g := (gName 8)) (by rfl) nd rfl rfl (sw_true rfl rfl rfl (by decide +kernel)) (pi_anyS S (pe_meth (pv 0) k_Reader_moves.cl k_Reader_moves.mt k_Reader_moves.ok (hr.mono (by decide)) k_Reader_moves.b .nil pass0 (pa_cons (pv 1) pa_nil))) (blkOk_by (own := [("move", 8)]) (N := ["reader", "place", "text", "many", "sign", "found", "_", "given", "move"]) (sc := defScope s_walked) (by decide +kernel)) (fun _ _ _ _ _ => (pg_name (i := 8) nd rfl (Or.inl rfl))) (fun _ _ _ _ _ => (pts_one (pt_cmpR (op_eqS S hr.units) (pe_ix (ix_S S (hu9 hr)) (pv 8) pe_int (fun _ _ => rfl)) (pv 4) (nomark _)))) (fun _ _ _ _ _ => (pv 8))) (pss_cons (ps_if (pt_not (pt_truS S (pv 5))) (pss_one (ps_ret pe_non)) pss_nil) (pss_cons (ps_asg (pe_ix (ix_S S (hu9 hr)) (pv 5) pe_int (fun _ _ => rfl)) (pg_tup rfl (pgs_cons (pg_name (i := 6) nd rfl (Or.inl rfl)) (pgs_cons (pg_name (i := 1) nd rfl (Or.inl rfl)) (pgs_cons (pg_name (i := 7) nd rfl (Or.inl rfl)) pgs_nil))))) (pss_one (ps_aug (i := 3) nd rfl (Or.inl rfl) (pe_callB (call_lenS S) (by rfl) n_len (by decide +kernel) (pa_cons (pv 7) pa_nil)) ip_add)))))) (pss_one (ps_ret (pe_tup (pa_cons (pv 1) (pa_cons (pv 3) pa_nil))))))), fn_run (N := ["reader", "place", "text", "many", "sign", "found", "_", "given", "move"]) (m := mb_walked) ?_ h⟩
  exact (ss_seq (ss_asg se_int sg_name) (ss_seq (ss_for (si_any se_var) sg_name (ss_seq (ss_asg (se_lc (vs := [8]) (si_any (se_methU k_Reader_moves.nm se_var (sa_cons se_var sa_nil))) sg_name (gw_name (by decide)) (st_test (se_op vo_eq (se_op vo_ixX se_var se_int) se_var)) se_var) sg_name) (ss_seq (ss_if (st_not (st_tru se_var)) (ss_ret se_non) ss_next) (ss_seq (ss_asg (se_op vo_ixX se_var se_int) (sg_tup (sgs_cons sg_name (sgs_cons sg_name (sgs_cons sg_name sgs_nil))))) (ss_aug (se_cb vc_len (sa_cons se_var sa_nil))))))) (ss_ret (se_tup (sa_cons se_var (sa_cons se_var sa_nil))))))
theorem bd_walked {f : Addr} {fd : FuncData} (F : Fun S.K "walked" "walked" s_walked f fd) : Binds S.K fd ["reader", "place", "text"] [] := F.binds (ps := ["reader", "place", "text"]) fun _ _ _ _ _ _ us hl => match us, hl with | [_, _, _], _ => rfl
theorem ok_ChangeWalk_first {f : Addr} {fd : FuncData} {fk_AimWalk_first : Addr} {fdk_AimWalk_first : FuncData} (F : Fun S.K "first" "ChangeWalk.first" s_ChangeWalk_first f fd) (k_AimWalk_first : Met S mg base 2 "first" 3 ["self"] 1 m_AimWalk_first fk_AimWalk_first fdk_AimWalk_first) (f_aim : Fld S "aim" [(3, 0)]) : FnOk S.P S.w S.K mg base CX0 4 f fd ["self"] (spM S 1 m_ChangeWalk_first) := by
  refine F.ok sc_ChangeWalk_first (fun vs H Q E h => h.1) (fun cdv A outer s H vs Q E hr h => ?_)
  have nd := sc_ChangeWalk_first.nd
  refine ⟨_, (pss_cons (ps_asg (pe_meth0 (pe_fldS S (pv 0)) k_AimWalk_first.cl k_AimWalk_first.mt k_AimWalk_first.ok (hr.mono (by decide)) k_AimWalk_first.b .nil pass0) (pg_tup rfl (pgs_cons (pg_name (i := 1) nd rfl (Or.inl rfl)) (pgs_cons (pg_name (i := 2) nd rfl (Or.inl rfl)) pgs_nil)))) (pss_one (ps_ret (pe_tup (pa_cons pe_int (pa_cons (pv 1) (pa_cons (pv 2) pa_nil))))))), fn_run (N := ["self", "place", "done"]) (m := mb_ChangeWalk_first) ?_ h⟩
  exact (ss_seq (ss_asg (se_methU k_AimWalk_first.nm (se_fld f_aim se_var) sa_nil) (sg_tup (sgs_cons sg_name (sgs_cons sg_name sgs_nil)))) (ss_ret (se_tup (sa_cons se_int (sa_cons se_var (sa_cons se_var sa_nil))))))
theorem bd_ChangeWalk_first {f : Addr} {fd : FuncData} (F : Fun S.K "first" "ChangeWalk.first" s_ChangeWalk_first f fd) : Binds S.K fd ["self"] [] := F.binds (ps := ["self"]) fun _ _ _ _ _ _ us hl => match us, hl with | [_], _ => rfl
theorem ok_is_within {f : Addr} {fd : FuncData} {fc_is_integer : Addr} {fdc_is_integer : FuncData} (F : Fun S.K "is_within" "is_within" s_is_within f fd) (c_is_integer : Cal S mg base "is_integer" 1 ["number"] 1 m_is_integer fc_is_integer fdc_is_integer) : FnOk S.P S.w S.K mg base CX0 2 f fd ["number", "low", "high"] (spM S 3 m_is_within) := by
  refine F.ok sc_is_within (fun vs H Q E h => h.1) (fun cdv A outer s H vs Q E hr h => ?_)
  have nd := sc_is_within.nd
  refine ⟨_, (pss_one (ps_ret (pe_and (pe_call c_is_integer.ok (hr.mono (by decide)) (by rfl) c_is_integer.g c_is_integer.kp c_is_integer.b .nil pass0 (pa_cons (pv 0) pa_nil)) (pe_one (pe_chain op_le op_le (pv 1) (pv 0) (pv 2)))))), fn_run (N := ["number", "low", "high"]) (m := mb_is_within) ?_ h⟩
  exact (ss_ret (se_andV (se_callT (sa_cons se_var sa_nil)) (se_chain vo_cmp vo_cmp se_var se_var se_var)))
theorem bd_is_within {f : Addr} {fd : FuncData} (F : Fun S.K "is_within" "is_within" s_is_within f fd) : Binds S.K fd ["number", "low", "high"] [] := F.binds (ps := ["number", "low", "high"]) fun _ _ _ _ _ _ us hl => match us, hl with | [_, _, _], _ => rfl
theorem ok_are_floors {f : Addr} {fd : FuncData} {fk_ChangeWalk_is_node : Addr} {fdk_ChangeWalk_is_node : FuncData} {fc_is_integer : Addr} {fdc_is_integer : FuncData} {fk_ChangeWalk_first : Addr} {fdk_ChangeWalk_first : FuncData} {fk_ChangeWalk_is_end : Addr} {fdk_ChangeWalk_is_end : FuncData} {fk_ChangeWalk_steps : Addr} {fdk_ChangeWalk_steps : FuncData} (F : Fun S.K "are_floors" "are_floors" s_are_floors f fd) (n_all : mg "all" = none) (k_ChangeWalk_is_node : Met S mg base 3 "is_node" 4 ["self", "node"] 2 m_ChangeWalk_is_node fk_ChangeWalk_is_node fdk_ChangeWalk_is_node) (c_is_integer : Cal S mg base "is_integer" 1 ["number"] 1 m_is_integer fc_is_integer fdc_is_integer) (k_ChangeWalk_first : Met S mg base 3 "first" 4 ["self"] 1 m_ChangeWalk_first fk_ChangeWalk_first fdk_ChangeWalk_first) (k_ChangeWalk_is_end : Met S mg base 3 "is_end" 6 ["self", "node"] 2 m_ChangeWalk_is_end fk_ChangeWalk_is_end fdk_ChangeWalk_is_end) (k_ChangeWalk_steps : Met S mg base 3 "steps" 7 ["self", "node"] 2 m_ChangeWalk_steps fk_ChangeWalk_steps fdk_ChangeWalk_steps) : FnOk S.P S.w S.K mg base CX0 8 f fd ["walk", "floors", "total"] (spM S 3 m_are_floors) := by
  refine F.ok sc_are_floors (fun vs H Q E h => h.1) (fun cdv A outer s H vs Q E hr h => ?_)
  have nd := sc_are_floors.nd
  refine ⟨_, (pss_cons (ps_if (pt_not (pt_truS S (pe_callB (call_allS S rfl) (by rfl) n_all (by decide +kernel) (pa_cons (pe_lc (own := [("node", 3)]) (g := (gName 3)) (by rfl) nd (pi_anyS S (pv 1)) (blkOk_by (own := [("node", 3)]) (N := ["walk", "floors", "total", "node", "behind", "cost", "_"]) (sc := defScope s_are_floors) (by decide +kernel)) (fun _ _ _ _ _ => (pg_name (i := 3) nd rfl (Or.inl rfl))) (fun _ _ _ _ _ => pts_nil) (fun _ _ _ _ _ => (pe_and (pe_meth (pv 0) k_ChangeWalk_is_node.cl k_ChangeWalk_is_node.mt k_ChangeWalk_is_node.ok (hr.mono (by decide)) k_ChangeWalk_is_node.b .nil pass0 (pa_cons (pv 3) pa_nil)) (pe_and (pe_call c_is_integer.ok (hr.mono (by decide)) (by rfl) c_is_integer.g c_is_integer.kp c_is_integer.b .nil pass0 (pa_cons (pe_ix (ix_S S (hu9 hr)) (pv 1) (pv 3) (fun _ _ => rfl)) pa_nil)) (pe_one (pe_cmpR op_ge (pe_ix (ix_S S (hu9 hr)) (pv 1) (pv 3) (fun _ _ => rfl)) pe_int (nomark _))))))) pa_nil)))) (pss_one (ps_ret pe_bl)) pss_nil) (pss_cons (ps_if (PW.pt (pw_or (pt_cmpR (op_niYS S (hu65 hr)) (pe_meth0 (pv 0) k_ChangeWalk_first.cl k_ChangeWalk_first.mt k_ChangeWalk_first.ok (hr.mono (by decide)) k_ChangeWalk_first.b .nil pass0) (pv 1) rfl) (pw_or1 (pt_cmpR (op_neS S hr.units) (pe_ix (ix_S S (hu9 hr)) (pv 1) (pe_meth0 (pv 0) k_ChangeWalk_first.cl k_ChangeWalk_first.mt k_ChangeWalk_first.ok (hr.mono (by decide)) k_ChangeWalk_first.b .nil pass0) (fun _ _ => rfl)) (pv 2) (nomark _))))) (pss_one (ps_ret pe_bl)) pss_nil) (pss_cons (ps_for PassesOwn.never rfl (pi_anyS S (pv 1)) (pg_name (i := 3) nd rfl (Or.inl rfl)) (pss_cons (ps_if (PW.pt (pw_and (pt_truS S (pe_meth (pv 0) k_ChangeWalk_is_end.cl k_ChangeWalk_is_end.mt k_ChangeWalk_is_end.ok (hr.mono (by decide)) k_ChangeWalk_is_end.b .nil pass0 (pa_cons (pv 3) pa_nil))) (pw_and1 (pt_cmpR (op_neS S hr.units) (pe_ix (ix_S S (hu9 hr)) (pv 1) (pv 3) (fun _ _ => rfl)) pe_int (nomark _))))) (pss_one (ps_ret pe_bl)) pss_nil) (pss_one (ps_for PassesOwn.never rfl (pi_anyS S (pe_meth (pv 0) k_ChangeWalk_steps.cl k_ChangeWalk_steps.mt k_ChangeWalk_steps.ok (hr.mono (by decide)) k_ChangeWalk_steps.b .nil pass0 (pa_cons (pv 3) pa_nil))) (pg_tup rfl (pgs_cons (pg_name (i := 4) nd rfl (Or.inl rfl)) (pgs_cons (pg_name (i := 5) nd rfl (Or.inl rfl)) (pgs_cons (pg_name (i := 6) nd rfl (Or.inl rfl)) pgs_nil)))) (pss_one (ps_if (PW.pt (pw_or (pt_cmpR (op_niYS S (hu65 hr)) (pv 4) (pv 1) rfl) (pw_or1 (pt_cmpR op_lt (pe_op (op_addS S) (pe_ix (ix_S S (hu9 hr)) (pv 1) (pv 4) (fun _ _ => rfl)) (pv 5)) (pe_ix (ix_S S (hu9 hr)) (pv 1) (pv 3) (fun _ _ => rfl)) (nomark _))))) (pss_one (ps_ret pe_bl)) pss_nil)))))) (pss_one (ps_ret pe_bl))))), fn_run (N := ["walk", "floors", "total", "node", "behind", "cost", "_"]) (m := mb_are_floors) ?_ h⟩
  exact (ss_seq (ss_if (st_not (st_tru (se_cb vc_all (sa_cons (se_lc (vs := [3]) (si_any se_var) sg_name (gw_name (by decide)) st_yes (se_andV (se_methU k_ChangeWalk_is_node.nm se_var (sa_cons se_var sa_nil)) (se_andV (se_callT (sa_cons (se_op vo_ixX se_var se_var) sa_nil)) (se_op vo_cmp (se_op vo_ixX se_var se_var) se_int)))) sa_nil)))) (ss_ret se_bl) ss_next) (ss_seq (ss_if (st_or (st_test (se_op vo_niY (se_methU k_ChangeWalk_first.nm se_var sa_nil) se_var)) (st_test (se_op vo_ne (se_op vo_ixX se_var (se_methU k_ChangeWalk_first.nm se_var sa_nil)) se_var))) (ss_ret se_bl) ss_next) (ss_seq (ss_for (si_any se_var) sg_name (ss_seq (ss_if (st_and (st_tru (se_methU k_ChangeWalk_is_end.nm se_var (sa_cons se_var sa_nil))) (st_test (se_op vo_ne (se_op vo_ixX se_var se_var) se_int))) (ss_ret se_bl) ss_next) (ss_for (si_any (se_methU k_ChangeWalk_steps.nm se_var (sa_cons se_var sa_nil))) (sg_tup (sgs_cons sg_name (sgs_cons sg_name (sgs_cons sg_name sgs_nil)))) (ss_if (st_or (st_test (se_op vo_niY se_var se_var)) (st_test (se_op vo_cmp (se_op vo_add (se_op vo_ixX se_var se_var) se_var) (se_op vo_ixX se_var se_var)))) (ss_ret se_bl) ss_next)))) (ss_ret se_bl))))
theorem bd_are_floors {f : Addr} {fd : FuncData} (F : Fun S.K "are_floors" "are_floors" s_are_floors f fd) : Binds S.K fd ["walk", "floors", "total"] [] := F.binds (ps := ["walk", "floors", "total"]) fun _ _ _ _ _ _ us hl => match us, hl with | [_, _, _], _ => rfl
theorem ok_AimWalk_signs {f : Addr} {fd : FuncData} {fk_AimWalk_steps : Addr} {fdk_AimWalk_steps : FuncData} (F : Fun S.K "signs" "AimWalk.signs" s_AimWalk_signs f fd) (k_AimWalk_steps : Met S mg base 2 "steps" 6 ["self", "node"] 2 m_AimWalk_steps fk_AimWalk_steps fdk_AimWalk_steps) : FnOk S.P S.w S.K mg base CX0 7 f fd ["self", "node"] (spM S 2 m_AimWalk_signs) := by
  refine F.ok sc_AimWalk_signs (fun vs H Q E h => h.1) (fun cdv A outer s H vs Q E hr h => ?_)
  have nd := sc_AimWalk_signs.nd
  refine ⟨_, (pss_one (ps_ret (pe_lc (own := [("_", 2), ("sign", 3)]) (g := (gTup S.K 3 (gCons (gName 2) (gCons (gName 2) (gCons (gName 3) gNil))))) (by rfl) nd (pi_anyS S (pe_meth (pv 0) k_AimWalk_steps.cl k_AimWalk_steps.mt k_AimWalk_steps.ok (hr.mono (by decide)) k_AimWalk_steps.b .nil pass0 (pa_cons (pv 1) pa_nil))) (blkOk_by (own := [("_", 2), ("sign", 3)]) (N := ["self", "node", "_", "sign"]) (sc := defScope s_AimWalk_signs) (by decide +kernel)) (fun _ _ _ _ _ => (pg_tup rfl (pgs_cons (pg_name (i := 2) nd rfl (Or.inl rfl)) (pgs_cons (pg_name (i := 2) nd rfl (Or.inl rfl)) (pgs_cons (pg_name (i := 3) nd rfl (Or.inl rfl)) pgs_nil))))) (fun _ _ _ _ _ => pts_nil) (fun _ _ _ _ _ => (pv 3))))), fn_run (N := ["self", "node", "_", "sign"]) (m := mb_AimWalk_signs) ?_ h⟩
  exact (ss_ret (se_lc (vs := [2, 3]) (si_any (se_methU k_AimWalk_steps.nm se_var (sa_cons se_var sa_nil))) (sg_tup (sgs_cons sg_name (sgs_cons sg_name (sgs_cons sg_name sgs_nil)))) ((gm_tup (gms_cons (gm_name (by decide)) (gms_cons (gm_name (by decide)) (gms_cons (gm_name (by decide)) gms_nil))))).w st_yes se_var))
theorem bd_AimWalk_signs {f : Addr} {fd : FuncData} (F : Fun S.K "signs" "AimWalk.signs" s_AimWalk_signs f fd) : Binds S.K fd ["self", "node"] [] := F.binds (ps := ["self", "node"]) fun _ _ _ _ _ _ us hl => match us, hl with | [_, _], _ => rfl
theorem ok_AimWalk_behind {f : Addr} {fd : FuncData} {fk_AimWalk_steps : Addr} {fdk_AimWalk_steps : FuncData} (F : Fun S.K "behind" "AimWalk.behind" s_AimWalk_behind f fd) (k_AimWalk_steps : Met S mg base 2 "steps" 6 ["self", "node"] 2 m_AimWalk_steps fk_AimWalk_steps fdk_AimWalk_steps) : FnOk S.P S.w S.K mg base CX0 7 f fd ["self", "node", "sign"] (spM S 3 m_AimWalk_behind) := by
  refine F.ok sc_AimWalk_behind (fun vs H Q E h => h.1) (fun cdv A outer s H vs Q E hr h => ?_)
  have nd := sc_AimWalk_behind.nd
  refine ⟨_, (pss_one (ps_ret (pe_dget (hu1 hr) (pe_dc (own := [("behind", 3), ("_", 4), ("word", 5)]) (g := (gTup S.K 3 (gNames [3, 4, 5]))) (by rfl) nd (pi_anyS S (pe_meth (pv 0) k_AimWalk_steps.cl k_AimWalk_steps.mt k_AimWalk_steps.ok (hr.mono (by decide)) k_AimWalk_steps.b .nil pass0 (pa_cons (pv 1) pa_nil))) (blkOk_by (own := [("behind", 3), ("_", 4), ("word", 5)]) (N := ["self", "node", "sign", "behind", "_", "word"]) (sc := defScope s_AimWalk_behind) (by decide +kernel)) (fun _ _ _ _ _ => (pg_tup rfl (pgs_cons (pg_name (i := 3) nd rfl (Or.inl rfl)) (pgs_cons (pg_name (i := 4) nd rfl (Or.inl rfl)) (pgs_cons (pg_name (i := 5) nd rfl (Or.inl rfl)) pgs_nil))))) (fun _ _ _ _ _ => pts_nil) (fun _ _ _ _ _ => (pv 5)) (fun _ _ _ _ _ => (pv 3))) (pv 2) (fun _ _ => rfl)))), fn_run (N := ["self", "node", "sign", "behind", "_", "word"]) (m := mb_AimWalk_behind) ?_ h⟩
  exact (ss_ret (se_dcIx (vs := [3, 4, 5]) (si_any (se_methU k_AimWalk_steps.nm se_var (sa_cons se_var sa_nil))) (sg_tup (sgs_cons sg_name (sgs_cons sg_name (sgs_cons sg_name sgs_nil)))) (gw_tup (gws_names [3, 4, 5] (by decide))) st_yes se_var se_var se_var))
theorem bd_AimWalk_behind {f : Addr} {fd : FuncData} (F : Fun S.K "behind" "AimWalk.behind" s_AimWalk_behind f fd) : Binds S.K fd ["self", "node", "sign"] [] := F.binds (ps := ["self", "node", "sign"]) fun _ _ _ _ _ _ us hl => match us, hl with | [_, _, _], _ => rfl
theorem ok_distance_between {f : Addr} {fd : FuncData} (F : Fun S.K "distance_between" "distance_between" s_distance_between f fd) (n_list : mg "list" = none) (n_range : mg "range" = none) (n_len : mg "len" = none) (n_enumerate : mg "enumerate" = none) (n_min : mg "min" = none) : FnOk S.P S.w S.K mg base CX0 1 f fd ["text", "other"] (spM S 2 m_distance_between) := by
  refine F.ok sc_distance_between (fun vs H Q E h => h.1) (fun cdv A outer s H vs Q E hr h => ?_)
  have nd := sc_distance_between.nd
  refine ⟨_, (pss_cons (ps_set (i := 2) nd rfl (Or.inl rfl) (pe_listRg rfl (by rfl) n_list (prg_1 (by rfl) n_range (pe_op (op_addS S) (pe_callB (call_lenS S) (by rfl) n_len (by decide +kernel) (pa_cons (pv 1) pa_nil)) pe_int)))) (pss_cons (ps_for PassesOwn.never rfl (pi_enumX S (by rfl) n_enumerate (pa_cons (pv 0) pa_nil)) (pg_tup rfl (pgs_cons (pg_name (i := 3) nd rfl (Or.inl rfl)) (pgs_cons (pg_name (i := 4) nd rfl (Or.inl rfl)) pgs_nil))) (pss_cons (ps_set (i := 5) nd rfl (Or.inl rfl) (pv 2)) (pss_cons (ps_set (i := 2) nd rfl (Or.inl rfl) (pe_lst (pa_cons (pe_op (op_addS S) (pv 3) pe_int) pa_nil))) (pss_one (ps_for PassesOwn.never rfl (pi_enumX S (by rfl) n_enumerate (pa_cons (pv 1) pa_nil)) (pg_tup rfl (pgs_cons (pg_name (i := 6) nd rfl (Or.inl rfl)) (pgs_cons (pg_name (i := 7) nd rfl (Or.inl rfl)) pgs_nil))) (pss_cons (ps_set (i := 8) nd rfl (Or.inl rfl) (pe_ifExp (pt_cmpR (op_eqS S hr.units) (pv 4) (pv 7) (nomark _)) (pe_ix (ix_S S (hu9 hr)) (pv 5) (pv 6) (fun _ _ => rfl)) (pe_op (op_addS S) (pe_ix (ix_S S (hu9 hr)) (pv 5) (pv 6) (fun _ _ => rfl)) pe_int))) (pss_one (ps_expr (pe_bm PySem.F.plainAttrs_list PySem.F.slot_list_append PySem.F.type_list_append mt_append (pv 2) (pa_cons (pe_callB (call_min3Nu rfl) (by rfl) n_min (by decide +kernel) (pa_cons (pv 8) (pa_cons (pe_op (op_addS S) (pe_ix (ix_S S (hu9 hr)) (pv 5) (pe_op (op_addS S) (pv 6) pe_int) (fun _ _ => rfl)) pe_int) (pa_cons (pe_op (op_addS S) (pe_ix (ix_S S (hu9 hr)) (pv 2) (pv 6) (fun _ _ => rfl)) pe_int) pa_nil)))) pa_nil)))))))))) (pss_one (ps_ret (pe_ix (ix_S S (hu9 hr)) (pv 2) (pe_un un_neg pe_int) (fun _ _ => rfl)))))), fn_run (N := ["text", "other", "row", "k", "sign", "ahead", "m", "other_sign", "same"]) (m := mb_distance_between) ?_ h⟩
  exact (ss_seq (ss_asg (se_lstRg (se_op vo_add (se_cb vc_len (sa_cons se_var sa_nil)) se_int)) sg_name) (ss_seq (ss_for (si_enumX (sa_cons se_var sa_nil)) (sg_tup (sgs_cons sg_name (sgs_cons sg_name sgs_nil))) (ss_seq (ss_asg se_var sg_name) (ss_seq (ss_asg (se_lstM (sa_cons (se_op vo_add se_var se_int) sa_nil)) sg_name) (ss_for (si_enumX (sa_cons se_var sa_nil)) (sg_tup (sgs_cons sg_name (sgs_cons sg_name sgs_nil))) (ss_seq (ss_asg (se_if (st_test (se_op vo_eq se_var se_var)) (se_op vo_ixX se_var se_var) (se_op vo_add (se_op vo_ixX se_var se_var) se_int)) sg_name) (ss_drop (se_app se_var (se_cb vc_min3 (sa_cons se_var (sa_cons (se_op vo_add (se_op vo_ixX se_var (se_op vo_add se_var se_int)) se_int) (sa_cons (se_op vo_add (se_op vo_ixX se_var se_var) se_int) sa_nil))))))))))) (ss_ret (se_op vo_ixX se_var (se_un vu_neg se_int)))))
theorem bd_distance_between {f : Addr} {fd : FuncData} (F : Fun S.K "distance_between" "distance_between" s_distance_between f fd) : Binds S.K fd ["text", "other"] [] := F.binds (ps := ["text", "other"]) fun _ _ _ _ _ _ us hl => match us, hl with | [_, _], _ => rfl
theorem ok_Unfit_init {f : Addr} {fd : FuncData} (F : Fun S.K "__init__" "Unfit.__init__" s_Unfit_init f fd) (f_places : Fld S "places" [(5, 0)]) (n_list : mg "list" = none) : FnOk S.P S.w S.K mg base CX0 1 f fd ["self", "places"] (spM S 2 m_Unfit_init) := by
  refine F.ok sc_Unfit_init (fun vs H Q E h => h.1) (fun cdv A outer s H vs Q E hr h => ?_)
  have nd := sc_Unfit_init.nd
  refine ⟨_, (pss_one (ps_fld (pv 0) (pe_callTy (call_listYS S rfl) (by rfl) n_list (by decide +kernel) (pa_cons (pv 1) pa_nil)) rfl)), fn_run (N := ["self", "places"]) (m := mb_Unfit_init) ?_ h⟩
  exact (ss_fld f_places se_var (se_cb vc_listY (sa_cons se_var sa_nil)))
theorem bd_Unfit_init {f : Addr} {fd : FuncData} (F : Fun S.K "__init__" "Unfit.__init__" s_Unfit_init f fd) : Binds S.K fd ["self", "places"] [] := F.binds (ps := ["self", "places"]) fun _ _ _ _ _ _ us hl => match us, hl with | [_, _], _ => rfl
theorem ok_cheapest_text {f : Addr} {fd : FuncData} {fk_ChangeWalk_first : Addr} {fdk_ChangeWalk_first : FuncData} {fk_ChangeWalk_is_end : Addr} {fdk_ChangeWalk_is_end : FuncData} {fk_ChangeWalk_steps : Addr} {fdk_ChangeWalk_steps : FuncData} (F : Fun S.K "cheapest_text" "cheapest_text" s_cheapest_text f fd) (k_ChangeWalk_first : Met S mg base 3 "first" 4 ["self"] 1 m_ChangeWalk_first fk_ChangeWalk_first fdk_ChangeWalk_first) (k_ChangeWalk_is_end : Met S mg base 3 "is_end" 6 ["self", "node"] 2 m_ChangeWalk_is_end fk_ChangeWalk_is_end fdk_ChangeWalk_is_end) (k_ChangeWalk_steps : Met S mg base 3 "steps" 7 ["self", "node"] 2 m_ChangeWalk_steps fk_ChangeWalk_steps fdk_ChangeWalk_steps) : FnOk S.P S.w S.K mg base CX0 8 f fd ["walk", "costs"] (spM S 2 m_cheapest_text) := by
  refine F.ok sc_cheapest_text (fun vs H Q E h => h.1) (fun cdv A outer s H vs Q E hr h => ?_)
  have nd := sc_cheapest_text.nd
  refine ⟨_, (pss_cons (ps_set (i := 2) nd rfl (Or.inr rfl) (pe_meth0 (pv 0) k_ChangeWalk_first.cl k_ChangeWalk_first.mt k_ChangeWalk_first.ok (hr.mono (by decide)) k_ChangeWalk_first.b .nil pass0)) (pss_cons (ps_set (i := 3) nd rfl (Or.inl rfl) pe_str) (pss_cons (ps_while PassesOwn.never (pt_not (pt_truS S (pe_meth (pv 0) k_ChangeWalk_is_end.cl k_ChangeWalk_is_end.mt k_ChangeWalk_is_end.ok (hr.mono (by decide)) k_ChangeWalk_is_end.b .nil pass0 (pa_cons (pv 2) pa_nil)))) (pss_cons (ps_setLc (i := 4) (own := [("behind", 6), ("cost", 7), ("sign", 5)]) (g := (gTup S.K 3 (gNames [6, 7, 5]))) (by rfl) nd rfl rfl (sw_true rfl rfl rfl (by decide +kernel)) (pi_anyS S (pe_meth (pv 0) k_ChangeWalk_steps.cl k_ChangeWalk_steps.mt k_ChangeWalk_steps.ok (hr.mono (by decide)) k_ChangeWalk_steps.b .nil pass0 (pa_cons (pv 2) pa_nil))) (blkOk_by (own := [("behind", 6), ("cost", 7), ("sign", 5)]) (N := ["walk", "costs", "node", "text", "best", "sign", "behind", "cost"]) (sc := defScope s_cheapest_text) (by decide +kernel)) (fun _ _ _ _ _ => (pg_tup rfl (pgs_cons (pg_name (i := 6) nd rfl (Or.inl rfl)) (pgs_cons (pg_name (i := 7) nd rfl (Or.inl rfl)) (pgs_cons (pg_name (i := 5) nd rfl (Or.inl rfl)) pgs_nil))))) (fun _ _ _ _ _ => (pts_one (PW.pt (pw_and (pt_cmpR op_notAll (pe_ix (ix_S S (hu9 hr)) (pv 1) (pv 6) (fun _ _ => rfl)) pe_non (nomark _)) (pw_and1 (pt_cmpR (op_eqS S hr.units) (pe_op (op_addS S) (pe_ix (ix_S S (hu9 hr)) (pv 1) (pv 6) (fun _ _ => rfl)) (pv 7)) (pe_ix (ix_S S (hu9 hr)) (pv 1) (pv 2) (fun _ _ => rfl)) (nomark _))))))) (fun _ _ _ _ _ => (pe_tup (pa_cons (pv 6) (pa_cons (pv 5) pa_nil))))) (pss_cons (ps_asg (pe_ix (ix_S S (hu9 hr)) (pv 4) pe_int (fun _ _ => rfl)) (pg_tup rfl (pgs_cons (pg_name (i := 2) nd rfl (Or.inr rfl)) (pgs_cons (pg_name (i := 5) nd rfl (Or.inl rfl)) pgs_nil)))) (pss_one (ps_set (i := 3) nd rfl (Or.inl rfl) (pe_op (op_addS S) (pv 3) (pv 5))))))) (pss_one (ps_ret (pv 3)))))), fn_run (N := ["walk", "costs", "node", "text", "best", "sign", "behind", "cost"]) (m := mb_cheapest_text) ?_ h⟩
  exact (ss_seq (ss_asg (se_methU k_ChangeWalk_first.nm se_var sa_nil) sg_name) (ss_seq (ss_asg (se_strL) sg_name) (ss_seq (ss_while (st_not (st_tru (se_methU k_ChangeWalk_is_end.nm se_var (sa_cons se_var sa_nil)))) (ss_seq (ss_asg (se_lc (vs := [6, 7, 5]) (si_any (se_methU k_ChangeWalk_steps.nm se_var (sa_cons se_var sa_nil))) (sg_tup (sgs_cons sg_name (sgs_cons sg_name (sgs_cons sg_name sgs_nil)))) (gw_tup (gws_names [6, 7, 5] (by decide))) (st_and (st_test (se_op vo_not (se_op vo_ixX se_var se_var) se_non)) (st_test (se_op vo_eq (se_op vo_add (se_op vo_ixX se_var se_var) se_var) (se_op vo_ixX se_var se_var)))) (se_tup (sa_cons se_var (sa_cons se_var sa_nil)))) sg_name) (ss_seq (ss_asg (se_op vo_ixX se_var se_int) (sg_tup (sgs_cons sg_name (sgs_cons sg_name sgs_nil)))) (ss_asg (se_op vo_add se_var se_var) sg_name)))) (ss_ret se_var))))
theorem bd_cheapest_text {f : Addr} {fd : FuncData} (F : Fun S.K "cheapest_text" "cheapest_text" s_cheapest_text f fd) : Binds S.K fd ["walk", "costs"] [] := F.binds (ps := ["walk", "costs"]) fun _ _ _ _ _ _ us hl => match us, hl with | [_, _], _ => rfl
end
end K50
namespace K50
open PySem PySem.Spec PyProof.Rows L2 RZ PpSet Rm
section
variable {S : Se} {mg : Str → Option Value} {base : Heap} {ag_CONVERSIONS ag_KINDS ag_SIGNS ag__HELD ag__MADE_OF ag__PLAIN ag__REPLACED ag_behind : Addr}
theorem ok_starting {f : Addr} {fd : FuncData} (F : Fun S.K "starting" "starting" s_starting f fd) (n_len : mg "len" = none) : FnOk S.P S.w S.K mg base CX0 1 f fd ["way"] (spM S 1 m_starting) := by
  refine F.ok sc_starting (fun vs H Q E h => h.1) (fun cdv A outer s H vs Q E hr h => ?_)
  have nd := sc_starting.nd
  refine ⟨_, (pss_one (ps_ret (pe_op (op_mulS S) (pe_tup (pa_cons pe_bl pa_nil)) (pe_callB (call_lenS S) (by rfl) n_len (by decide +kernel) (pa_cons (pv 0) pa_nil))))), fn_run (N := ["way"]) (m := mb_starting) ?_ h⟩
  exact (ss_ret (se_op vo_mul (se_tup (sa_cons se_bl sa_nil)) (se_cb vc_len (sa_cons se_var sa_nil))))
theorem bd_starting {f : Addr} {fd : FuncData} (F : Fun S.K "starting" "starting" s_starting f fd) : Binds S.K fd ["way"] [] := F.binds (ps := ["way"]) fun _ _ _ _ _ _ us hl => match us, hl with | [_], _ => rfl
theorem ok_step {f : Addr} {fd : FuncData} {fc__read_all : Addr} {fdc__read_all : FuncData} (F : Fun S.K "step" "step" s_step f fd) (n_zip : mg "zip" = none) (c__read_all : Cal S mg base "_read_all" 2 ["word", "flag", "text"] 3 m__read_all fc__read_all fdc__read_all) (n_tuple : mg "tuple" = none) : FnOk S.P S.w S.K mg base CX0 3 f fd ["way", "standing", "sign"] (spM S 3 m_step) := by
  refine F.ok sc_step (fun vs H Q E h => h.1) (fun cdv A outer s H vs Q E hr h => ?_)
  have nd := sc_step.nd
  refine ⟨_, (pss_cons (ps_set (i := 3) nd rfl (Or.inl rfl) (pe_lst pa_nil)) (pss_cons (ps_set (i := 4) nd rfl (Or.inl rfl) (pv 2)) (pss_cons (ps_for PassesOwn.never rfl (pi_zipA (by rfl) n_zip (pa_cons (pv 0) (pa_cons (pv 1) pa_nil))) (pg_tup rfl (pgs_cons (pg_name (i := 5) nd rfl (Or.inl rfl)) (pgs_cons (pg_name (i := 6) nd rfl (Or.inl rfl)) pgs_nil))) (pss_cons (ps_asg (pe_call c__read_all.ok (hr.mono (by decide)) (by rfl) c__read_all.g c__read_all.kp c__read_all.b .nil pass0 (pa_cons (pv 5) (pa_cons (pv 6) (pa_cons (pv 4) pa_nil)))) (pg_tup rfl (pgs_cons (pg_name (i := 7) nd rfl (Or.inl rfl)) (pgs_cons (pg_name (i := 4) nd rfl (Or.inl rfl)) pgs_nil)))) (pss_one (ps_expr (pe_bm PySem.F.plainAttrs_list PySem.F.slot_list_append PySem.F.type_list_append mt_append (pv 3) (pa_cons (pv 7) pa_nil)))))) (pss_one (ps_ret (pe_tup (pa_cons (pe_callTy (call_tupS S) (by rfl) n_tuple (by decide +kernel) (pa_cons (pv 3) pa_nil)) (pa_cons (pv 4) pa_nil)))))))), fn_run (N := ["way", "standing", "sign", "behind", "text", "word", "flag", "flag_behind"]) (m := mb_step) ?_ h⟩
  exact (ss_seq (ss_asg (se_lstM sa_nil) sg_name) (ss_seq (ss_asg se_var sg_name) (ss_seq (ss_for (si_zip (sa_cons se_var (sa_cons se_var sa_nil))) (sg_tup (sgs_cons sg_name (sgs_cons sg_name sgs_nil))) (ss_seq (ss_asg (se_callT (sa_cons se_var (sa_cons se_var (sa_cons se_var sa_nil)))) (sg_tup (sgs_cons sg_name (sgs_cons sg_name sgs_nil)))) (ss_drop (se_app se_var se_var)))) (ss_ret (se_tup (sa_cons (se_cb vc_tuple (sa_cons se_var sa_nil)) (sa_cons se_var sa_nil)))))))
theorem bd_step {f : Addr} {fd : FuncData} (F : Fun S.K "step" "step" s_step f fd) : Binds S.K fd ["way", "standing", "sign"] [] := F.binds (ps := ["way", "standing", "sign"]) fun _ _ _ _ _ _ us hl => match us, hl with | [_, _, _], _ => rfl
theorem ok_Reader_reached {f : Addr} {fd : FuncData} {fk_Reader_first : Addr} {fdk_Reader_first : FuncData} {fk_Reader_moves : Addr} {fdk_Reader_moves : FuncData} (F : Fun S.K "reached" "Reader.reached" s_Reader_reached f fd) (k_Reader_first : Met S mg base 0 "first" 2 ["self"] 1 m_Reader_first fk_Reader_first fdk_Reader_first) (k_Reader_moves : Met S mg base 0 "moves" 5 ["self", "place"] 2 m_Reader_moves fk_Reader_moves fdk_Reader_moves) : FnOk S.P S.w S.K mg base CX0 6 f fd ["self"] (spM S 1 m_Reader_reached) := by
  refine F.ok sc_Reader_reached (fun vs H Q E h => h.1) (fun cdv A outer s H vs Q E hr h => ?_)
  have nd := sc_Reader_reached.nd
  refine ⟨_, (pss_cons (ps_set (i := 1) nd rfl (Or.inl rfl) (pe_dispS S (hu9 hr) (pe_meth0 (pv 0) k_Reader_first.cl k_Reader_first.mt k_Reader_first.ok (hr.mono (by decide)) k_Reader_first.b .nil pass0) pe_str)) (pss_cons (ps_set (i := 2) nd rfl (Or.inl rfl) (pe_lst (pa_cons (pe_meth0 (pv 0) k_Reader_first.cl k_Reader_first.mt k_Reader_first.ok (hr.mono (by decide)) k_Reader_first.b .nil pass0) pa_nil))) (pss_cons (ps_while PassesOwn.never (pt_truS S (pv 2)) (pss_cons (ps_set (i := 3) nd rfl (Or.inl rfl) (pe_lst pa_nil)) (pss_cons (ps_for PassesOwn.never rfl (pi_anyS S (pv 2)) (pg_name (i := 4) nd rfl (Or.inl rfl)) (pss_one (ps_for PassesOwn.never rfl (pi_anyS S (pe_meth (pv 0) k_Reader_moves.cl k_Reader_moves.mt k_Reader_moves.ok (hr.mono (by decide)) k_Reader_moves.b .nil pass0 (pa_cons (pv 4) pa_nil))) (pg_tup rfl (pgs_cons (pg_name (i := 5) nd rfl (Or.inl rfl)) (pgs_cons (pg_name (i := 6) nd rfl (Or.inl rfl)) (pgs_cons (pg_name (i := 7) nd rfl (Or.inl rfl)) pgs_nil)))) (pss_one (ps_if (pt_cmpR (op_niYS S (hu65 hr)) (pv 6) (pv 1) rfl) (pss_cons (ps_asg (pe_op (op_addS S) (pe_ix (ix_S S (hu9 hr)) (pv 1) (pv 4) (fun _ _ => rfl)) (pv 5)) (pg_sub (pv 1) (pv 6) (set_S S (hu9 hr)))) (pss_one (ps_expr (pe_bm PySem.F.plainAttrs_list PySem.F.slot_list_append PySem.F.type_list_append mt_append (pv 3) (pa_cons (pv 6) pa_nil))))) pss_nil))))) (pss_one (ps_set (i := 2) nd rfl (Or.inl rfl) (pv 3)))))) (pss_one (ps_ret (pv 1)))))), fn_run (N := ["self", "found", "level", "longer", "place", "sign", "behind", "_"]) (m := mb_Reader_reached) ?_ h⟩
  exact (ss_seq (ss_asg (se_dispM (se_methU k_Reader_first.nm se_var sa_nil) (se_strL)) sg_name) (ss_seq (ss_asg (se_lst (sa_cons (se_methU k_Reader_first.nm se_var sa_nil) sa_nil)) sg_name) (ss_seq (ss_while (st_tru se_var) (ss_seq (ss_asg (se_lstM sa_nil) sg_name) (ss_seq (ss_for (si_any se_var) sg_name (ss_for (si_any (se_methU k_Reader_moves.nm se_var (sa_cons se_var sa_nil))) (sg_tup (sgs_cons sg_name (sgs_cons sg_name (sgs_cons sg_name sgs_nil)))) (ss_if (st_test (se_op vo_niY se_var se_var)) (ss_seq (ss_asg (se_op vo_add (se_op vo_ixX se_var se_var) se_var) (sg_sub vst_X se_var se_var)) (ss_drop (se_app se_var se_var))) ss_next))) (ss_asg se_var sg_name)))) (ss_ret se_var))))
theorem bd_Reader_reached {f : Addr} {fd : FuncData} (F : Fun S.K "reached" "Reader.reached" s_Reader_reached f fd) : Binds S.K fd ["self"] [] := F.binds (ps := ["self"]) fun _ _ _ _ _ _ us hl => match us, hl with | [_], _ => rfl
theorem ok_is_text {f : Addr} {fd : FuncData} {ag_SIGNS : Addr} (F : Fun S.K "is_text" "is_text" s_is_text f fd) (n_isinstance : mg "isinstance" = none) (n_str : mg "str" = none) (n_all : mg "all" = none) (g_SIGNS : mg "SIGNS" = some (.ref ag_SIGNS)) (z_SIGNS : ∀ F ι H, RV S.toSg F ι H (.tup [(.str [97]), (.str [110]), (.str [114])]) (.ref ag_SIGNS)) : FnOk S.P S.w S.K mg base CX0 1 f fd ["text"] (spM S 1 m_is_text) := by
  refine F.ok sc_is_text (fun vs H Q E h => h.1) (fun cdv A outer s H vs Q E hr h => ?_)
  have nd := sc_is_text.nd
  refine ⟨_, (pss_one (ps_ret (pe_and (pe_callB (call_isiS S) (by rfl) n_isinstance (by decide +kernel) (pa_cons (pv 0) (pa_cons (pe_bltn (v := .ty "str") (u := .type "str") (by rfl) n_str (by decide +kernel) rfl) pa_nil))) (pe_one (pe_callB (call_allS S rfl) (by rfl) n_all (by decide +kernel) (pa_cons (pe_lc (own := [("sign", 1)]) (g := (gName 1)) (by rfl) nd (pi_anyS S (pv 0)) (blkOk_by (own := [("sign", 1)]) (N := ["text", "sign"]) (sc := defScope s_is_text) (by decide +kernel)) (fun _ _ _ _ _ => (pg_name (i := 1) nd rfl (Or.inl rfl))) (fun _ _ _ _ _ => pts_nil) (fun _ _ _ _ _ => (pe_cmpR (op_inYS S (hu65 hr)) (pv 1) (pe_glob (v := .ref ag_SIGNS) (by rfl) g_SIGNS rfl) rfl))) pa_nil)))))), fn_run (N := ["text", "sign"]) (m := mb_is_text) ?_ h⟩
  exact (ss_ret (se_andV (se_isi (.ty "str") isT_ty se_var) (se_cb vc_all (sa_cons (se_lc (vs := [1]) (si_any se_var) sg_name (gw_name (by decide)) st_yes (se_op vo_inY se_var (se_c z_SIGNS))) sa_nil))))
theorem bd_is_text {f : Addr} {fd : FuncData} (F : Fun S.K "is_text" "is_text" s_is_text f fd) : Binds S.K fd ["text"] [] := F.binds (ps := ["text"]) fun _ _ _ _ _ _ us hl => match us, hl with | [_], _ => rfl
theorem ok_Swelling_has_rate {f : Addr} {fd : FuncData} {fc_is_text : Addr} {fdc_is_text : FuncData} {fc_walked : Addr} {fdc_walked : FuncData} {fk_Reader_first : Addr} {fdk_Reader_first : FuncData} {fc_rate_of : Addr} {fdc_rate_of : FuncData} {fc_is_integer : Addr} {fdc_is_integer : FuncData} (F : Fun S.K "_has_rate" "Swelling._has_rate" s_Swelling_has_rate f fd) (c_is_text : Cal S mg base "is_text" 1 ["text"] 1 m_is_text fc_is_text fdc_is_text) (f_ahead : Fld S "ahead" [(1, 1)]) (f_ring : Fld S "ring" [(1, 2)]) (c_walked : Cal S mg base "walked" 6 ["reader", "place", "text"] 3 m_walked fc_walked fdc_walked) (k_Reader_first : Met S mg base 0 "first" 2 ["self"] 1 m_Reader_first fk_Reader_first fdk_Reader_first) (f_rate : Fld S "rate" [(1, 0)]) (c_rate_of : Cal S mg base "rate_of" 7 ["reader", "place", "ring"] 3 m_rate_of fc_rate_of fdc_rate_of) (n_isinstance : mg "isinstance" = none) (n_tuple : mg "tuple" = none) (n_all : mg "all" = none) (c_is_integer : Cal S mg base "is_integer" 1 ["number"] 1 m_is_integer fc_is_integer fdc_is_integer) : FnOk S.P S.w S.K mg base CX0 8 f fd ["self", "reader"] (spM S 2 m_Swelling_has_rate) := by
  refine F.ok sc_Swelling_has_rate (fun vs H Q E h => h.1) (fun cdv A outer s H vs Q E hr h => ?_)
  have nd := sc_Swelling_has_rate.nd
  refine ⟨_, (pss_cons (ps_if (PW.pt (pw_or (pt_not (pt_truS S (pe_call c_is_text.ok (hr.mono (by decide)) (by rfl) c_is_text.g c_is_text.kp c_is_text.b .nil pass0 (pa_cons (pe_fldS S (pv 0)) pa_nil)))) (pw_or1 (pt_not (pt_truS S (pe_call c_is_text.ok (hr.mono (by decide)) (by rfl) c_is_text.g c_is_text.kp c_is_text.b .nil pass0 (pa_cons (pe_fldS S (pv 0)) pa_nil))))))) (pss_one (ps_ret pe_bl)) pss_nil) (pss_cons (ps_set (i := 2) nd rfl (Or.inl rfl) (pe_call c_walked.ok (hr.mono (by decide)) (by rfl) c_walked.g c_walked.kp c_walked.b .nil pass0 (pa_cons (pv 1) (pa_cons (pe_meth0 (pv 1) k_Reader_first.cl k_Reader_first.mt k_Reader_first.ok (hr.mono (by decide)) k_Reader_first.b .nil pass0) (pa_cons (pe_fldS S (pv 0)) pa_nil))))) (pss_cons (ps_if (PW.pt (pw_or (pt_cmpR op_isAll (pv 2) pe_non (nomark _)) (pw_or1 (pt_cmpR (op_neS S hr.units) (pe_fldS S (pv 0)) (pe_call c_rate_of.ok (hr.mono (by decide)) (by rfl) c_rate_of.g c_rate_of.kp c_rate_of.b .nil pass0 (pa_cons (pv 1) (pa_cons (pe_ix (ix_S S (hu9 hr)) (pv 2) pe_int (fun _ _ => rfl)) (pa_cons (pe_fldS S (pv 0)) pa_nil)))) (nomark _))))) (pss_one (ps_ret pe_bl)) pss_nil) (pss_one (ps_ret (pe_and (pe_callB (call_isiS S) (by rfl) n_isinstance (by decide +kernel) (pa_cons (pe_fldS S (pv 0)) (pa_cons (pe_bltn (v := .ty "tuple") (u := .type "tuple") (by rfl) n_tuple (by decide +kernel) rfl) pa_nil))) (pe_one (pe_callB (call_allS S rfl) (by rfl) n_all (by decide +kernel) (pa_cons (pe_lc (own := [("number", 3)]) (g := (gName 3)) (by rfl) nd (pi_anyS S (pe_fldS S (pv 0))) (blkOk_by (own := [("number", 3)]) (N := ["self", "reader", "found", "number"]) (sc := defScope s_Swelling_has_rate) (by decide +kernel)) (fun _ _ _ _ _ => (pg_name (i := 3) nd rfl (Or.inl rfl))) (fun _ _ _ _ _ => pts_nil) (fun _ _ _ _ _ => (pe_call c_is_integer.ok (hr.mono (by decide)) (by rfl) c_is_integer.g c_is_integer.kp c_is_integer.b .nil pass0 (pa_cons (pv 3) pa_nil)))) pa_nil))))))))), fn_run (N := ["self", "reader", "found", "number"]) (m := mb_Swelling_has_rate) ?_ h⟩
  exact (ss_seq (ss_if (st_or (st_not (st_tru (se_callT (sa_cons (se_fld f_ahead se_var) sa_nil)))) (st_not (st_tru (se_callT (sa_cons (se_fld f_ring se_var) sa_nil))))) (ss_ret se_bl) ss_next) (ss_seq (ss_asg (se_callT (sa_cons se_var (sa_cons (se_methU k_Reader_first.nm se_var sa_nil) (sa_cons (se_fld f_ahead se_var) sa_nil)))) sg_name) (ss_seq (ss_if (st_or (st_test (se_op vo_is se_var se_non)) (st_test (se_op vo_ne (se_fld f_rate se_var) (se_callT (sa_cons se_var (sa_cons (se_op vo_ixX se_var se_int) (sa_cons (se_fld f_ring se_var) sa_nil))))))) (ss_ret se_bl) ss_next) (ss_ret (se_andV (se_isi (.ty "tuple") isT_ty (se_fld f_rate se_var)) (se_cb vc_all (sa_cons (se_lc (vs := [3]) (si_any (se_fld f_rate se_var)) sg_name (gw_name (by decide)) st_yes (se_callT (sa_cons se_var sa_nil))) sa_nil)))))))
theorem bd_Swelling_has_rate {f : Addr} {fd : FuncData} (F : Fun S.K "_has_rate" "Swelling._has_rate" s_Swelling_has_rate f fd) : Binds S.K fd ["self", "reader"] [] := F.binds (ps := ["self", "reader"]) fun _ _ _ _ _ _ us hl => match us, hl with | [_, _], _ => rfl
theorem ok_is_standing {f : Addr} {fd : FuncData} {ag__PLAIN : Addr} (F : Fun S.K "is_standing" "is_standing" s_is_standing f fd) (n_isinstance : mg "isinstance" = none) (n_tuple : mg "tuple" = none) (n_len : mg "len" = none) (n_all : mg "all" = none) (n_zip : mg "zip" = none) (n_bool : mg "bool" = none) (g__PLAIN : mg "_PLAIN" = some (.ref ag__PLAIN)) (t__PLAIN : KTab S.toSg ag__PLAIN kt__PLAIN) : FnOk S.P S.w S.K mg base CX0 1 f fd ["way", "standing"] (spM S 2 m_is_standing) := by
  refine F.ok sc_is_standing (fun vs H Q E h => h.1) (fun cdv A outer s H vs Q E hr h => ?_)
  have nd := sc_is_standing.nd
  refine ⟨_, (pss_cons (ps_if (PW.pt (pw_or (pt_not (pt_truS S (pe_callB (call_isiS S) (by rfl) n_isinstance (by decide +kernel) (pa_cons (pv 1) (pa_cons (pe_bltn (v := .ty "tuple") (u := .type "tuple") (by rfl) n_tuple (by decide +kernel) rfl) pa_nil))))) (pw_or1 (pt_cmpR (op_neS S hr.units) (pe_callB (call_lenS S) (by rfl) n_len (by decide +kernel) (pa_cons (pv 1) pa_nil)) (pe_callB (call_lenS S) (by rfl) n_len (by decide +kernel) (pa_cons (pv 0) pa_nil)) (nomark _))))) (pss_one (ps_ret pe_bl)) pss_nil) (pss_one (ps_ret (pe_callB (call_allS S rfl) (by rfl) n_all (by decide +kernel) (pa_cons (pe_lc (own := [("word", 2), ("flag", 3)]) (g := (gTup S.K 2 (gNames [2, 3]))) (by rfl) nd (pi_zipA (by rfl) n_zip (pa_cons (pv 0) (pa_cons (pv 1) pa_nil))) (blkOk_by (own := [("word", 2), ("flag", 3)]) (N := ["way", "standing", "word", "flag"]) (sc := defScope s_is_standing) (by decide +kernel)) (fun _ _ _ _ _ => (pg_tup rfl (pgs_cons (pg_name (i := 2) nd rfl (Or.inl rfl)) (pgs_cons (pg_name (i := 3) nd rfl (Or.inl rfl)) pgs_nil)))) (fun _ _ _ _ _ => pts_nil) (fun _ _ _ _ _ => (pe_and (pe_callB (call_isiS S) (by rfl) n_isinstance (by decide +kernel) (pa_cons (pv 3) (pa_cons (pe_bltn (v := .ty "bool") (u := .type "bool") (by rfl) n_bool (by decide +kernel) rfl) pa_nil))) (pe_one (pe_not (pe_and (pv 3) (pe_one (pe_cmpR (op_kdS S) (pv 2) (pe_glob (v := .ref ag__PLAIN) (by rfl) g__PLAIN rfl) rfl)))))))) pa_nil))))), fn_run (N := ["way", "standing", "word", "flag"]) (m := mb_is_standing) ?_ h⟩
  exact (ss_seq (ss_if (st_or (st_not (st_tru (se_isi (.ty "tuple") isT_ty se_var))) (st_test (se_op vo_ne (se_cb vc_len (sa_cons se_var sa_nil)) (se_cb vc_len (sa_cons se_var sa_nil))))) (ss_ret se_bl) ss_next) (ss_ret (se_cb vc_all (sa_cons (se_lc (vs := [2, 3]) (si_zip (sa_cons se_var (sa_cons se_var sa_nil))) (sg_tup (sgs_cons sg_name (sgs_cons sg_name sgs_nil))) (gw_tup (gws_names [2, 3] (by decide))) st_yes (se_andV (se_isi (.ty "bool") isT_ty se_var) (se_notV (se_andV se_var (se_inK t__PLAIN se_var))))) sa_nil))))
theorem bd_is_standing {f : Addr} {fd : FuncData} (F : Fun S.K "is_standing" "is_standing" s_is_standing f fd) : Binds S.K fd ["way", "standing"] [] := F.binds (ps := ["way", "standing"]) fun _ _ _ _ _ _ us hl => match us, hl with | [_, _], _ => rfl
theorem ok_best_ring {f : Addr} {fd : FuncData} {fk_Reader_reached : Addr} {fdk_Reader_reached : FuncData} {fk_Reader_moves : Addr} {fdk_Reader_moves : FuncData} {fk_Reader_first : Addr} {fdk_Reader_first : FuncData} {fc__ring_behind : Addr} {fdc__ring_behind : FuncData} {fc_rate_of : Addr} {fdc_rate_of : FuncData} {fc__climb : Addr} {fdc__climb : FuncData} (F : Fun S.K "best_ring" "best_ring" s_best_ring f fd) (n_list : mg "list" = none) (k_Reader_reached : Met S mg base 0 "reached" 6 ["self"] 1 m_Reader_reached fk_Reader_reached fdk_Reader_reached) (k_Reader_moves : Met S mg base 0 "moves" 5 ["self", "place"] 2 m_Reader_moves fk_Reader_moves fdk_Reader_moves) (k_Reader_first : Met S mg base 0 "first" 2 ["self"] 1 m_Reader_first fk_Reader_first fdk_Reader_first) (c__ring_behind : Cal S mg base "_ring_behind" 1 ["chosen", "place"] 2 m__ring_behind fc__ring_behind fdc__ring_behind) (c_rate_of : Cal S mg base "rate_of" 7 ["reader", "place", "ring"] 3 m_rate_of fc_rate_of fdc_rate_of) (c__climb : Cal S mg base "_climb" 7 ["reader", "places", "rate", "least"] 4 m__climb fc__climb fdc__climb) : FnOk S.P S.w S.K mg base CX0 8 f fd ["reader", "least"] (spM S 2 m_best_ring) := by
  refine F.ok sc_best_ring (fun vs H Q E h => h.1) (fun cdv A outer s H vs Q E hr h => ?_)
  have nd := sc_best_ring.nd
  refine ⟨_, (pss_cons (ps_set (i := 2) nd rfl (Or.inl rfl) (pe_callTy (call_listYS S rfl) (by rfl) n_list (by decide +kernel) (pa_cons (pe_meth0 (pv 0) k_Reader_reached.cl k_Reader_reached.mt k_Reader_reached.ok (hr.mono (by decide)) k_Reader_reached.b .nil pass0) pa_nil))) (pss_cons (ps_setDcN (i := 3) (own := [("place", 6)]) (g := (gName 6)) (hu9 hr) (by rfl) nd rfl rfl (sw_trueD rfl rfl rfl (by decide +kernel)) (pi_anyS S (pv 2)) (blkOk_by (own := [("place", 6)]) (N := ["reader", "least", "places", "chosen", "raised", "rate", "place", "ring", "heights"]) (sc := defScope s_best_ring) (by decide +kernel)) (fun _ _ _ _ _ => (pg_name (i := 6) nd rfl (Or.inl rfl))) (fun _ _ _ _ _ => pts_nil) (fun _ _ _ _ _ => (pv 6)) (fun _ _ _ _ _ => (pe_ix (ix_S S (hu9 hr)) (pe_meth (pv 0) k_Reader_moves.cl k_Reader_moves.mt k_Reader_moves.ok (hr.mono (by decide)) k_Reader_moves.b .nil pass0 (pa_cons (pv 6) pa_nil)) pe_int (fun _ _ => rfl)))) (pss_cons (ps_set (i := 4) nd rfl (Or.inl rfl) (pe_meth0 (pv 0) k_Reader_first.cl k_Reader_first.mt k_Reader_first.ok (hr.mono (by decide)) k_Reader_first.b .nil pass0)) (pss_cons (ps_asg (pe_tup (pa_cons pe_non (pa_cons pe_non (pa_cons pe_str (pa_cons (pe_newS S) pa_nil))))) (pg_tup rfl (pgs_cons (pg_name (i := 5) nd rfl (Or.inl rfl)) (pgs_cons (pg_name (i := 6) nd rfl (Or.inl rfl)) (pgs_cons (pg_name (i := 7) nd rfl (Or.inl rfl)) (pgs_cons (pg_name (i := 8) nd rfl (Or.inl rfl)) pgs_nil)))))) (pss_cons (ps_while PassesOwn.never (pt_cmpR op_notAll (pv 4) pe_non (nomark _)) (pss_cons (ps_asg (pe_call c__ring_behind.ok (hr.mono (by decide)) (by rfl) c__ring_behind.g c__ring_behind.kp c__ring_behind.b .nil pass0 (pa_cons (pv 3) (pa_cons (pv 4) pa_nil))) (pg_tup rfl (pgs_cons (pg_name (i := 6) nd rfl (Or.inl rfl)) (pgs_cons (pg_name (i := 7) nd rfl (Or.inl rfl)) pgs_nil)))) (pss_cons (ps_set (i := 5) nd rfl (Or.inl rfl) (pe_call c_rate_of.ok (hr.mono (by decide)) (by rfl) c_rate_of.g c_rate_of.kp c_rate_of.b .nil pass0 (pa_cons (pv 0) (pa_cons (pv 6) (pa_cons (pv 7) pa_nil))))) (pss_one (ps_asg (pe_call c__climb.ok (hr.mono (by decide)) (by rfl) c__climb.g c__climb.kp c__climb.b .nil pass0 (pa_cons (pv 0) (pa_cons (pv 2) (pa_cons (pv 5) (pa_cons (pv 1) pa_nil))))) (pg_tup rfl (pgs_cons (pg_name (i := 8) nd rfl (Or.inl rfl)) (pgs_cons (pg_name (i := 3) nd rfl (Or.inl rfl)) (pgs_cons (pg_name (i := 4) nd rfl (Or.inl rfl)) pgs_nil))))))))) (pss_one (ps_ret (pe_tup (pa_cons (pv 5) (pa_cons (pv 6) (pa_cons (pv 7) (pa_cons (pv 8) pa_nil)))))))))))), fn_run (N := ["reader", "least", "places", "chosen", "raised", "rate", "place", "ring", "heights"]) (m := mb_best_ring) ?_ h⟩
  exact (ss_seq (ss_asg (se_cb vc_listY (sa_cons (se_methU k_Reader_reached.nm se_var sa_nil) sa_nil)) sg_name) (ss_seq (ss_asg (se_dc (vs := [6]) (si_any se_var) sg_name (gw_name (by decide)) st_yes se_var (se_op vo_ixX (se_methU k_Reader_moves.nm se_var (sa_cons se_var sa_nil)) se_int)) sg_name) (ss_seq (ss_asg (se_methU k_Reader_first.nm se_var sa_nil) sg_name) (ss_seq (ss_asg (se_tup (sa_cons se_non (sa_cons se_non (sa_cons (se_strL) (sa_cons se_newV sa_nil))))) (sg_tup (sgs_cons sg_name (sgs_cons sg_name (sgs_cons sg_name (sgs_cons sg_name sgs_nil)))))) (ss_seq (ss_while (st_test (se_op vo_not se_var se_non)) (ss_seq (ss_asg (se_callT (sa_cons se_var (sa_cons se_var sa_nil))) (sg_tup (sgs_cons sg_name (sgs_cons sg_name sgs_nil)))) (ss_seq (ss_asg (se_callT (sa_cons se_var (sa_cons se_var (sa_cons se_var sa_nil)))) sg_name) (ss_asg (se_callT (sa_cons se_var (sa_cons se_var (sa_cons se_var (sa_cons se_var sa_nil))))) (sg_tup (sgs_cons sg_name (sgs_cons sg_name (sgs_cons sg_name sgs_nil)))))))) (ss_ret (se_tup (sa_cons se_var (sa_cons se_var (sa_cons se_var (sa_cons se_var sa_nil)))))))))))
theorem bd_best_ring {f : Addr} {fd : FuncData} (F : Fun S.K "best_ring" "best_ring" s_best_ring f fd) : Binds S.K fd ["reader", "least"] [] := F.binds (ps := ["reader", "least"]) fun _ _ _ _ _ _ us hl => match us, hl with | [_, _], _ => rfl
theorem ok_greatest_rate {f : Addr} {fd : FuncData} {fc_swell : Addr} {fdc_swell : FuncData} (F : Fun S.K "greatest_rate" "greatest_rate" s_greatest_rate f fd) (f_rate : Fld S "rate" [(1, 0)]) (c_swell : CalK S mg base "swell" 9 ["way", "kind", "least"] 2 m_swell "least" fc_swell fdc_swell) : FnOk S.P S.w S.K mg base CX0 10 f fd ["way", "kind"] (spM S 2 m_greatest_rate) := by
  refine F.ok sc_greatest_rate (fun vs H Q E h => h.1) (fun cdv A outer s H vs Q E hr h => ?_)
  have nd := sc_greatest_rate.nd
  refine ⟨_, (pss_one (ps_ret (pe_fldS S (pe_call c_swell.ok (hr.mono (by decide)) (by rfl) c_swell.g c_swell.kp c_swell.d.choose_spec.2 c_swell.d.choose_spec.1 pass0 (pa_cons (pv 0) (pa_cons (pv 1) pa_nil)))))), fn_run (N := ["way", "kind"]) (m := mb_greatest_rate) ?_ h⟩
  exact (ss_ret (se_fld f_rate (se_dfl (se_callT (sa_cat (n := 2) (sa_cons se_var (sa_cons se_var sa_nil)) sa_k1f)))))
theorem bd_greatest_rate {f : Addr} {fd : FuncData} (F : Fun S.K "greatest_rate" "greatest_rate" s_greatest_rate f fd) : Binds S.K fd ["way", "kind"] [] := F.binds (ps := ["way", "kind"]) fun _ _ _ _ _ _ us hl => match us, hl with | [_, _], _ => rfl
theorem ok_ChangeWalk_init {f : Addr} {fd : FuncData} {fq_AimWalk : Addr} {fdq_AimWalk : FuncData} (F : Fun S.K "__init__" "ChangeWalk.__init__" s_ChangeWalk_init f fd) (f_aim : Fld S "aim" [(3, 0)]) (q_AimWalk : Mak S mg base 2 "AimWalk" 3 ["self", "way", "kind", "wanted"] 4 m_AimWalk_init fq_AimWalk fdq_AimWalk 2) (f_text : Fld S "text" [(3, 1), (4, 0)]) : FnOk S.P S.w S.K mg base CX0 5 f fd ["self", "way", "kind", "text", "wanted"] (spM S 5 m_ChangeWalk_init) := by
  refine F.ok sc_ChangeWalk_init (fun vs H Q E h => h.1) (fun cdv A outer s H vs Q E hr h => ?_)
  have nd := sc_ChangeWalk_init.nd
  refine ⟨_, (pss_cons (ps_fld (pv 0) (pe_make q_AimWalk.mak q_AimWalk.ok (hr.mono (by decide)) (by rfl) q_AimWalk.g q_AimWalk.b .nil pass0 (pa_cons (pv 1) (pa_cons (pv 2) (pa_cons (pv 4) pa_nil)))) rfl) (pss_one (ps_fld (pv 0) (pv 3) rfl))), fn_run (N := ["self", "way", "kind", "text", "wanted"]) (m := mb_ChangeWalk_init) ?_ h⟩
  exact (ss_seq (ss_fld f_aim se_var (se_makeS q_AimWalk.k (sa_cons se_var (sa_cons se_var (sa_cons se_var sa_nil))))) (ss_fld f_text se_var se_var))
theorem bd_ChangeWalk_init {f : Addr} {fd : FuncData} (F : Fun S.K "__init__" "ChangeWalk.__init__" s_ChangeWalk_init f fd) : Binds S.K fd ["self", "way", "kind", "text", "wanted"] [] := F.binds (ps := ["self", "way", "kind", "text", "wanted"]) fun _ _ _ _ _ _ us hl => match us, hl with | [_, _, _, _, _], _ => rfl
theorem ok_least_change {f : Addr} {fd : FuncData} {fc_fit : Addr} {fdc_fit : FuncData} {fc_distance_between : Addr} {fdc_distance_between : FuncData} (F : Fun S.K "least_change" "least_change" s_least_change f fd) (c_fit : Cal S mg base "fit" 10 ["way", "kind", "text", "wanted"] 4 m_fit fc_fit fdc_fit) (n_isinstance : mg "isinstance" = none) (w_Fitted : mg "Fitted" = some (.ref (S.ct 4))) (v_Fitted : IsT S (.ref (S.ct 4)) (tbOwn [(4, true), (5, false)] none)) (c_distance_between : Cal S mg base "distance_between" 1 ["text", "other"] 2 m_distance_between fc_distance_between fdc_distance_between) (f_text : Fld S "text" [(3, 1), (4, 0)]) : FnOk S.P S.w S.K mg base CX0 11 f fd ["way", "kind", "text", "wanted"] (spM S 4 m_least_change) := by
  refine F.ok sc_least_change (fun vs H Q E h => h.1) (fun cdv A outer s H vs Q E hr h => ?_)
  have nd := sc_least_change.nd
  refine ⟨_, (pss_cons (ps_set (i := 4) nd rfl (Or.inl rfl) (pe_call c_fit.ok (hr.mono (by decide)) (by rfl) c_fit.g c_fit.kp c_fit.b .nil pass0 (pa_cons (pv 0) (pa_cons (pv 1) (pa_cons (pv 2) (pa_cons (pv 3) pa_nil)))))) (pss_one (ps_ret (pe_ifExp (pt_truS S (pe_callB (call_isiS S) (by rfl) n_isinstance (by decide +kernel) (pa_cons (pv 4) (pa_cons (pe_glob (v := .ref (S.ct 4)) (by rfl) w_Fitted rfl) pa_nil)))) (pe_call c_distance_between.ok (hr.mono (by decide)) (by rfl) c_distance_between.g c_distance_between.kp c_distance_between.b .nil pass0 (pa_cons (pv 2) (pa_cons (pe_fldS S (pv 4)) pa_nil))) pe_non)))), fn_run (N := ["way", "kind", "text", "wanted", "found"]) (m := mb_least_change) ?_ h⟩
  exact (ss_seq (ss_asg (se_callT (sa_cons se_var (sa_cons se_var (sa_cons se_var (sa_cons se_var sa_nil))))) sg_name) (ss_ret (se_if (st_tru (se_isi (.own _) v_Fitted se_var)) (se_callT (sa_cons se_var (sa_cons (se_fld f_text se_var) sa_nil))) se_non)))
theorem bd_least_change {f : Addr} {fd : FuncData} (F : Fun S.K "least_change" "least_change" s_least_change f fd) : Binds S.K fd ["way", "kind", "text", "wanted"] [] := F.binds (ps := ["way", "kind", "text", "wanted"]) fun _ _ _ _ _ _ us hl => match us, hl with | [_, _, _, _], _ => rfl
end
end K50
namespace K50
open PySem PySem.Spec PyProof.Rows L2 RZ PpSet Rm
section
variable {S : Se} {mg : Str → Option Value} {base : Heap} {ag_CONVERSIONS ag_KINDS ag_SIGNS ag__HELD ag__MADE_OF ag__PLAIN ag__REPLACED ag_behind : Addr}
theorem ok_coming {f : Addr} {fd : FuncData} {ag__MADE_OF : Addr} (F : Fun S.K "coming" "coming" s_coming f fd) (g__MADE_OF : mg "_MADE_OF" = some (.ref ag__MADE_OF)) (t__MADE_OF : KTab S.toSg ag__MADE_OF kt__MADE_OF) : FnOk S.P S.w S.K mg base CX0 1 f fd ["kind", "waits"] (spM S 2 m_coming) := by
  refine F.ok sc_coming (fun vs H Q E h => h.1) (fun cdv A outer s H vs Q E hr h => ?_)
  have nd := sc_coming.nd
  refine ⟨_, (pss_cons (ps_if (pt_cmpR (op_eqS S hr.units) (pv 0) pe_str (nomark _)) (pss_one (ps_ret (pe_ifExp (pt_truS S (pv 1)) (pe_tup (pa_cons pe_str pa_nil)) (pe_tup (pa_cons pe_str (pa_cons pe_str pa_nil)))))) pss_nil) (pss_one (ps_ret (pe_ix (ix_kdS S) (pe_glob (v := .ref ag__MADE_OF) (by rfl) g__MADE_OF rfl) (pv 0) (fun _ _ => rfl))))), fn_run (N := ["kind", "waits"]) (m := mb_coming) ?_ h⟩
  exact (ss_seq (ss_if (st_test (se_op vo_eq se_var (se_strL))) (ss_ret (se_if (st_tru se_var) (se_tup (sa_cons (se_strL) sa_nil)) (se_tup (sa_cons (se_strL) (sa_cons (se_strL) sa_nil))))) ss_next) (ss_ret (se_ixK t__MADE_OF se_var)))
theorem bd_coming {f : Addr} {fd : FuncData} (F : Fun S.K "coming" "coming" s_coming f fd) : Binds S.K fd ["kind", "waits"] [] := F.binds (ps := ["kind", "waits"]) fun _ _ _ _ _ _ us hl => match us, hl with | [_, _], _ => rfl
theorem ok_is_integer {f : Addr} {fd : FuncData} (F : Fun S.K "is_integer" "is_integer" s_is_integer f fd) (n_isinstance : mg "isinstance" = none) (n_int : mg "int" = none) (n_bool : mg "bool" = none) : FnOk S.P S.w S.K mg base CX0 1 f fd ["number"] (spM S 1 m_is_integer) := by
  refine F.ok sc_is_integer (fun vs H Q E h => h.1) (fun cdv A outer s H vs Q E hr h => ?_)
  have nd := sc_is_integer.nd
  refine ⟨_, (pss_one (ps_ret (pe_and (pe_callB (call_isiS S) (by rfl) n_isinstance (by decide +kernel) (pa_cons (pv 0) (pa_cons (pe_bltn (v := .ty "int") (u := .type "int") (by rfl) n_int (by decide +kernel) rfl) pa_nil))) (pe_one (pe_not (pe_callB (call_isiS S) (by rfl) n_isinstance (by decide +kernel) (pa_cons (pv 0) (pa_cons (pe_bltn (v := .ty "bool") (u := .type "bool") (by rfl) n_bool (by decide +kernel) rfl) pa_nil)))))))), fn_run (N := ["number"]) (m := mb_is_integer) ?_ h⟩
  exact (ss_ret (se_andV (se_isi (.ty "int") isT_ty se_var) (se_notV (se_isi (.ty "bool") isT_ty se_var))))
theorem bd_is_integer {f : Addr} {fd : FuncData} (F : Fun S.K "is_integer" "is_integer" s_is_integer f fd) : Binds S.K fd ["number"] [] := F.binds (ps := ["number"]) fun _ _ _ _ _ _ us hl => match us, hl with | [_], _ => rfl
theorem ok_is_place {f : Addr} {fd : FuncData} {fc_is_standing : Addr} {fdc_is_standing : FuncData} (F : Fun S.K "is_place" "is_place" s_is_place f fd) (n_isinstance : mg "isinstance" = none) (n_tuple : mg "tuple" = none) (n_len : mg "len" = none) (c_is_standing : Cal S mg base "is_standing" 1 ["way", "standing"] 2 m_is_standing fc_is_standing fdc_is_standing) (n_bool : mg "bool" = none) : FnOk S.P S.w S.K mg base CX0 2 f fd ["way", "place"] (spM S 2 m_is_place) := by
  refine F.ok sc_is_place (fun vs H Q E h => h.1) (fun cdv A outer s H vs Q E hr h => ?_)
  have nd := sc_is_place.nd
  refine ⟨_, (pss_cons (ps_if (PW.pt (pw_or (pt_not (pt_truS S (pe_callB (call_isiS S) (by rfl) n_isinstance (by decide +kernel) (pa_cons (pv 1) (pa_cons (pe_bltn (v := .ty "tuple") (u := .type "tuple") (by rfl) n_tuple (by decide +kernel) rfl) pa_nil))))) (pw_or1 (pt_cmpR (op_neS S hr.units) (pe_callB (call_lenS S) (by rfl) n_len (by decide +kernel) (pa_cons (pv 1) pa_nil)) pe_int (nomark _))))) (pss_one (ps_ret pe_bl)) pss_nil) (pss_one (ps_ret (pe_and (pe_call c_is_standing.ok (hr.mono (by decide)) (by rfl) c_is_standing.g c_is_standing.kp c_is_standing.b .nil pass0 (pa_cons (pv 0) (pa_cons (pe_ix (ix_S S (hu9 hr)) (pv 1) pe_int (fun _ _ => rfl)) pa_nil))) (pe_one (pe_callB (call_isiS S) (by rfl) n_isinstance (by decide +kernel) (pa_cons (pe_ix (ix_S S (hu9 hr)) (pv 1) pe_int (fun _ _ => rfl)) (pa_cons (pe_bltn (v := .ty "bool") (u := .type "bool") (by rfl) n_bool (by decide +kernel) rfl) pa_nil)))))))), fn_run (N := ["way", "place"]) (m := mb_is_place) ?_ h⟩
  exact (ss_seq (ss_if (st_or (st_not (st_tru (se_isi (.ty "tuple") isT_ty se_var))) (st_test (se_op vo_ne (se_cb vc_len (sa_cons se_var sa_nil)) se_int))) (ss_ret se_bl) ss_next) (ss_ret (se_andV (se_callT (sa_cons se_var (sa_cons (se_op vo_ixX se_var se_int) sa_nil))) (se_isi (.ty "bool") isT_ty (se_op vo_ixX se_var se_int)))))
theorem bd_is_place {f : Addr} {fd : FuncData} (F : Fun S.K "is_place" "is_place" s_is_place f fd) : Binds S.K fd ["way", "place"] [] := F.binds (ps := ["way", "place"]) fun _ _ _ _ _ _ us hl => match us, hl with | [_, _], _ => rfl
theorem ok_Swelling_falls {f : Addr} {fd : FuncData} {fk_Reader_moves : Addr} {fdk_Reader_moves : FuncData} {fc_weight : Addr} {fdc_weight : FuncData} (F : Fun S.K "_falls" "Swelling._falls" s_Swelling_falls f fd) (n_all : mg "all" = none) (f_heights : Fld S "heights" [(1, 3)]) (k_Reader_moves : Met S mg base 0 "moves" 5 ["self", "place"] 2 m_Reader_moves fk_Reader_moves fdk_Reader_moves) (c_weight : Cal S mg base "weight" 1 ["rate", "given", "least"] 3 m_weight fc_weight fdc_weight) (f_rate : Fld S "rate" [(1, 0)]) : FnOk S.P S.w S.K mg base CX0 6 f fd ["self", "reader", "least"] (spM S 3 m_Swelling_falls) := by
  refine F.ok sc_Swelling_falls (fun vs H Q E h => h.1) (fun cdv A outer s H vs Q E hr h => ?_)
  have nd := sc_Swelling_falls.nd
  refine ⟨_, (pss_one (ps_ret (pe_callB (call_allS S rfl) (by rfl) n_all (by decide +kernel) (pa_cons (pe_lc2 (own := [("place", 3), ("_", 4), ("behind", 5), ("given", 6)]) (vs1 := [4, 5, 6]) (g := (gName 3)) (g1 := (gTup S.K 3 (gCons (gName 4) (gCons (gName 5) (gCons (gName 6) gNil))))) (by rfl) nd (pi_anyS S (pe_fldS S (pv 0))) (blkOk_by (own := [("place", 3), ("_", 4), ("behind", 5), ("given", 6)]) (N := ["self", "reader", "least", "place", "_", "behind", "given"]) (sc := defScope s_Swelling_falls) (by decide +kernel)) (by decide) (fun _ _ _ _ _ => (pg_name (i := 3) nd rfl (Or.inl rfl))) (fun _ _ _ _ _ => pts_nil) (fun _ _ _ _ _ => (pi_anyS S (pe_meth (pv 1) k_Reader_moves.cl k_Reader_moves.mt k_Reader_moves.ok (hr.mono (by decide)) k_Reader_moves.b .nil pass0 (pa_cons (pv 3) pa_nil)))) (fun _ _ _ _ _ => (pg_tup rfl (pgs_cons (pg_name (i := 4) nd rfl (Or.inl rfl)) (pgs_cons (pg_name (i := 5) nd rfl (Or.inl rfl)) (pgs_cons (pg_name (i := 6) nd rfl (Or.inl rfl)) pgs_nil))))) (fun _ _ _ _ _ => pts_nil) (fun _ _ _ _ _ => (pe_cmpR op_le (pe_op (op_addS S) (pe_ix (ix_S S (hu9 hr)) (pe_fldS S (pv 0)) (pv 5) (fun _ _ => rfl)) (pe_call c_weight.ok (hr.mono (by decide)) (by rfl) c_weight.g c_weight.kp c_weight.b .nil pass0 (pa_cons (pe_fldS S (pv 0)) (pa_cons (pv 6) (pa_cons (pv 2) pa_nil))))) (pe_ix (ix_S S (hu9 hr)) (pe_fldS S (pv 0)) (pv 3) (fun _ _ => rfl)) (nomark _)))) pa_nil)))), fn_run (N := ["self", "reader", "least", "place", "_", "behind", "given"]) (m := mb_Swelling_falls) ?_ h⟩
  exact (ss_ret (se_cb vc_all (sa_cons (se_lc2 (vs := [3, 4, 5, 6]) (vs1 := [4, 5, 6]) (si_any (se_fld f_heights se_var)) sg_name ((gm_name (by decide))).w st_yes (si_any (se_methU k_Reader_moves.nm se_var (sa_cons se_var sa_nil))) (sg_tup (sgs_cons sg_name (sgs_cons sg_name (sgs_cons sg_name sgs_nil)))) ((gm_tup (gms_cons (gm_name (by decide)) (gms_cons (gm_name (by decide)) (gms_cons (gm_name (by decide)) gms_nil))))).w st_yes (se_op vo_cmp (se_op vo_add (se_op vo_ixX (se_fld f_heights se_var) se_var) (se_callT (sa_cons (se_fld f_rate se_var) (sa_cons se_var (sa_cons se_var sa_nil))))) (se_op vo_ixX (se_fld f_heights se_var) se_var))) sa_nil)))
theorem bd_Swelling_falls {f : Addr} {fd : FuncData} (F : Fun S.K "_falls" "Swelling._falls" s_Swelling_falls f fd) : Binds S.K fd ["self", "reader", "least"] [] := F.binds (ps := ["self", "reader", "least"]) fun _ _ _ _ _ _ us hl => match us, hl with | [_, _, _], _ => rfl
theorem ok_Swelling_init {f : Addr} {fd : FuncData} (F : Fun S.K "__init__" "Swelling.__init__" s_Swelling_init f fd) (f_rate : Fld S "rate" [(1, 0)]) (f_ahead : Fld S "ahead" [(1, 1)]) (f_ring : Fld S "ring" [(1, 2)]) (f_heights : Fld S "heights" [(1, 3)]) : FnOk S.P S.w S.K mg base CX0 1 f fd ["self", "rate", "ahead", "ring", "heights"] (spM S 5 m_Swelling_init) := by
  refine F.ok sc_Swelling_init (fun vs H Q E h => h.1) (fun cdv A outer s H vs Q E hr h => ?_)
  have nd := sc_Swelling_init.nd
  refine ⟨_, (pss_cons (ps_fld (pv 0) (pv 1) rfl) (pss_cons (ps_fld (pv 0) (pv 2) rfl) (pss_cons (ps_fld (pv 0) (pv 3) rfl) (pss_one (ps_fld (pv 0) (pe_dcN (own := [("place", 5)]) (g := (gName 5)) (hu9 hr) (by rfl) nd (pi_anyS S (pv 4)) (blkOk_by (own := [("place", 5)]) (N := ["self", "rate", "ahead", "ring", "heights", "place"]) (sc := defScope s_Swelling_init) (by decide +kernel)) (fun _ _ _ _ _ => (pg_name (i := 5) nd rfl (Or.inl rfl))) (fun _ _ _ _ _ => pts_nil) (fun _ _ _ _ _ => (pv 5)) (fun _ _ _ _ _ => (pe_ix (ix_S S (hu9 hr)) (pv 4) (pv 5) (fun _ _ => rfl)))) rfl))))), fn_run (N := ["self", "rate", "ahead", "ring", "heights", "place"]) (m := mb_Swelling_init) ?_ h⟩
  exact (ss_seq (ss_fld f_rate se_var se_var) (ss_seq (ss_fld f_ahead se_var se_var) (ss_seq (ss_fld f_ring se_var se_var) (ss_fld f_heights se_var (se_isoM 4 (se_dcM (vs := [5]) (si_any se_var) sg_name (gw_name (by decide)) st_yes se_var (se_op vo_ixX se_var se_var)))))))
theorem bd_Swelling_init {f : Addr} {fd : FuncData} (F : Fun S.K "__init__" "Swelling.__init__" s_Swelling_init f fd) : Binds S.K fd ["self", "rate", "ahead", "ring", "heights"] [] := F.binds (ps := ["self", "rate", "ahead", "ring", "heights"]) fun _ _ _ _ _ _ us hl => match us, hl with | [_, _, _, _, _], _ => rfl
theorem ok__lift {f : Addr} {fd : FuncData} {fk_Reader_moves : Addr} {fdk_Reader_moves : FuncData} {fc_weight : Addr} {fdc_weight : FuncData} (F : Fun S.K "_lift" "_lift" s__lift f fd) (n_list : mg "list" = none) (k_Reader_moves : Met S mg base 0 "moves" 5 ["self", "place"] 2 m_Reader_moves fk_Reader_moves fdk_Reader_moves) (c_weight : Cal S mg base "weight" 1 ["rate", "given", "least"] 3 m_weight fc_weight fdc_weight) : FnOk S.P S.w S.K mg base CX0 6 f fd ["reader", "heights", "chosen", "rate", "least"] (spM S 5 m__lift) := by
  refine F.ok sc__lift (fun vs H Q E h => h.1) (fun cdv A outer s H vs Q E hr h => ?_)
  have nd := sc__lift.nd
  refine ⟨_, (pss_cons (ps_set (i := 5) nd rfl (Or.inl rfl) pe_non) (pss_cons (ps_for PassesOwn.never rfl (pi_anyS S (pe_callTy (call_listYS S rfl) (by rfl) n_list (by decide +kernel) (pa_cons (pv 1) pa_nil))) (pg_name (i := 6) nd rfl (Or.inl rfl)) (pss_one (ps_for PassesOwn.never rfl (pi_anyS S (pe_meth (pv 0) k_Reader_moves.cl k_Reader_moves.mt k_Reader_moves.ok (hr.mono (by decide)) k_Reader_moves.b .nil pass0 (pa_cons (pv 6) pa_nil))) (pg_name (i := 7) nd rfl (Or.inl rfl)) (pss_cons (ps_set (i := 8) nd rfl (Or.inl rfl) (pe_op (op_addS S) (pe_ix (ix_S S (hu9 hr)) (pv 1) (pe_ix (ix_S S (hu9 hr)) (pv 7) pe_int (fun _ _ => rfl)) (fun _ _ => rfl)) (pe_call c_weight.ok (hr.mono (by decide)) (by rfl) c_weight.g c_weight.kp c_weight.b .nil pass0 (pa_cons (pv 3) (pa_cons (pe_ix (ix_S S (hu9 hr)) (pv 7) pe_int (fun _ _ => rfl)) (pa_cons (pv 4) pa_nil)))))) (pss_one (ps_if (pt_cmpR op_gt (pv 8) (pe_ix (ix_S S (hu9 hr)) (pv 1) (pv 6) (fun _ _ => rfl)) (nomark _)) (pss_cons (ps_asg (pv 8) (pg_sub (pv 1) (pv 6) (set_S S (hu9 hr)))) (pss_cons (ps_asg (pv 7) (pg_sub (pv 2) (pv 6) (set_S S (hu9 hr)))) (pss_one (ps_set (i := 5) nd rfl (Or.inl rfl) (pv 6))))) pss_nil)))))) (pss_one (ps_ret (pv 5))))), fn_run (N := ["reader", "heights", "chosen", "rate", "least", "raised", "place", "move", "height"]) (m := mb__lift) ?_ h⟩
  exact (ss_seq (ss_asg se_non sg_name) (ss_seq (ss_for (si_any (se_cb vc_listY (sa_cons se_var sa_nil))) sg_name (ss_for (si_any (se_methU k_Reader_moves.nm se_var (sa_cons se_var sa_nil))) sg_name (ss_seq (ss_asg (se_op vo_add (se_op vo_ixX se_var (se_op vo_ixX se_var se_int)) (se_callT (sa_cons se_var (sa_cons (se_op vo_ixX se_var se_int) (sa_cons se_var sa_nil))))) sg_name) (ss_if (st_test (se_op vo_cmp se_var (se_op vo_ixX se_var se_var))) (ss_seq (ss_asg se_var (sg_sub vst_X se_var se_var)) (ss_seq (ss_asg se_var (sg_sub vst_X se_var se_var)) (ss_asg se_var sg_name))) ss_next)))) (ss_ret se_var)))
theorem bd__lift {f : Addr} {fd : FuncData} (F : Fun S.K "_lift" "_lift" s__lift f fd) : Binds S.K fd ["reader", "heights", "chosen", "rate", "least"] [] := F.binds (ps := ["reader", "heights", "chosen", "rate", "least"]) fun _ _ _ _ _ _ us hl => match us, hl with | [_, _, _, _, _], _ => rfl
theorem ok__check_short {f : Addr} {fd : FuncData} {fc__is_short : Addr} {fdc__is_short : FuncData} (F : Fun S.K "_check_short" "_check_short" s__check_short f fd) (c__is_short : Cal S mg base "_is_short" 2 ["text"] 1 m__is_short fc__is_short fdc__is_short) : FnOk S.P S.w S.K mg base CX0 3 f fd ["text"] (spM S 1 m__check_short) := by
  refine F.ok sc__check_short (fun vs H Q E h => h.1) (fun cdv A outer s H vs Q E hr h => ?_)
  have nd := sc__check_short.nd
  refine ⟨_, (pss_one (ps_if (pt_not (pt_truS S (pe_call c__is_short.ok (hr.mono (by decide)) (by rfl) c__is_short.g c__is_short.kp c__is_short.b .nil pass0 (pa_cons (pv 0) pa_nil)))) (pss_one ps_never) pss_nil)), fn_run (N := ["text"]) (m := mb__check_short) ?_ h⟩
  exact (ss_if (st_not (st_tru (se_callT (sa_cons se_var sa_nil)))) ss_bad ss_next)
theorem bd__check_short {f : Addr} {fd : FuncData} (F : Fun S.K "_check_short" "_check_short" s__check_short f fd) : Binds S.K fd ["text"] [] := F.binds (ps := ["text"]) fun _ _ _ _ _ _ us hl => match us, hl with | [_], _ => rfl
theorem ok_ChangeWalk_steps {f : Addr} {fd : FuncData} {fk_AimWalk_steps : Addr} {fdk_AimWalk_steps : FuncData} (F : Fun S.K "steps" "ChangeWalk.steps" s_ChangeWalk_steps f fd) (k_AimWalk_steps : Met S mg base 2 "steps" 6 ["self", "node"] 2 m_AimWalk_steps fk_AimWalk_steps fdk_AimWalk_steps) (f_aim : Fld S "aim" [(3, 0)]) (n_len : mg "len" = none) (f_text : Fld S "text" [(3, 1), (4, 0)]) : FnOk S.P S.w S.K mg base CX0 7 f fd ["self", "node"] (spM S 2 m_ChangeWalk_steps) := by
  refine F.ok sc_ChangeWalk_steps (fun vs H Q E h => h.1) (fun cdv A outer s H vs Q E hr h => ?_)
  have nd := sc_ChangeWalk_steps.nd
  refine ⟨_, (pss_cons (ps_asg (pv 1) (pg_tup rfl (pgs_cons (pg_name (i := 2) nd rfl (Or.inr rfl)) (pgs_cons (pg_name (i := 3) nd rfl (Or.inl rfl)) (pgs_cons (pg_name (i := 4) nd rfl (Or.inl rfl)) pgs_nil))))) (pss_cons (ps_set (i := 5) nd rfl (Or.inl rfl) (pe_meth (pe_fldS S (pv 0)) k_AimWalk_steps.cl k_AimWalk_steps.mt k_AimWalk_steps.ok (hr.mono (by decide)) k_AimWalk_steps.b .nil pass0 (pa_cons (pe_tup (pa_cons (pv 3) (pa_cons (pv 4) pa_nil))) pa_nil))) (pss_cons (ps_setLc (i := 6) (own := [("_", 9), ("sign", 10), ("behind", 7), ("done_behind", 8)]) (g := (gTup S.K 3 (gCons (gTup S.K 2 (gCons (gName 7) (gCons (gName 8) gNil))) (gCons (gName 9) (gCons (gName 10) gNil))))) (by rfl) nd rfl rfl (sw_true rfl rfl rfl (by decide +kernel)) (pi_anyS S (pv 5)) (blkOk_by (own := [("_", 9), ("sign", 10), ("behind", 7), ("done_behind", 8)]) (N := ["self", "node", "at", "place", "done", "fine", "found", "behind", "done_behind", "_", "sign"]) (sc := defScope s_ChangeWalk_steps) (by decide +kernel)) (fun _ _ _ _ _ => (pg_tup rfl (pgs_cons (pg_tup rfl (pgs_cons (pg_name (i := 7) nd rfl (Or.inl rfl)) (pgs_cons (pg_name (i := 8) nd rfl (Or.inl rfl)) pgs_nil))) (pgs_cons (pg_name (i := 9) nd rfl (Or.inl rfl)) (pgs_cons (pg_name (i := 10) nd rfl (Or.inl rfl)) pgs_nil))))) (fun _ _ _ _ _ => pts_nil) (fun _ _ _ _ _ => (pe_tup (pa_cons (pe_tup (pa_cons (pv 2) (pa_cons (pv 7) (pa_cons (pv 8) pa_nil)))) (pa_cons pe_int (pa_cons (pv 10) pa_nil)))))) (pss_cons (ps_if (pt_cmpR op_lt (pv 2) (pe_callB (call_lenS S) (by rfl) n_len (by decide +kernel) (pa_cons (pe_fldS S (pv 0)) pa_nil)) (nomark _)) (pss_cons (ps_expr (pe_bm PySem.F.plainAttrs_list PySem.F.slot_list_append PySem.F.type_list_append mt_append (pv 6) (pa_cons (pe_tup (pa_cons (pe_tup (pa_cons (pe_op (op_addS S) (pv 2) pe_int) (pa_cons (pv 3) (pa_cons (pv 4) pa_nil)))) (pa_cons pe_int (pa_cons pe_str pa_nil)))) pa_nil))) (pss_one (ps_for PassesOwn.never rfl (pi_anyS S (pv 5)) (pg_tup rfl (pgs_cons (pg_tup rfl (pgs_cons (pg_name (i := 7) nd rfl (Or.inl rfl)) (pgs_cons (pg_name (i := 8) nd rfl (Or.inl rfl)) pgs_nil))) (pgs_cons (pg_name (i := 9) nd rfl (Or.inl rfl)) (pgs_cons (pg_name (i := 10) nd rfl (Or.inl rfl)) pgs_nil)))) (pss_one (ps_expr (pe_bm PySem.F.plainAttrs_list PySem.F.slot_list_append PySem.F.type_list_append mt_append (pv 6) (pa_cons (pe_tup (pa_cons (pe_tup (pa_cons (pe_op (op_addS S) (pv 2) pe_int) (pa_cons (pv 7) (pa_cons (pv 8) pa_nil)))) (pa_cons (pe_ifExp (pt_cmpR (op_eqS S hr.units) (pv 10) (pe_ix (ix_S S (hu9 hr)) (pe_fldS S (pv 0)) (pv 2) (fun _ _ => rfl)) (nomark _)) pe_int pe_int) (pa_cons (pv 10) pa_nil)))) pa_nil))))))) pss_nil) (pss_one (ps_ret (pv 6))))))), fn_run (N := ["self", "node", "at", "place", "done", "fine", "found", "behind", "done_behind", "_", "sign"]) (m := mb_ChangeWalk_steps) ?_ h⟩
  exact (ss_seq (ss_asg se_var (sg_tup (sgs_cons sg_name (sgs_cons sg_name (sgs_cons sg_name sgs_nil))))) (ss_seq (ss_asg (se_methU k_AimWalk_steps.nm (se_fld f_aim se_var) (sa_cons (se_tup (sa_cons se_var (sa_cons se_var sa_nil))) sa_nil)) sg_name) (ss_seq (ss_asg (se_lcM (vs := [9, 10, 7, 8]) (si_any se_var) (sg_tup (sgs_cons (sg_tup (sgs_cons sg_name (sgs_cons sg_name sgs_nil))) (sgs_cons sg_name (sgs_cons sg_name sgs_nil)))) ((gm_tup (gms_cons (gm_tup (gms_cons (gm_name (by decide)) (gms_cons (gm_name (by decide)) gms_nil))) (gms_cons (gm_name (by decide)) (gms_cons (gm_name (by decide)) gms_nil))))).w st_yes (se_tup (sa_cons (se_tup (sa_cons se_var (sa_cons se_var (sa_cons se_var sa_nil)))) (sa_cons se_int (sa_cons se_var sa_nil))))) sg_name) (ss_seq (ss_if (st_test (se_op vo_cmp se_var (se_cb vc_len (sa_cons (se_fld f_text se_var) sa_nil)))) (ss_seq (ss_drop (se_app se_var (se_tup (sa_cons (se_tup (sa_cons (se_op vo_add se_var se_int) (sa_cons se_var (sa_cons se_var sa_nil)))) (sa_cons se_int (sa_cons (se_strL) sa_nil)))))) (ss_for (si_any se_var) (sg_tup (sgs_cons (sg_tup (sgs_cons sg_name (sgs_cons sg_name sgs_nil))) (sgs_cons sg_name (sgs_cons sg_name sgs_nil)))) (ss_drop (se_app se_var (se_tup (sa_cons (se_tup (sa_cons (se_op vo_add se_var se_int) (sa_cons se_var (sa_cons se_var sa_nil)))) (sa_cons (se_if (st_test (se_op vo_eq se_var (se_op vo_ixX (se_fld f_text se_var) se_var))) se_int se_int) (sa_cons se_var sa_nil)))))))) ss_next) (ss_ret se_var)))))
theorem bd_ChangeWalk_steps {f : Addr} {fd : FuncData} (F : Fun S.K "steps" "ChangeWalk.steps" s_ChangeWalk_steps f fd) : Binds S.K fd ["self", "node"] [] := F.binds (ps := ["self", "node"]) fun _ _ _ _ _ _ us hl => match us, hl with | [_, _], _ => rfl
theorem ok_search {f : Addr} {fd : FuncData} {fk_AimWalk_first : Addr} {fdk_AimWalk_first : FuncData} {fk_AimWalk_is_fine : Addr} {fdk_AimWalk_is_fine : FuncData} {fk_AimWalk_signs : Addr} {fdk_AimWalk_signs : FuncData} {fk_AimWalk_behind : Addr} {fdk_AimWalk_behind : FuncData} (F : Fun S.K "search" "search" s_search f fd) (k_AimWalk_first : Met S mg base 2 "first" 3 ["self"] 1 m_AimWalk_first fk_AimWalk_first fdk_AimWalk_first) (k_AimWalk_is_fine : Met S mg base 2 "is_fine" 6 ["self", "node"] 2 m_AimWalk_is_fine fk_AimWalk_is_fine fdk_AimWalk_is_fine) (k_AimWalk_signs : Met S mg base 2 "signs" 7 ["self", "node"] 2 m_AimWalk_signs fk_AimWalk_signs fdk_AimWalk_signs) (k_AimWalk_behind : Met S mg base 2 "behind" 7 ["self", "node", "sign"] 3 m_AimWalk_behind fk_AimWalk_behind fdk_AimWalk_behind) (n_list : mg "list" = none) : FnOk S.P S.w S.K mg base CX0 8 f fd ["walk"] (spM S 1 m_search) := by
  refine F.ok sc_search (fun vs H Q E h => h.1) (fun cdv A outer s H vs Q E hr h => ?_)
  have nd := sc_search.nd
  refine ⟨_, (pss_cons (ps_set (i := 1) nd rfl (Or.inl rfl) (pe_dispS S (hu9 hr) (pe_meth0 (pv 0) k_AimWalk_first.cl k_AimWalk_first.mt k_AimWalk_first.ok (hr.mono (by decide)) k_AimWalk_first.b .nil pass0) pe_bl)) (pss_cons (ps_set (i := 2) nd rfl (Or.inl rfl) (pe_lst (pa_cons (pe_tup (pa_cons (pe_meth0 (pv 0) k_AimWalk_first.cl k_AimWalk_first.mt k_AimWalk_first.ok (hr.mono (by decide)) k_AimWalk_first.b .nil pass0) (pa_cons pe_str pa_nil))) pa_nil))) (pss_cons (ps_while PassesOwn.never (pt_truS S (pv 2)) (pss_cons (ps_set (i := 3) nd rfl (Or.inl rfl) (pe_lst pa_nil)) (pss_cons (ps_for PassesOwn.never rfl (pi_anyS S (pv 2)) (pg_tup rfl (pgs_cons (pg_name (i := 4) nd rfl (Or.inl rfl)) (pgs_cons (pg_name (i := 5) nd rfl (Or.inl rfl)) pgs_nil))) (pss_cons (ps_if (pt_not (pt_truS S (pe_meth (pv 0) k_AimWalk_is_fine.cl k_AimWalk_is_fine.mt k_AimWalk_is_fine.ok (hr.mono (by decide)) k_AimWalk_is_fine.b .nil pass0 (pa_cons (pv 4) pa_nil)))) (pss_one (ps_ret (pe_tup (pa_cons pe_non (pa_cons (pv 5) pa_nil))))) pss_nil) (pss_one (ps_for PassesOwn.never rfl (pi_anyS S (pe_meth (pv 0) k_AimWalk_signs.cl k_AimWalk_signs.mt k_AimWalk_signs.ok (hr.mono (by decide)) k_AimWalk_signs.b .nil pass0 (pa_cons (pv 4) pa_nil))) (pg_name (i := 6) nd rfl (Or.inl rfl)) (pss_cons (ps_set (i := 7) nd rfl (Or.inl rfl) (pe_meth (pv 0) k_AimWalk_behind.cl k_AimWalk_behind.mt k_AimWalk_behind.ok (hr.mono (by decide)) k_AimWalk_behind.b .nil pass0 (pa_cons (pv 4) (pa_cons (pv 6) pa_nil)))) (pss_one (ps_if (pt_cmpR (op_niYS S (hu65 hr)) (pv 7) (pv 1) rfl) (pss_cons (ps_asg pe_bl (pg_sub (pv 1) (pv 7) (set_S S (hu9 hr)))) (pss_one (ps_expr (pe_bm PySem.F.plainAttrs_list PySem.F.slot_list_append PySem.F.type_list_append mt_append (pv 3) (pa_cons (pe_tup (pa_cons (pv 7) (pa_cons (pe_op (op_addS S) (pv 5) (pv 6)) pa_nil))) pa_nil))))) pss_nil))))))) (pss_one (ps_set (i := 2) nd rfl (Or.inl rfl) (pv 3)))))) (pss_one (ps_ret (pe_tup (pa_cons (pe_callTy (call_listYS S rfl) (by rfl) n_list (by decide +kernel) (pa_cons (pv 1) pa_nil)) (pa_cons pe_non pa_nil)))))))), fn_run (N := ["walk", "found", "level", "longer", "node", "text", "sign", "behind"]) (m := mb_search) ?_ h⟩
  exact (ss_seq (ss_asg (se_dispM (se_methU k_AimWalk_first.nm se_var sa_nil) se_bl) sg_name) (ss_seq (ss_asg (se_lstM (sa_cons (se_tup (sa_cons (se_methU k_AimWalk_first.nm se_var sa_nil) (sa_cons (se_strL) sa_nil))) sa_nil)) sg_name) (ss_seq (ss_while (st_tru se_var) (ss_seq (ss_asg (se_lstM sa_nil) sg_name) (ss_seq (ss_for (si_any se_var) (sg_tup (sgs_cons sg_name (sgs_cons sg_name sgs_nil))) (ss_seq (ss_if (st_not (st_tru (se_methU k_AimWalk_is_fine.nm se_var (sa_cons se_var sa_nil)))) (ss_ret (se_tup (sa_cons se_non (sa_cons se_var sa_nil)))) ss_next) (ss_for (si_any (se_methU k_AimWalk_signs.nm se_var (sa_cons se_var sa_nil))) sg_name (ss_seq (ss_asg (se_methU k_AimWalk_behind.nm se_var (sa_cons se_var (sa_cons se_var sa_nil))) sg_name) (ss_if (st_test (se_op vo_niY se_var se_var)) (ss_seq (ss_asg se_bl (sg_sub vst_X se_var se_var)) (ss_drop (se_app se_var (se_tup (sa_cons se_var (sa_cons (se_op vo_add se_var se_var) sa_nil)))))) ss_next))))) (ss_asg se_var sg_name)))) (ss_ret (se_tup (sa_cons (se_cb vc_listY (sa_cons se_var sa_nil)) (sa_cons se_non sa_nil)))))))
theorem bd_search {f : Addr} {fd : FuncData} (F : Fun S.K "search" "search" s_search f fd) : Binds S.K fd ["walk"] [] := F.binds (ps := ["walk"]) fun _ _ _ _ _ _ us hl => match us, hl with | [_], _ => rfl
theorem ok_law {f : Addr} {fd : FuncData} {fc__law_rates_right : Addr} {fdc__law_rates_right : FuncData} {fc__law_fitted_right : Addr} {fdc__law_fitted_right : FuncData} (F : Fun S.K "law" "law" s_law f fd) (n_int : mg "int" = none) (n_sum : mg "sum" = none) (n_abs : mg "abs" = none) (c__law_rates_right : Cal S mg base "_law_rates_right" 11 [] 0 m__law_rates_right fc__law_rates_right fdc__law_rates_right) (c__law_fitted_right : Cal S mg base "_law_fitted_right" 12 [] 0 m__law_fitted_right fc__law_fitted_right fdc__law_fitted_right) : FnOk S.P S.w S.K mg base CX0 13 f fd ["script"] (spM S 1 m_law) := by
  refine F.ok sc_law (fun vs H Q E h => h.1) (fun cdv A outer s H vs Q E hr h => ?_)
  have nd := sc_law.nd
  refine ⟨_, (pss_one (ps_ret (pe_ifExp (pt_cmpR (op_eqS S hr.units) (pe_op op_mod (pe_callTy call_intR (by rfl) n_int (by decide +kernel) (pa_cons (pe_callB (call_sumS S rfl) (by rfl) n_sum (by decide +kernel) (pa_cons (pe_lc (own := [("one", 1)]) (g := (gName 1)) (by rfl) nd (pi_anyS S (pe_slice (sl_S S) (pv 0) po_none (po_some pe_int))) (blkOk_by (own := [("one", 1)]) (N := ["script", "one"]) (sc := defScope s_law) (by decide +kernel)) (fun _ _ _ _ _ => (pg_name (i := 1) nd rfl (Or.inl rfl))) (fun _ _ _ _ _ => pts_nil) (fun _ _ _ _ _ => (pe_callB call_absR (by rfl) n_abs (by decide +kernel) (pa_cons (pv 1) pa_nil)))) pa_nil)) pa_nil)) pe_int) pe_int (nomark _)) (pe_call0 c__law_rates_right.ok (hr.mono (by decide)) (by rfl) c__law_rates_right.g c__law_rates_right.kp c__law_rates_right.b .nil pass0 ) (pe_call0 c__law_fitted_right.ok (hr.mono (by decide)) (by rfl) c__law_fitted_right.g c__law_fitted_right.kp c__law_fitted_right.b .nil pass0 )))), fn_run (N := ["script", "one"]) (m := mb_law) ?_ h⟩
  exact (ss_ret (se_if (st_test (se_op vo_eq (se_op vo_mod (se_cb vc_int (sa_cons (se_cb vc_sum (sa_cons (se_lc (vs := [1]) (si_any (se_sl se_var so_none (so_some se_int))) sg_name (gw_name (by decide)) st_yes (se_cb vc_abs (sa_cons se_var sa_nil))) sa_nil)) sa_nil)) se_int) se_int)) (se_callT sa_nil) (se_callT sa_nil)))
theorem bd_law {f : Addr} {fd : FuncData} (F : Fun S.K "law" "law" s_law f fd) : Binds S.K fd ["script"] [] := F.binds (ps := ["script"]) fun _ _ _ _ _ _ us hl => match us, hl with | [_], _ => rfl
end
end K50
namespace K50
open PySem PySem.Spec PyProof.Rows L2 RZ PpSet Rm
section
variable {S : Se} {mg : Str → Option Value} {base : Heap} {ag_CONVERSIONS ag_KINDS ag_SIGNS ag__HELD ag__MADE_OF ag__PLAIN ag__REPLACED ag_behind : Addr}
theorem ok_is_way {f : Addr} {fd : FuncData} {fc_is_conversion : Addr} {fdc_is_conversion : FuncData} (F : Fun S.K "is_way" "is_way" s_is_way f fd) (n_isinstance : mg "isinstance" = none) (n_tuple : mg "tuple" = none) (n_len : mg "len" = none) (i_LONGEST : ∃ t, mg "LONGEST" = some (.int 6 t)) (n_all : mg "all" = none) (c_is_conversion : Cal S mg base "is_conversion" 1 ["word"] 1 m_is_conversion fc_is_conversion fdc_is_conversion) : FnOk S.P S.w S.K mg base CX0 2 f fd ["way"] (spM S 1 m_is_way) := by
  refine F.ok sc_is_way (fun vs H Q E h => h.1) (fun cdv A outer s H vs Q E hr h => ?_)
  have nd := sc_is_way.nd
  refine ⟨_, (pss_one (ps_ret (pe_and (pe_callB (call_isiS S) (by rfl) n_isinstance (by decide +kernel) (pa_cons (pv 0) (pa_cons (pe_bltn (v := .ty "tuple") (u := .type "tuple") (by rfl) n_tuple (by decide +kernel) rfl) pa_nil))) (pe_and (pe_cmpR op_le (pe_callB (call_lenS S) (by rfl) n_len (by decide +kernel) (pa_cons (pv 0) pa_nil)) (pe_glob (v := .int 6) (by rfl) i_LONGEST.choose_spec ⟨_, rfl⟩) (nomark _)) (pe_one (pe_callB (call_allS S rfl) (by rfl) n_all (by decide +kernel) (pa_cons (pe_lc (own := [("word", 1)]) (g := (gName 1)) (by rfl) nd (pi_anyS S (pv 0)) (blkOk_by (own := [("word", 1)]) (N := ["way", "word"]) (sc := defScope s_is_way) (by decide +kernel)) (fun _ _ _ _ _ => (pg_name (i := 1) nd rfl (Or.inl rfl))) (fun _ _ _ _ _ => pts_nil) (fun _ _ _ _ _ => (pe_call c_is_conversion.ok (hr.mono (by decide)) (by rfl) c_is_conversion.g c_is_conversion.kp c_is_conversion.b .nil pass0 (pa_cons (pv 1) pa_nil)))) pa_nil))))))), fn_run (N := ["way", "word"]) (m := mb_is_way) ?_ h⟩
  exact (ss_ret (se_andV (se_isi (.ty "tuple") isT_ty se_var) (se_andV (se_op vo_cmp (se_cb vc_len (sa_cons se_var sa_nil)) se_int) (se_cb vc_all (sa_cons (se_lc (vs := [1]) (si_any se_var) sg_name (gw_name (by decide)) st_yes (se_callT (sa_cons se_var sa_nil))) sa_nil)))))
theorem bd_is_way {f : Addr} {fd : FuncData} (F : Fun S.K "is_way" "is_way" s_is_way f fd) : Binds S.K fd ["way"] [] := F.binds (ps := ["way"]) fun _ _ _ _ _ _ us hl => match us, hl with | [_], _ => rfl
theorem ok_Reader_first {f : Addr} {fd : FuncData} {fc_starting : Addr} {fdc_starting : FuncData} (F : Fun S.K "first" "Reader.first" s_Reader_first f fd) (c_starting : Cal S mg base "starting" 1 ["way"] 1 m_starting fc_starting fdc_starting) (f_way : Fld S "way" [(0, 0)]) : FnOk S.P S.w S.K mg base CX0 2 f fd ["self"] (spM S 1 m_Reader_first) := by
  refine F.ok sc_Reader_first (fun vs H Q E h => h.1) (fun cdv A outer s H vs Q E hr h => ?_)
  have nd := sc_Reader_first.nd
  refine ⟨_, (pss_one (ps_ret (pe_tup (pa_cons (pe_call c_starting.ok (hr.mono (by decide)) (by rfl) c_starting.g c_starting.kp c_starting.b .nil pass0 (pa_cons (pe_fldS S (pv 0)) pa_nil)) (pa_cons pe_bl pa_nil))))), fn_run (N := ["self"]) (m := mb_Reader_first) ?_ h⟩
  exact (ss_ret (se_tup (sa_cons (se_callT (sa_cons (se_fld f_way se_var) sa_nil)) (sa_cons se_bl sa_nil))))
theorem bd_Reader_first {f : Addr} {fd : FuncData} (F : Fun S.K "first" "Reader.first" s_Reader_first f fd) : Binds S.K fd ["self"] [] := F.binds (ps := ["self"]) fun _ _ _ _ _ _ us hl => match us, hl with | [_], _ => rfl
theorem ok_Reader_end {f : Addr} {fd : FuncData} {fc_ending : Addr} {fdc_ending : FuncData} (F : Fun S.K "end" "Reader.end" s_Reader_end f fd) (f__known_ends : Fld S "_known_ends" [(0, 3)]) (c_ending : Cal S mg base "ending" 3 ["way", "standing"] 2 m_ending fc_ending fdc_ending) (f_way : Fld S "way" [(0, 0)]) : FnOk S.P S.w S.K mg base CX0 4 f fd ["self", "place"] (spM S 2 m_Reader_end) := by
  refine F.ok sc_Reader_end (fun vs H Q E h => h.1) (fun cdv A outer s H vs Q E hr h => ?_)
  have nd := sc_Reader_end.nd
  refine ⟨_, (pss_cons (ps_if (pt_cmpR (op_niYS S (hu65 hr)) (pv 1) (pe_fldS S (pv 0)) rfl) (pss_one (ps_asg (pe_ifExp (pt_truS S (pe_ix (ix_S S (hu9 hr)) (pv 1) pe_int (fun _ _ => rfl))) pe_non (pe_call c_ending.ok (hr.mono (by decide)) (by rfl) c_ending.g c_ending.kp c_ending.b .nil pass0 (pa_cons (pe_fldS S (pv 0)) (pa_cons (pe_ix (ix_S S (hu9 hr)) (pv 1) pe_int (fun _ _ => rfl)) pa_nil)))) (pg_sub (pe_fldS S (pv 0)) (pv 1) (set_S S (hu9 hr))))) pss_nil) (pss_one (ps_ret (pe_ix (ix_S S (hu9 hr)) (pe_fldS S (pv 0)) (pv 1) (fun _ _ => rfl))))), fn_run (N := ["self", "place"]) (m := mb_Reader_end) ?_ h⟩
  exact (ss_seq (ss_if (st_test (se_op vo_niY se_var (se_fld f__known_ends se_var))) (ss_asg (se_if (st_tru (se_op vo_ixX se_var se_int)) se_non (se_callT (sa_cons (se_fld f_way se_var) (sa_cons (se_op vo_ixX se_var se_int) sa_nil)))) (sg_sub vst_X (se_fld f__known_ends se_var) se_var)) ss_next) (ss_ret (se_op vo_ixX (se_fld f__known_ends se_var) se_var)))
theorem bd_Reader_end {f : Addr} {fd : FuncData} (F : Fun S.K "end" "Reader.end" s_Reader_end f fd) : Binds S.K fd ["self", "place"] [] := F.binds (ps := ["self", "place"]) fun _ _ _ _ _ _ us hl => match us, hl with | [_, _], _ => rfl
theorem ok_Swelling_is_closed {f : Addr} {fd : FuncData} {fc_is_place : Addr} {fdc_is_place : FuncData} {fc_is_integer : Addr} {fdc_is_integer : FuncData} {fk_Reader_first : Addr} {fdk_Reader_first : FuncData} {fk_Reader_moves : Addr} {fdk_Reader_moves : FuncData} (F : Fun S.K "_is_closed" "Swelling._is_closed" s_Swelling_is_closed f fd) (n_all : mg "all" = none) (f_heights : Fld S "heights" [(1, 3)]) (c_is_place : Cal S mg base "is_place" 2 ["way", "place"] 2 m_is_place fc_is_place fdc_is_place) (f_way : Fld S "way" [(0, 0)]) (c_is_integer : Cal S mg base "is_integer" 1 ["number"] 1 m_is_integer fc_is_integer fdc_is_integer) (k_Reader_first : Met S mg base 0 "first" 2 ["self"] 1 m_Reader_first fk_Reader_first fdk_Reader_first) (k_Reader_moves : Met S mg base 0 "moves" 5 ["self", "place"] 2 m_Reader_moves fk_Reader_moves fdk_Reader_moves) : FnOk S.P S.w S.K mg base CX0 6 f fd ["self", "reader"] (spM S 2 m_Swelling_is_closed) := by
  refine F.ok sc_Swelling_is_closed (fun vs H Q E h => h.1) (fun cdv A outer s H vs Q E hr h => ?_)
  have nd := sc_Swelling_is_closed.nd
  refine ⟨_, (pss_cons (ps_if (pt_not (pt_truS S (pe_callB (call_allS S rfl) (by rfl) n_all (by decide +kernel) (pa_cons (pe_lc (own := [("place", 2)]) (g := (gName 2)) (by rfl) nd (pi_anyS S (pe_fldS S (pv 0))) (blkOk_by (own := [("place", 2)]) (N := ["self", "reader", "place", "_", "behind"]) (sc := defScope s_Swelling_is_closed) (by decide +kernel)) (fun _ _ _ _ _ => (pg_name (i := 2) nd rfl (Or.inl rfl))) (fun _ _ _ _ _ => pts_nil) (fun _ _ _ _ _ => (pe_and (pe_call c_is_place.ok (hr.mono (by decide)) (by rfl) c_is_place.g c_is_place.kp c_is_place.b .nil pass0 (pa_cons (pe_fldS S (pv 1)) (pa_cons (pv 2) pa_nil))) (pe_one (pe_call c_is_integer.ok (hr.mono (by decide)) (by rfl) c_is_integer.g c_is_integer.kp c_is_integer.b .nil pass0 (pa_cons (pe_ix (ix_S S (hu9 hr)) (pe_fldS S (pv 0)) (pv 2) (fun _ _ => rfl)) pa_nil)))))) pa_nil)))) (pss_one (ps_ret pe_bl)) pss_nil) (pss_cons (ps_if (pt_cmpR (op_niYS S (hu65 hr)) (pe_meth0 (pv 1) k_Reader_first.cl k_Reader_first.mt k_Reader_first.ok (hr.mono (by decide)) k_Reader_first.b .nil pass0) (pe_fldS S (pv 0)) rfl) (pss_one (ps_ret pe_bl)) pss_nil) (pss_one (ps_ret (pe_callB (call_allS S rfl) (by rfl) n_all (by decide +kernel) (pa_cons (pe_lc2 (own := [("place", 2), ("_", 3), ("behind", 4)]) (vs1 := [3, 4]) (g := (gName 2)) (g1 := (gTup S.K 3 (gCons (gName 3) (gCons (gName 4) (gCons (gName 3) gNil))))) (by rfl) nd (pi_anyS S (pe_fldS S (pv 0))) (blkOk_by (own := [("place", 2), ("_", 3), ("behind", 4)]) (N := ["self", "reader", "place", "_", "behind"]) (sc := defScope s_Swelling_is_closed) (by decide +kernel)) (by decide) (fun _ _ _ _ _ => (pg_name (i := 2) nd rfl (Or.inl rfl))) (fun _ _ _ _ _ => pts_nil) (fun _ _ _ _ _ => (pi_anyS S (pe_meth (pv 1) k_Reader_moves.cl k_Reader_moves.mt k_Reader_moves.ok (hr.mono (by decide)) k_Reader_moves.b .nil pass0 (pa_cons (pv 2) pa_nil)))) (fun _ _ _ _ _ => (pg_tup rfl (pgs_cons (pg_name (i := 3) nd rfl (Or.inl rfl)) (pgs_cons (pg_name (i := 4) nd rfl (Or.inl rfl)) (pgs_cons (pg_name (i := 3) nd rfl (Or.inl rfl)) pgs_nil))))) (fun _ _ _ _ _ => pts_nil) (fun _ _ _ _ _ => (pe_cmpR (op_inYS S (hu65 hr)) (pv 4) (pe_fldS S (pv 0)) rfl))) pa_nil)))))), fn_run (N := ["self", "reader", "place", "_", "behind"]) (m := mb_Swelling_is_closed) ?_ h⟩
  exact (ss_seq (ss_if (st_not (st_tru (se_cb vc_all (sa_cons (se_lc (vs := [2]) (si_any (se_fld f_heights se_var)) sg_name (gw_name (by decide)) st_yes (se_andV (se_callT (sa_cons (se_fld f_way se_var) (sa_cons se_var sa_nil))) (se_callT (sa_cons (se_op vo_ixX (se_fld f_heights se_var) se_var) sa_nil)))) sa_nil)))) (ss_ret se_bl) ss_next) (ss_seq (ss_if (st_test (se_op vo_niY (se_methU k_Reader_first.nm se_var sa_nil) (se_fld f_heights se_var))) (ss_ret se_bl) ss_next) (ss_ret (se_cb vc_all (sa_cons (se_lc2 (vs := [2, 3, 4]) (vs1 := [3, 4]) (si_any (se_fld f_heights se_var)) sg_name ((gm_name (by decide))).w st_yes (si_any (se_methU k_Reader_moves.nm se_var (sa_cons se_var sa_nil))) (sg_tup (sgs_cons sg_name (sgs_cons sg_name (sgs_cons sg_name sgs_nil)))) ((gm_tup (gms_cons (gm_name (by decide)) (gms_cons (gm_name (by decide)) (gms_cons (gm_name (by decide)) gms_nil))))).w st_yes (se_op vo_inY se_var (se_fld f_heights se_var))) sa_nil)))))
theorem bd_Swelling_is_closed {f : Addr} {fd : FuncData} (F : Fun S.K "_is_closed" "Swelling._is_closed" s_Swelling_is_closed f fd) : Binds S.K fd ["self", "reader"] [] := F.binds (ps := ["self", "reader"]) fun _ _ _ _ _ _ us hl => match us, hl with | [_, _], _ => rfl
theorem ok__ring_behind {f : Addr} {fd : FuncData} (F : Fun S.K "_ring_behind" "_ring_behind" s__ring_behind f fd)  : FnOk S.P S.w S.K mg base CX0 1 f fd ["chosen", "place"] (spM S 2 m__ring_behind) := by
  refine F.ok sc__ring_behind (fun vs H Q E h => h.1) (fun cdv A outer s H vs Q E hr h => ?_)
  have nd := sc__ring_behind.nd
  refine ⟨_, (pss_cons (ps_for PassesOwn.never rfl (pi_anyS S (pv 0)) (pg_name (i := 2) nd rfl (Or.inl rfl)) (pss_one (ps_set (i := 1) nd rfl (Or.inl rfl) (pe_ix (ix_S S (hu9 hr)) (pe_ix (ix_S S (hu9 hr)) (pv 0) (pv 1) (fun _ _ => rfl)) pe_int (fun _ _ => rfl))))) (pss_cons (ps_par (i := 3) (j := 4) (by rfl) nd rfl rfl (by decide) rfl rfl (pa_cons (pe_ix (ix_S S (hu9 hr)) (pe_ix (ix_S S (hu9 hr)) (pv 0) (pv 1) (fun _ _ => rfl)) pe_int (fun _ _ => rfl)) (pa_cons (pe_ix (ix_S S (hu9 hr)) (pe_ix (ix_S S (hu9 hr)) (pv 0) (pv 1) (fun _ _ => rfl)) pe_int (fun _ _ => rfl)) pa_nil)) (by rfl)) (pss_cons (ps_while PassesOwn.never (pt_cmpR (op_neS S hr.units) (pv 4) (pv 1) (nomark _)) (pss_one (ps_par (i := 3) (j := 4) (by rfl) nd rfl rfl (by decide) rfl rfl (pa_cons (pe_op (op_addS S) (pv 3) (pe_ix (ix_S S (hu9 hr)) (pe_ix (ix_S S (hu9 hr)) (pv 0) (pv 4) (fun _ _ => rfl)) pe_int (fun _ _ => rfl))) (pa_cons (pe_ix (ix_S S (hu9 hr)) (pe_ix (ix_S S (hu9 hr)) (pv 0) (pv 4) (fun _ _ => rfl)) pe_int (fun _ _ => rfl)) pa_nil)) (by rfl)))) (pss_one (ps_ret (pe_tup (pa_cons (pv 1) (pa_cons (pv 3) pa_nil)))))))), fn_run (N := ["chosen", "place", "_", "ring", "behind"]) (m := mb__ring_behind) ?_ h⟩
  exact (ss_seq (ss_for (si_any se_var) sg_name (ss_asg (se_op vo_ixX (se_op vo_ixX se_var se_var) se_int) sg_name)) (ss_seq (ss_par (sa_cons (se_op vo_ixX (se_op vo_ixX se_var se_var) se_int) (sa_cons (se_op vo_ixX (se_op vo_ixX se_var se_var) se_int) sa_nil))) (ss_seq (ss_while (st_test (se_op vo_ne se_var se_var)) (ss_par (sa_cons (se_op vo_add se_var (se_op vo_ixX (se_op vo_ixX se_var se_var) se_int)) (sa_cons (se_op vo_ixX (se_op vo_ixX se_var se_var) se_int) sa_nil)))) (ss_ret (se_tup (sa_cons se_var (sa_cons se_var sa_nil)))))))
theorem bd__ring_behind {f : Addr} {fd : FuncData} (F : Fun S.K "_ring_behind" "_ring_behind" s__ring_behind f fd) : Binds S.K fd ["chosen", "place"] [] := F.binds (ps := ["chosen", "place"]) fun _ _ _ _ _ _ us hl => match us, hl with | [_, _], _ => rfl
theorem ok_swell {f : Addr} {fd : FuncData} {fc_check_rates : Addr} {fdc_check_rates : FuncData} {fq_Reader : Addr} {fdq_Reader : FuncData} {fc_best_ring : Addr} {fdc_best_ring : FuncData} {fq_Swelling : Addr} {fdq_Swelling : FuncData} {fk_Reader_reached : Addr} {fdk_Reader_reached : FuncData} (F : FunD S.K "swell" "swell" (defArgs s_swell) (defBody s_swell) (defScope s_swell) [] [("least", V.bl false)] f fd) (c_check_rates : Cal S mg base "check_rates" 4 ["way", "kind", "least"] 3 m__check_rates fc_check_rates fdc_check_rates) (q_Reader : Mak S mg base 0 "Reader" 1 ["self", "way", "kind"] 3 m_Reader_init fq_Reader fdq_Reader 4) (c_best_ring : Cal S mg base "best_ring" 8 ["reader", "least"] 2 m_best_ring fc_best_ring fdc_best_ring) (q_Swelling : Mak S mg base 1 "Swelling" 1 ["self", "rate", "ahead", "ring", "heights"] 5 m_Swelling_init fq_Swelling fdq_Swelling 4) (k_Reader_reached : Met S mg base 0 "reached" 6 ["self"] 1 m_Reader_reached fk_Reader_reached fdk_Reader_reached) : FnOk S.P S.w S.K mg base CX0 9 f fd ["way", "kind", "least"] (spM S 3 m_swell) := by
  refine F.ok sc_swell (fun vs H Q E h => h.1) (fun cdv A outer s H vs Q E hr h => ?_)
  have nd := sc_swell.nd
  refine ⟨_, (pss_cons (ps_expr (pe_call c_check_rates.ok (hr.mono (by decide)) (by rfl) c_check_rates.g c_check_rates.kp c_check_rates.b .nil pass0 (pa_cons (pv 0) (pa_cons (pv 1) (pa_cons (pv 2) pa_nil))))) (pss_cons (ps_set (i := 3) nd rfl (Or.inl rfl) (pe_make q_Reader.mak q_Reader.ok (hr.mono (by decide)) (by rfl) q_Reader.g q_Reader.b .nil pass0 (pa_cons (pv 0) (pa_cons (pv 1) pa_nil)))) (pss_cons (ps_asg (pe_call c_best_ring.ok (hr.mono (by decide)) (by rfl) c_best_ring.g c_best_ring.kp c_best_ring.b .nil pass0 (pa_cons (pv 3) (pa_cons (pv 2) pa_nil))) (pg_tup rfl (pgs_cons (pg_name (i := 4) nd rfl (Or.inl rfl)) (pgs_cons (pg_name (i := 5) nd rfl (Or.inl rfl)) (pgs_cons (pg_name (i := 6) nd rfl (Or.inl rfl)) (pgs_cons (pg_name (i := 7) nd rfl (Or.inl rfl)) pgs_nil)))))) (pss_one (ps_ret (pe_make q_Swelling.mak q_Swelling.ok (hr.mono (by decide)) (by rfl) q_Swelling.g q_Swelling.b .nil pass0 (pa_cons (pv 4) (pa_cons (pe_ix (ix_S S (hu9 hr)) (pe_meth0 (pv 3) k_Reader_reached.cl k_Reader_reached.mt k_Reader_reached.ok (hr.mono (by decide)) k_Reader_reached.b .nil pass0) (pv 5) (fun _ _ => rfl)) (pa_cons (pv 6) (pa_cons (pv 7) pa_nil)))))))))), fn_run (N := ["way", "kind", "least", "reader", "rate", "place", "ring", "heights"]) (m := mb_swell) ?_ h⟩
  exact (ss_seq (ss_drop (se_callT (sa_cons se_var (sa_cons se_var (sa_cons se_var sa_nil))))) (ss_seq (ss_asg (se_makeS q_Reader.k (sa_cons se_var (sa_cons se_var sa_nil))) sg_name) (ss_seq (ss_asg (se_callT (sa_cons se_var (sa_cons se_var sa_nil))) (sg_tup (sgs_cons sg_name (sgs_cons sg_name (sgs_cons sg_name (sgs_cons sg_name sgs_nil)))))) (ss_ret (se_makeS q_Swelling.k (sa_cons se_var (sa_cons (se_op vo_ixX (se_methU k_Reader_reached.nm se_var sa_nil) se_var) (sa_cons se_var (sa_cons se_var sa_nil)))))))))
theorem bd_swell {f : Addr} {fd : FuncData} (F : FunD S.K "swell" "swell" (defArgs s_swell) (defBody s_swell) (defScope s_swell) [] [("least", V.bl false)] f fd) : ∃ ds, Vals [V.bl false] ds ∧ Binds S.K fd ["way", "kind", "least"] ds := F.binds0 (ps := ["way", "kind", "least"]) 2 (fun z => nomatch z) rfl fun _ _ _ _ _ _ us ks h1 h2 => match us, h1, ks, h2 with | [_, _], _, [_], _ => ⟨_, _, _, _, _, _, rfl, rfl, rfl⟩
theorem kb_swell {f : Addr} {fd : FuncData} (F : FunD S.K "swell" "swell" (defArgs s_swell) (defBody s_swell) (defScope s_swell) [] [("least", V.bl false)] f fd) : KBn S.K fd ["way", "kind", "least"] 2 ["least"] (fun us ws => us ++ ws) (fun vs zs => vs ++ zs) := by
  obtain ⟨mv, h⟩ := F.kbinds0 (ps := ["way", "kind", "least"]) 2 ["least"] [] (fun us _ ws => us ++ ws) (fun z => nomatch z) (fun q hq => nomatch hq) (fun r1 _ r3 => r1.append r3) fun _ _ _ _ _ _ us mv ws h1 h2 h3 => match us, h1, ws, h3 with | [_, _], _, [_], _ => rfl
  exact h
theorem ok_AimWalk_is_node {f : Addr} {fd : FuncData} {fc_is_place : Addr} {fdc_is_place : FuncData} {fc_is_within : Addr} {fdc_is_within : FuncData} (F : Fun S.K "is_node" "AimWalk.is_node" s_AimWalk_is_node f fd) (n_isinstance : mg "isinstance" = none) (n_tuple : mg "tuple" = none) (n_len : mg "len" = none) (c_is_place : Cal S mg base "is_place" 2 ["way", "place"] 2 m_is_place fc_is_place fdc_is_place) (f_way : Fld S "way" [(0, 0)]) (f_reader : Fld S "reader" [(2, 0)]) (c_is_within : Cal S mg base "is_within" 2 ["number", "low", "high"] 3 m_is_within fc_is_within fdc_is_within) (f_wanted : Fld S "wanted" [(2, 1)]) : FnOk S.P S.w S.K mg base CX0 3 f fd ["self", "node"] (spM S 2 m_AimWalk_is_node) := by
  refine F.ok sc_AimWalk_is_node (fun vs H Q E h => h.1) (fun cdv A outer s H vs Q E hr h => ?_)
  have nd := sc_AimWalk_is_node.nd
  refine ⟨_, (pss_cons (ps_if (PW.pt (pw_or (pt_not (pt_truS S (pe_callB (call_isiS S) (by rfl) n_isinstance (by decide +kernel) (pa_cons (pv 1) (pa_cons (pe_bltn (v := .ty "tuple") (u := .type "tuple") (by rfl) n_tuple (by decide +kernel) rfl) pa_nil))))) (pw_or1 (pt_cmpR (op_neS S hr.units) (pe_callB (call_lenS S) (by rfl) n_len (by decide +kernel) (pa_cons (pv 1) pa_nil)) pe_int (nomark _))))) (pss_one (ps_ret pe_bl)) pss_nil) (pss_one (ps_ret (pe_and (pe_call c_is_place.ok (hr.mono (by decide)) (by rfl) c_is_place.g c_is_place.kp c_is_place.b .nil pass0 (pa_cons (pe_fldS S (pe_fldS S (pv 0))) (pa_cons (pe_ix (ix_S S (hu9 hr)) (pv 1) pe_int (fun _ _ => rfl)) pa_nil))) (pe_one (pe_call c_is_within.ok (hr.mono (by decide)) (by rfl) c_is_within.g c_is_within.kp c_is_within.b .nil pass0 (pa_cons (pe_ix (ix_S S (hu9 hr)) (pv 1) pe_int (fun _ _ => rfl)) (pa_cons pe_int (pa_cons (pe_callB (call_lenS S) (by rfl) n_len (by decide +kernel) (pa_cons (pe_fldS S (pv 0)) pa_nil)) pa_nil))))))))), fn_run (N := ["self", "node"]) (m := mb_AimWalk_is_node) ?_ h⟩
  exact (ss_seq (ss_if (st_or (st_not (st_tru (se_isi (.ty "tuple") isT_ty se_var))) (st_test (se_op vo_ne (se_cb vc_len (sa_cons se_var sa_nil)) se_int))) (ss_ret se_bl) ss_next) (ss_ret (se_andV (se_callT (sa_cons (se_fld f_way (se_fld f_reader se_var)) (sa_cons (se_op vo_ixX se_var se_int) sa_nil))) (se_callT (sa_cons (se_op vo_ixX se_var se_int) (sa_cons se_int (sa_cons (se_cb vc_len (sa_cons (se_fld f_wanted se_var) sa_nil)) sa_nil)))))))
theorem bd_AimWalk_is_node {f : Addr} {fd : FuncData} (F : Fun S.K "is_node" "AimWalk.is_node" s_AimWalk_is_node f fd) : Binds S.K fd ["self", "node"] [] := F.binds (ps := ["self", "node"]) fun _ _ _ _ _ _ us hl => match us, hl with | [_, _], _ => rfl
theorem ok_AimWalk_init {f : Addr} {fd : FuncData} {fq_Reader : Addr} {fdq_Reader : FuncData} (F : Fun S.K "__init__" "AimWalk.__init__" s_AimWalk_init f fd) (f_reader : Fld S "reader" [(2, 0)]) (q_Reader : Mak S mg base 0 "Reader" 1 ["self", "way", "kind"] 3 m_Reader_init fq_Reader fdq_Reader 4) (f_wanted : Fld S "wanted" [(2, 1)]) : FnOk S.P S.w S.K mg base CX0 3 f fd ["self", "way", "kind", "wanted"] (spM S 4 m_AimWalk_init) := by
  refine F.ok sc_AimWalk_init (fun vs H Q E h => h.1) (fun cdv A outer s H vs Q E hr h => ?_)
  have nd := sc_AimWalk_init.nd
  refine ⟨_, (pss_cons (ps_fld (pv 0) (pe_make q_Reader.mak q_Reader.ok (hr.mono (by decide)) (by rfl) q_Reader.g q_Reader.b .nil pass0 (pa_cons (pv 1) (pa_cons (pv 2) pa_nil))) rfl) (pss_one (ps_fld (pv 0) (pv 3) rfl))), fn_run (N := ["self", "way", "kind", "wanted"]) (m := mb_AimWalk_init) ?_ h⟩
  exact (ss_seq (ss_fld f_reader se_var (se_makeS q_Reader.k (sa_cons se_var (sa_cons se_var sa_nil)))) (ss_fld f_wanted se_var se_var))
theorem bd_AimWalk_init {f : Addr} {fd : FuncData} (F : Fun S.K "__init__" "AimWalk.__init__" s_AimWalk_init f fd) : Binds S.K fd ["self", "way", "kind", "wanted"] [] := F.binds (ps := ["self", "way", "kind", "wanted"]) fun _ _ _ _ _ _ us hl => match us, hl with | [_, _, _, _], _ => rfl
theorem ok_turn {f : Addr} {fd : FuncData} {ag__REPLACED : Addr} (F : Fun S.K "turn" "turn" s_turn f fd) (g__REPLACED : mg "_REPLACED" = some (.ref ag__REPLACED)) (r__REPLACED : RTab S.toSg ag__REPLACED rt__REPLACED) : FnOk S.P S.w S.K mg base CX0 1 f fd ["way", "text"] (spM S 2 m_turn) := by
  refine F.ok sc_turn (fun vs H Q E h => h.1) (fun cdv A outer s H vs Q E hr h => ?_)
  have nd := sc_turn.nd
  refine ⟨_, (pss_cons (ps_for PassesOwn.never rfl (pi_anyS S (pv 0)) (pg_name (i := 2) nd rfl (Or.inl rfl)) (pss_one (ps_forJ PassesOwn.never rfl (pi_tup (pe_ix ix_kdict (pe_glob (v := .ref ag__REPLACED) (by rfl) g__REPLACED rfl) (pv 2) (fun _ _ => rfl))) (pj_repl (io := 3) (jo := 4) (tx := 1) rfl nd rfl rfl rfl rfl rfl rfl (by decide) (by decide) (by decide))))) (pss_one (ps_ret (pv 1)))), fn_run (N := ["way", "text", "word", "old", "new"]) (m := mb_turn) ?_ h⟩
  exact (ss_seq (ss_for (si_any se_var) sg_name (ss_repl r__REPLACED (by decide) (by decide) (by decide) (by decide))) (ss_ret se_var))
theorem bd_turn {f : Addr} {fd : FuncData} (F : Fun S.K "turn" "turn" s_turn f fd) : Binds S.K fd ["way", "text"] [] := F.binds (ps := ["way", "text"]) fun _ _ _ _ _ _ us hl => match us, hl with | [_, _], _ => rfl
theorem ok_is_closed {f : Addr} {fd : FuncData} {fk_AimWalk_is_node : Addr} {fdk_AimWalk_is_node : FuncData} {fk_AimWalk_first : Addr} {fdk_AimWalk_first : FuncData} {fk_AimWalk_is_fine : Addr} {fdk_AimWalk_is_fine : FuncData} {fk_AimWalk_signs : Addr} {fdk_AimWalk_signs : FuncData} {fk_AimWalk_behind : Addr} {fdk_AimWalk_behind : FuncData} (F : Fun S.K "is_closed" "is_closed" s_is_closed f fd) (n_all : mg "all" = none) (k_AimWalk_is_node : Met S mg base 2 "is_node" 3 ["self", "node"] 2 m_AimWalk_is_node fk_AimWalk_is_node fdk_AimWalk_is_node) (k_AimWalk_first : Met S mg base 2 "first" 3 ["self"] 1 m_AimWalk_first fk_AimWalk_first fdk_AimWalk_first) (k_AimWalk_is_fine : Met S mg base 2 "is_fine" 6 ["self", "node"] 2 m_AimWalk_is_fine fk_AimWalk_is_fine fdk_AimWalk_is_fine) (k_AimWalk_signs : Met S mg base 2 "signs" 7 ["self", "node"] 2 m_AimWalk_signs fk_AimWalk_signs fdk_AimWalk_signs) (k_AimWalk_behind : Met S mg base 2 "behind" 7 ["self", "node", "sign"] 3 m_AimWalk_behind fk_AimWalk_behind fdk_AimWalk_behind) : FnOk S.P S.w S.K mg base CX0 8 f fd ["walk", "nodes"] (spM S 2 m_is_closed) := by
  refine F.ok sc_is_closed (fun vs H Q E h => h.1) (fun cdv A outer s H vs Q E hr h => ?_)
  have nd := sc_is_closed.nd
  refine ⟨_, (pss_cons (ps_if (pt_not (pt_truS S (pe_callB (call_allS S rfl) (by rfl) n_all (by decide +kernel) (pa_cons (pe_lc (own := [("node", 3)]) (g := (gName 3)) (by rfl) nd (pi_anyS S (pv 1)) (blkOk_by (own := [("node", 3)]) (N := ["walk", "nodes", "found", "node", "sign"]) (sc := defScope s_is_closed) (by decide +kernel)) (fun _ _ _ _ _ => (pg_name (i := 3) nd rfl (Or.inl rfl))) (fun _ _ _ _ _ => pts_nil) (fun _ _ _ _ _ => (pe_meth (pv 0) k_AimWalk_is_node.cl k_AimWalk_is_node.mt k_AimWalk_is_node.ok (hr.mono (by decide)) k_AimWalk_is_node.b .nil pass0 (pa_cons (pv 3) pa_nil)))) pa_nil)))) (pss_one (ps_ret pe_bl)) pss_nil) (pss_cons (ps_setDcN (i := 2) (own := [("node", 3)]) (g := (gName 3)) (hu9 hr) (by rfl) nd rfl rfl (sw_trueD rfl rfl rfl (by decide +kernel)) (pi_anyS S (pv 1)) (blkOk_by (own := [("node", 3)]) (N := ["walk", "nodes", "found", "node", "sign"]) (sc := defScope s_is_closed) (by decide +kernel)) (fun _ _ _ _ _ => (pg_name (i := 3) nd rfl (Or.inl rfl))) (fun _ _ _ _ _ => pts_nil) (fun _ _ _ _ _ => (pv 3)) (fun _ _ _ _ _ => pe_bl)) (pss_cons (ps_if (pt_cmpR (op_niYS S (hu65 hr)) (pe_meth0 (pv 0) k_AimWalk_first.cl k_AimWalk_first.mt k_AimWalk_first.ok (hr.mono (by decide)) k_AimWalk_first.b .nil pass0) (pv 2) rfl) (pss_one (ps_ret pe_bl)) pss_nil) (pss_cons (ps_for PassesOwn.never rfl (pi_anyS S (pv 2)) (pg_name (i := 3) nd rfl (Or.inl rfl)) (pss_cons (ps_if (pt_not (pt_truS S (pe_meth (pv 0) k_AimWalk_is_fine.cl k_AimWalk_is_fine.mt k_AimWalk_is_fine.ok (hr.mono (by decide)) k_AimWalk_is_fine.b .nil pass0 (pa_cons (pv 3) pa_nil)))) (pss_one (ps_ret pe_bl)) pss_nil) (pss_one (ps_for PassesOwn.never rfl (pi_anyS S (pe_meth (pv 0) k_AimWalk_signs.cl k_AimWalk_signs.mt k_AimWalk_signs.ok (hr.mono (by decide)) k_AimWalk_signs.b .nil pass0 (pa_cons (pv 3) pa_nil))) (pg_name (i := 4) nd rfl (Or.inl rfl)) (pss_one (ps_if (pt_cmpR (op_niYS S (hu65 hr)) (pe_meth (pv 0) k_AimWalk_behind.cl k_AimWalk_behind.mt k_AimWalk_behind.ok (hr.mono (by decide)) k_AimWalk_behind.b .nil pass0 (pa_cons (pv 3) (pa_cons (pv 4) pa_nil))) (pv 2) rfl) (pss_one (ps_ret pe_bl)) pss_nil)))))) (pss_one (ps_ret pe_bl)))))), fn_run (N := ["walk", "nodes", "found", "node", "sign"]) (m := mb_is_closed) ?_ h⟩
  exact (ss_seq (ss_if (st_not (st_tru (se_cb vc_all (sa_cons (se_lc (vs := [3]) (si_any se_var) sg_name (gw_name (by decide)) st_yes (se_methU k_AimWalk_is_node.nm se_var (sa_cons se_var sa_nil))) sa_nil)))) (ss_ret se_bl) ss_next) (ss_seq (ss_asg (se_dc (vs := [3]) (si_any se_var) sg_name (gw_name (by decide)) st_yes se_var se_bl) sg_name) (ss_seq (ss_if (st_test (se_op vo_niY (se_methU k_AimWalk_first.nm se_var sa_nil) se_var)) (ss_ret se_bl) ss_next) (ss_seq (ss_for (si_any se_var) sg_name (ss_seq (ss_if (st_not (st_tru (se_methU k_AimWalk_is_fine.nm se_var (sa_cons se_var sa_nil)))) (ss_ret se_bl) ss_next) (ss_for (si_any (se_methU k_AimWalk_signs.nm se_var (sa_cons se_var sa_nil))) sg_name (ss_if (st_test (se_op vo_niY (se_methU k_AimWalk_behind.nm se_var (sa_cons se_var (sa_cons se_var sa_nil))) se_var)) (ss_ret se_bl) ss_next)))) (ss_ret se_bl)))))
theorem bd_is_closed {f : Addr} {fd : FuncData} (F : Fun S.K "is_closed" "is_closed" s_is_closed f fd) : Binds S.K fd ["walk", "nodes"] [] := F.binds (ps := ["walk", "nodes"]) fun _ _ _ _ _ _ us hl => match us, hl with | [_, _], _ => rfl
end
end K50
set_option maxRecDepth 1000000
namespace K50
open Rm
def okT : R LV → Bool
  | .ok (.bl true) _ => true
  | _ => false
theorem v_fitted : okT (m__law_fitted_right [] []) = true := by decide +kernel
theorem v_rates : okT (m__law_rates_right [] []) = true := by decide +kernel
theorem lc_abs {xs : List Int} {a b : Option LV} : ∀ (n i : Nat) (h : List LO) (acc : List LV), i ≤ xs.length → xs.length < n + i → ∃ ys : List Int, lcM (.vals (xs.map .int)) (mName 1) mYes (mCB fAbs (mCons (mVar 1) mNil)) [a, b] n i h acc = .ok (.vl (acc.reverse ++ ys.map .int)) h
  | 0, i, h, acc, hi, hl => by omega
  | n + 1, i, h, acc, hi, hl => by
    cases q : xs[i]? with
    | none =>
      refine ⟨[], ?_⟩
      simp [lcM, Itr.at, q]
    | some z =>
      obtain ⟨ys, e⟩ := lc_abs (xs := xs) (a := a) (b := b) n (i + 1) h (.int (if z < 0 then -z else z) :: acc) (by have := (List.getElem?_eq_some_iff.mp q).1; omega) (by omega)
      refine ⟨(if z < 0 then -z else z) :: ys, ?_⟩
      have st : ∀ b' : Option LV, lcM (.vals (xs.map .int)) (mName 1) mYes (mCB fAbs (mCons (mVar 1) mNil)) [a, b'] (n + 1) i h acc = lcM (.vals (xs.map .int)) (mName 1) mYes (mCB fAbs (mCons (mVar 1) mNil)) [a, b'] n (i + 1) h (.int (if z < 0 then -z else z) :: acc) := fun b' => by
        simp only [lcM, Itr.at, List.getElem?_map, q, Option.map_some, mName, R.safe, R.bind, mYes, mCB, mCons, mVar, mNil, fAbs, List.set_cons_succ, List.set_cons_zero, List.getElem?_cons_succ, List.getElem?_cons_zero, if_true]
      rw [st, e]
      simp
theorem asInts_int (ys : List Int) : LV.asInts (ys.map .int) = some ys := by
  induction ys with
  | nil => rfl
  | cons y ys ih => simp [LV.asInts, ih]
theorem cut_map (ns : List Int) (lo hi : Option Int) : cutL (ns.map LV.int) lo hi = (cutL ns lo hi).map LV.int := by
  simp [cutL, List.map_take, List.map_drop]
theorem okT_of {r : R LV} (h : okT r = true) : ∃ h', r = .ok (.bl true) h' := by
  unfold okT at h
  split at h
  · exact ⟨_, rfl⟩
  · cases h
theorem call (f : MF) (ρ : Rho) (h : okT (f [] []) = true) : mCallT 0 f mNil ρ [] = .ok (.bl true) [] := by
  obtain ⟨ws, e⟩ := okT_of h
  show (if ([] : List LV).length = 0 then cutT ([] : List LO).length (f [] []) else .bad) = _
  rw [e]
  rfl
theorem law_true (ns : List Int) (hn : ns.length ≤ 63) : ∃ h', m_law [.fz (ns.map .int)] [] = .ok (.bl true) h' := by
  obtain ⟨ys, e⟩ := lc_abs (xs := cutL ns none (some 9)) (a := some (.fz (ns.map .int))) (b := none) 60000 0 [] [] (by omega) (by
    have : (cutL ns none (some 9)).length ≤ ns.length := by simp [cutL]; omega
    omega)
  have hs : mCB fInt (mCons (mCB fSum (mCons (mLc (mAnyI (mSl (mVar 0) mNoP (mPart (mC (.int 9))))) (mName 1) mYes (mCB fAbs (mCons (mVar 1) mNil)) [1]) mNil)) mNil) [some (.fz (ns.map .int)), none] [] = .ok (.int ys.sum) [] := by
    simp only [mCB, mCons, mLc, mAnyI, mSl, mVar, mNoP, mPart, mC, R.bind, List.getElem?_cons_zero, fSl, LV.lsf, cut_map, itOf]
    have hwp : wipeR [some (LV.fz (ns.map .int)), none] [1] = [some (.fz (ns.map .int)), none] := by rfl
    rw [hwp, show lcM (.vals ((cutL ns none (some 9)).map .int)) (mName 1) mYes (mCB fAbs (mCons (mVar 1) mNil)) [some (.fz (ns.map .int)), none] 60000 0 [] [] = _ from e]
    simp [mNil, fSum, LV.lsf, LV.lst, asInts_int, fInt]
  have h2 : ys.sum % 2 = 0 ∨ ys.sum % 2 = 1 := by omega
  have hm : m_law [.fz (ns.map .int)] [] = (mb_law [some (.fz (ns.map .int)), none] []).bind fun r h1 => match r.1 with
      | .rt v => .ok v h1
      | .nx => .ok .non h1
      | _ => .bad := rfl
  rw [hm]
  unfold mb_law
  have eqI : ∀ (a b : Int) (h : List LO), fEq false (.int a) (.int b) h = .ok (.bl (decide (a = b))) h := by
    intro a b h
    simp [fEq, scL]
  refine ⟨[], ?_⟩
  rcases h2 with h2 | h2
  · simp [mOp, hs, mC, R.bind, fMod, h2, mIf, mB, eqI, mRet, call _ _ v_rates]
  · simp [mOp, hs, mC, R.bind, fMod, h2, mIf, mB, eqI, mRet, call _ _ v_fitted]
end K50
namespace Sx
open Rm K50
theorem tt (ns : List Int) (hn : ns.length ≤ 63) : ∃ h', m_law [.fz (ns.map .int)] [] = .ok (.bl true) h' := law_true ns hn
end Sx
namespace K50
open PySem PySem.Spec PyProof.Rows L2 RZ PpSet Rm

theorem all_S {S : Se} {h : Heap} {mg : Str → Option Value} {fa : Addr} {fdL : FuncData} {q_CONVERSIONS q_KINDS q_SIGNS q__PLAIN q__HELD q_HELD_both q_HELD_lones q_HELD_pairs q__MADE_OF q_MADE_OF_any q_MADE_OF_bare q_MADE_OF_lone q__REPLACED q_REPLACED_all q_REPLACED_all0 q_REPLACED_both q_REPLACED_both0 q_REPLACED_both1 q_REPLACED_care q_REPLACED_care0 q_REPLACED_care1 q_REPLACED_lone q_REPLACED_lone0 q_REPLACED_lones q_REPLACED_lones0 q_REPLACED_lones1 q_REPLACED_lones2 q_REPLACED_pairs q_REPLACED_pairs0 : Addr}
    (hn0 : S.nm 0 = (["way", "kind", "_known_moves", "_known_ends"] : List Str))
    (hn1 : S.nm 1 = (["rate", "ahead", "ring", "heights"] : List Str))
    (hn2 : S.nm 2 = (["reader", "wanted"] : List Str))
    (hn3 : S.nm 3 = (["aim", "text"] : List Str))
    (hn4 : S.nm 4 = (["text", "floors"] : List Str))
    (hn5 : S.nm 5 = (["places"] : List Str))
    (tt : ∀ ns : List Int, ns.length ≤ 63 → ∃ h', m_law [.fz (ns.map .int)] [] = .ok (.bl true) h') (X : S.K.In h) (G : h.Ns mainGlobals mg) (FL : Fun S.K "law" "law" s_law fa fdL)
    (d_is_conversion : FnG S.K "is_conversion" "is_conversion" "is_conversion" s_is_conversion)
    (d_is_way : FnG S.K "is_way" "is_way" "is_way" s_is_way)
    (d_check_way : FnG S.K "check_way" "check_way" "check_way" s_check_way)
    (d_check_kind : FnG S.K "check_kind" "check_kind" "check_kind" s_check_kind)
    (d__check_rates : FnG S.K "check_rates" "_check" "_check" s__check_rates)
    (d_Reader_init : MtG S.K (S.ct 0) "__init__" "Reader.__init__" s_Reader_init)
    (d_starting : FnG S.K "starting" "starting" "starting" s_starting)
    (d_Reader_first : MtG S.K (S.ct 0) "first" "Reader.first" s_Reader_first)
    (d__read_one : FnG S.K "_read_one" "_read_one" "_read_one" s__read_one)
    (d__read_all : FnG S.K "_read_all" "_read_all" "_read_all" s__read_all)
    (d_step : FnG S.K "step" "step" "step" s_step)
    (d_is_half : FnG S.K "is_half" "is_half" "is_half" s_is_half)
    (d_Reader_move : MtG S.K (S.ct 0) "_move" "Reader._move" s_Reader_move)
    (d_coming : FnG S.K "coming" "coming" "coming" s_coming)
    (d_Reader_moves : MtG S.K (S.ct 0) "moves" "Reader.moves" s_Reader_moves)
    (d_ending : FnG S.K "ending" "ending" "ending" s_ending)
    (d_Reader_end : MtG S.K (S.ct 0) "end" "Reader.end" s_Reader_end)
    (d_Reader_reached : MtG S.K (S.ct 0) "reached" "Reader.reached" s_Reader_reached)
    (d_walked : FnG S.K "walked" "walked" "walked" s_walked)
    (d_is_text : FnG S.K "is_text" "is_text" "is_text" s_is_text)
    (d_rate_of : FnG S.K "rate_of" "rate_of" "rate_of" s_rate_of)
    (d_is_integer : FnG S.K "is_integer" "is_integer" "is_integer" s_is_integer)
    (d_Swelling_has_rate : MtG S.K (S.ct 1) "_has_rate" "Swelling._has_rate" s_Swelling_has_rate)
    (d_is_standing : FnG S.K "is_standing" "is_standing" "is_standing" s_is_standing)
    (d_is_place : FnG S.K "is_place" "is_place" "is_place" s_is_place)
    (d_Swelling_is_closed : MtG S.K (S.ct 1) "_is_closed" "Swelling._is_closed" s_Swelling_is_closed)
    (d_weight : FnG S.K "weight" "weight" "weight" s_weight)
    (d_Swelling_falls : MtG S.K (S.ct 1) "_falls" "Swelling._falls" s_Swelling_falls)
    (d_Swelling_shows : MtK S.K (S.ct 1) "shows" "Swelling.shows" s_Swelling_shows "least")
    (d_Swelling_init : MtG S.K (S.ct 1) "__init__" "Swelling.__init__" s_Swelling_init)
    (d__ring_behind : FnG S.K "_ring_behind" "_ring_behind" "_ring_behind" s__ring_behind)
    (d__lift : FnG S.K "_lift" "_lift" "_lift" s__lift)
    (d__climb : FnG S.K "_climb" "_climb" "_climb" s__climb)
    (d_best_ring : FnG S.K "best_ring" "best_ring" "best_ring" s_best_ring)
    (d_swell : FnK S.K "swell" "swell" "swell" s_swell "least")
    (d_greatest_rate : FnG S.K "greatest_rate" "greatest_rate" "greatest_rate" s_greatest_rate)
    (d_least_rate : FnG S.K "least_rate" "least_rate" "least_rate" s_least_rate)
    (d__law_rates_right : FnG S.K "_law_rates_right" "_law_rates_right" "_law_rates_right" s__law_rates_right)
    (d__is_short : FnG S.K "_is_short" "_is_short" "_is_short" s__is_short)
    (d__check_short : FnG S.K "_check_short" "_check_short" "_check_short" s__check_short)
    (d__check_fitting : FnG S.K "check_fitting" "_check" "_check" s__check_fitting)
    (d_AimWalk_steps : MtG S.K (S.ct 2) "steps" "AimWalk.steps" s_AimWalk_steps)
    (d_ChangeWalk_steps : MtG S.K (S.ct 3) "steps" "ChangeWalk.steps" s_ChangeWalk_steps)
    (d_AimWalk_first : MtG S.K (S.ct 2) "first" "AimWalk.first" s_AimWalk_first)
    (d_ChangeWalk_first : MtG S.K (S.ct 3) "first" "ChangeWalk.first" s_ChangeWalk_first)
    (d_AimWalk_is_end : MtG S.K (S.ct 2) "is_end" "AimWalk.is_end" s_AimWalk_is_end)
    (d_ChangeWalk_is_end : MtG S.K (S.ct 3) "is_end" "ChangeWalk.is_end" s_ChangeWalk_is_end)
    (d_is_within : FnG S.K "is_within" "is_within" "is_within" s_is_within)
    (d_AimWalk_is_node : MtG S.K (S.ct 2) "is_node" "AimWalk.is_node" s_AimWalk_is_node)
    (d_ChangeWalk_is_node : MtG S.K (S.ct 3) "is_node" "ChangeWalk.is_node" s_ChangeWalk_is_node)
    (d_are_floors : FnG S.K "are_floors" "are_floors" "are_floors" s_are_floors)
    (d_AimWalk_init : MtG S.K (S.ct 2) "__init__" "AimWalk.__init__" s_AimWalk_init)
    (d_AimWalk_signs : MtG S.K (S.ct 2) "signs" "AimWalk.signs" s_AimWalk_signs)
    (d_AimWalk_behind : MtG S.K (S.ct 2) "behind" "AimWalk.behind" s_AimWalk_behind)
    (d_AimWalk_is_fine : MtG S.K (S.ct 2) "is_fine" "AimWalk.is_fine" s_AimWalk_is_fine)
    (d_ChangeWalk_init : MtG S.K (S.ct 3) "__init__" "ChangeWalk.__init__" s_ChangeWalk_init)
    (d_distance_between : FnG S.K "distance_between" "distance_between" "distance_between" s_distance_between)
    (d_fits : FnG S.K "fits" "fits" "fits" s_fits)
    (d_turn : FnG S.K "turn" "turn" "turn" s_turn)
    (d_Fitted_shows : MtG S.K (S.ct 4) "shows" "Fitted.shows" s_Fitted_shows)
    (d_is_closed : FnG S.K "is_closed" "is_closed" "is_closed" s_is_closed)
    (d_Unfit_shows : MtG S.K (S.ct 5) "shows" "Unfit.shows" s_Unfit_shows)
    (d__steps_ahead : FnG S.K "_steps_ahead" "_steps_ahead" "_steps_ahead" s__steps_ahead)
    (d_costs_to_end : FnG S.K "costs_to_end" "costs_to_end" "costs_to_end" s_costs_to_end)
    (d_Fitted_init : MtG S.K (S.ct 4) "__init__" "Fitted.__init__" s_Fitted_init)
    (d_search : FnG S.K "search" "search" "search" s_search)
    (d_Unfit_init : MtG S.K (S.ct 5) "__init__" "Unfit.__init__" s_Unfit_init)
    (d_cheapest_text : FnG S.K "cheapest_text" "cheapest_text" "cheapest_text" s_cheapest_text)
    (d_fit : FnG S.K "fit" "fit" "fit" s_fit)
    (d_least_change : FnG S.K "least_change" "least_change" "least_change" s_least_change)
    (d_distance : FnG S.K "distance" "distance" "distance" s_distance)
    (d__law_fitted_right : FnG S.K "_law_fitted_right" "_law_fitted_right" "_law_fitted_right" s__law_fitted_right)
    (e_Reader : ClG S.K "Reader" (S.ct 0))
    (e_Swelling : ClG S.K "Swelling" (S.ct 1))
    (e_AimWalk : ClG S.K "AimWalk" (S.ct 2))
    (e_ChangeWalk : ClG S.K "ChangeWalk" (S.ct 3))
    (e_Fitted : ClG S.K "Fitted" (S.ct 4))
    (e_Unfit : ClG S.K "Unfit" (S.ct 5))
    (a_0_way : PySem.W.findIn S.K (.ref (S.ct 0)) "way" = some none)
    (a_0_kind : PySem.W.findIn S.K (.ref (S.ct 0)) "kind" = some none)
    (a_0__known_moves : PySem.W.findIn S.K (.ref (S.ct 0)) "_known_moves" = some none)
    (a_0__known_ends : PySem.W.findIn S.K (.ref (S.ct 0)) "_known_ends" = some none)
    (a_1_ahead : PySem.W.findIn S.K (.ref (S.ct 1)) "ahead" = some none)
    (a_1_ring : PySem.W.findIn S.K (.ref (S.ct 1)) "ring" = some none)
    (a_1_rate : PySem.W.findIn S.K (.ref (S.ct 1)) "rate" = some none)
    (a_1_heights : PySem.W.findIn S.K (.ref (S.ct 1)) "heights" = some none)
    (a_2_reader : PySem.W.findIn S.K (.ref (S.ct 2)) "reader" = some none)
    (a_2_wanted : PySem.W.findIn S.K (.ref (S.ct 2)) "wanted" = some none)
    (a_3_aim : PySem.W.findIn S.K (.ref (S.ct 3)) "aim" = some none)
    (a_3_text : PySem.W.findIn S.K (.ref (S.ct 3)) "text" = some none)
    (a_4_text : PySem.W.findIn S.K (.ref (S.ct 4)) "text" = some none)
    (a_4_floors : PySem.W.findIn S.K (.ref (S.ct 4)) "floors" = some none)
    (a_5_places : PySem.W.findIn S.K (.ref (S.ct 5)) "places" = some none)
    (zc1 : PySem.W.specialIn S.K (.builtin "object.__class__") "__get__" = some (some (.builtin "getset_descriptor.__get__")))
    (zc2 : PySem.W.takesIn S.K (.builtin "object.__class__") = some true)
    (i_Fitted_4 : PySem.W.kitOne S.K (.ref (S.ct 4)) (.ref (S.ct 4)) = some true)
    (i_Fitted_5 : PySem.W.kitOne S.K (.ref (S.ct 5)) (.ref (S.ct 4)) = some false)
    (i_Unfit_4 : PySem.W.kitOne S.K (.ref (S.ct 4)) (.ref (S.ct 5)) = some false)
    (i_Unfit_5 : PySem.W.kitOne S.K (.ref (S.ct 5)) (.ref (S.ct 5)) = some true)
    (n_isinstance : mg "isinstance" = none)
    (n_str : mg "str" = none)
    (n_tuple : mg "tuple" = none)
    (n_len : mg "len" = none)
    (i_LONGEST : ∃ t, mg "LONGEST" = some (.int 6 t))
    (n_all : mg "all" = none)
    (n_bool : mg "bool" = none)
    (n_zip : mg "zip" = none)
    (n_int : mg "int" = none)
    (n_list : mg "list" = none)
    (n_any : mg "any" = none)
    (i_MOST_SIGNS : ∃ t, mg "MOST_SIGNS" = some (.int 12 t))
    (n_range : mg "range" = none)
    (n_enumerate : mg "enumerate" = none)
    (n_min : mg "min" = none)
    (n_sum : mg "sum" = none)
    (n_abs : mg "abs" = none)
    (zgcd : PySem.W.nsIn S.K mainGlobals "gcd" = some (some (.builtin "math.gcd")))
    (g_CONVERSIONS : mg "CONVERSIONS" = some (.ref q_CONVERSIONS))
    (l_CONVERSIONS : ∀ H, SqT S.K H q_CONVERSIONS [.str "all", .str "both", .str "care", .str "lone", .str "lones", .str "pairs"])
    (g_KINDS : mg "KINDS" = some (.ref q_KINDS))
    (l_KINDS : ∀ H, SqT S.K H q_KINDS [.str "any", .str "bare", .str "lone", .str "paired"])
    (g_SIGNS : mg "SIGNS" = some (.ref q_SIGNS))
    (l_SIGNS : ∀ H, SqT S.K H q_SIGNS [.str "a", .str "n", .str "r"])
    (g__PLAIN : mg "_PLAIN" = some (.ref q__PLAIN))
    (Dt__PLAIN : DictG S.K S.w q__PLAIN)
    (k_PLAIN_all : ∃ tk, PySem.W.nsIn S.K q__PLAIN "all" = some (some (.str "rn" tk)))
    (k_PLAIN_both : PySem.W.nsIn S.K q__PLAIN "both" = some none)
    (k_PLAIN_care : PySem.W.nsIn S.K q__PLAIN "care" = some none)
    (k_PLAIN_lone : ∃ tk, PySem.W.nsIn S.K q__PLAIN "lone" = some (some (.str "r" tk)))
    (k_PLAIN_lones : PySem.W.nsIn S.K q__PLAIN "lones" = some none)
    (k_PLAIN_pairs : PySem.W.nsIn S.K q__PLAIN "pairs" = some none)
    (g__HELD : mg "_HELD" = some (.ref q__HELD))
    (Dt__HELD : DictG S.K S.w q__HELD)
    (k_HELD_all : PySem.W.nsIn S.K q__HELD "all" = some none)
    (k_HELD_both : PySem.W.nsIn S.K q__HELD "both" = some (some (.ref q_HELD_both)))
    (lk_HELD_both : PairG S.K q_HELD_both "" "n")
    (k_HELD_care : PySem.W.nsIn S.K q__HELD "care" = some none)
    (k_HELD_lone : PySem.W.nsIn S.K q__HELD "lone" = some none)
    (k_HELD_lones : PySem.W.nsIn S.K q__HELD "lones" = some (some (.ref q_HELD_lones)))
    (lk_HELD_lones : PairG S.K q_HELD_lones "r" "n")
    (k_HELD_pairs : PySem.W.nsIn S.K q__HELD "pairs" = some (some (.ref q_HELD_pairs)))
    (lk_HELD_pairs : PairG S.K q_HELD_pairs "" "r")
    (g__MADE_OF : mg "_MADE_OF" = some (.ref q__MADE_OF))
    (Dt__MADE_OF : DictG S.K S.w q__MADE_OF)
    (k_MADE_OF_any : PySem.W.nsIn S.K q__MADE_OF "any" = some (some (.ref q_MADE_OF_any)))
    (lk_MADE_OF_any : ∀ H, SqT S.K H q_MADE_OF_any [.str "a", .str "n", .str "r"])
    (k_MADE_OF_bare : PySem.W.nsIn S.K q__MADE_OF "bare" = some (some (.ref q_MADE_OF_bare)))
    (lk_MADE_OF_bare : ∀ H, SqT S.K H q_MADE_OF_bare [.str "a", .str "n"])
    (k_MADE_OF_lone : PySem.W.nsIn S.K q__MADE_OF "lone" = some (some (.ref q_MADE_OF_lone)))
    (lk_MADE_OF_lone : ∀ H, SqT S.K H q_MADE_OF_lone [.str "a", .str "r"])
    (g__REPLACED : mg "_REPLACED" = some (.ref q__REPLACED))
    (Dr__REPLACED : DictG S.K S.w q__REPLACED)
    (r_REPLACED_all : PySem.W.nsIn S.K q__REPLACED "all" = some (some (.ref q_REPLACED_all)))
    (lr_REPLACED_all : ∀ H, SqT S.K H q_REPLACED_all [.ref q_REPLACED_all0])
    (pr_REPLACED_all0 : PairG S.K q_REPLACED_all0 "n" "rn")
    (r_REPLACED_both : PySem.W.nsIn S.K q__REPLACED "both" = some (some (.ref q_REPLACED_both)))
    (lr_REPLACED_both : ∀ H, SqT S.K H q_REPLACED_both [.ref q_REPLACED_both0, .ref q_REPLACED_both1])
    (pr_REPLACED_both0 : PairG S.K q_REPLACED_both0 "rn" "n")
    (pr_REPLACED_both1 : PairG S.K q_REPLACED_both1 "r" "n")
    (r_REPLACED_care : PySem.W.nsIn S.K q__REPLACED "care" = some (some (.ref q_REPLACED_care)))
    (lr_REPLACED_care : ∀ H, SqT S.K H q_REPLACED_care [.ref q_REPLACED_care0, .ref q_REPLACED_care1])
    (pr_REPLACED_care0 : PairG S.K q_REPLACED_care0 "rn" "n")
    (pr_REPLACED_care1 : PairG S.K q_REPLACED_care1 "n" "rn")
    (r_REPLACED_lone : PySem.W.nsIn S.K q__REPLACED "lone" = some (some (.ref q_REPLACED_lone)))
    (lr_REPLACED_lone : ∀ H, SqT S.K H q_REPLACED_lone [.ref q_REPLACED_lone0])
    (pr_REPLACED_lone0 : PairG S.K q_REPLACED_lone0 "n" "r")
    (r_REPLACED_lones : PySem.W.nsIn S.K q__REPLACED "lones" = some (some (.ref q_REPLACED_lones)))
    (lr_REPLACED_lones : ∀ H, SqT S.K H q_REPLACED_lones [.ref q_REPLACED_lones0, .ref q_REPLACED_lones1, .ref q_REPLACED_lones2])
    (pr_REPLACED_lones0 : PairG S.K q_REPLACED_lones0 "rn" "x")
    (pr_REPLACED_lones1 : PairG S.K q_REPLACED_lones1 "r" "n")
    (pr_REPLACED_lones2 : PairG S.K q_REPLACED_lones2 "x" "rn")
    (r_REPLACED_pairs : PySem.W.nsIn S.K q__REPLACED "pairs" = some (some (.ref q_REPLACED_pairs)))
    (lr_REPLACED_pairs : ∀ H, SqT S.K H q_REPLACED_pairs [.ref q_REPLACED_pairs0])
    (pr_REPLACED_pairs0 : PairG S.K q_REPLACED_pairs0 "rn" "n") :
    ∀ base : Heap, FnOk S.P S.w S.K mg base CX0 13 fa fdL ["script"] (spLawR S.K) := by
  obtain ⟨f_is_conversion, fd_is_conversion, F_is_conversion, m_is_conversion⟩ := d_is_conversion.go X G
  obtain ⟨f_is_way, fd_is_way, F_is_way, m_is_way⟩ := d_is_way.go X G
  obtain ⟨f_check_way, fd_check_way, F_check_way, m_check_way⟩ := d_check_way.go X G
  obtain ⟨f_check_kind, fd_check_kind, F_check_kind, m_check_kind⟩ := d_check_kind.go X G
  obtain ⟨f__check_rates, fd__check_rates, F__check_rates, m__check_rates⟩ := d__check_rates.go X G
  obtain ⟨f_Reader_init, fd_Reader_init, F_Reader_init, m_Reader_init, j_Reader_init, l_Reader_init⟩ := d_Reader_init
  obtain ⟨f_starting, fd_starting, F_starting, m_starting⟩ := d_starting.go X G
  obtain ⟨f_Reader_first, fd_Reader_first, F_Reader_first, m_Reader_first, j_Reader_first, l_Reader_first⟩ := d_Reader_first
  obtain ⟨f__read_one, fd__read_one, F__read_one, m__read_one⟩ := d__read_one.go X G
  obtain ⟨f__read_all, fd__read_all, F__read_all, m__read_all⟩ := d__read_all.go X G
  obtain ⟨f_step, fd_step, F_step, m_step⟩ := d_step.go X G
  obtain ⟨f_is_half, fd_is_half, F_is_half, m_is_half⟩ := d_is_half.go X G
  obtain ⟨f_Reader_move, fd_Reader_move, F_Reader_move, m_Reader_move, j_Reader_move, l_Reader_move⟩ := d_Reader_move
  obtain ⟨f_coming, fd_coming, F_coming, m_coming⟩ := d_coming.go X G
  obtain ⟨f_Reader_moves, fd_Reader_moves, F_Reader_moves, m_Reader_moves, j_Reader_moves, l_Reader_moves⟩ := d_Reader_moves
  obtain ⟨f_ending, fd_ending, F_ending, m_ending⟩ := d_ending.go X G
  obtain ⟨f_Reader_end, fd_Reader_end, F_Reader_end, m_Reader_end, j_Reader_end, l_Reader_end⟩ := d_Reader_end
  obtain ⟨f_Reader_reached, fd_Reader_reached, F_Reader_reached, m_Reader_reached, j_Reader_reached, l_Reader_reached⟩ := d_Reader_reached
  obtain ⟨f_walked, fd_walked, F_walked, m_walked⟩ := d_walked.go X G
  obtain ⟨f_is_text, fd_is_text, F_is_text, m_is_text⟩ := d_is_text.go X G
  obtain ⟨f_rate_of, fd_rate_of, F_rate_of, m_rate_of⟩ := d_rate_of.go X G
  obtain ⟨f_is_integer, fd_is_integer, F_is_integer, m_is_integer⟩ := d_is_integer.go X G
  obtain ⟨f_Swelling_has_rate, fd_Swelling_has_rate, F_Swelling_has_rate, m_Swelling_has_rate, j_Swelling_has_rate, l_Swelling_has_rate⟩ := d_Swelling_has_rate
  obtain ⟨f_is_standing, fd_is_standing, F_is_standing, m_is_standing⟩ := d_is_standing.go X G
  obtain ⟨f_is_place, fd_is_place, F_is_place, m_is_place⟩ := d_is_place.go X G
  obtain ⟨f_Swelling_is_closed, fd_Swelling_is_closed, F_Swelling_is_closed, m_Swelling_is_closed, j_Swelling_is_closed, l_Swelling_is_closed⟩ := d_Swelling_is_closed
  obtain ⟨f_weight, fd_weight, F_weight, m_weight⟩ := d_weight.go X G
  obtain ⟨f_Swelling_falls, fd_Swelling_falls, F_Swelling_falls, m_Swelling_falls, j_Swelling_falls, l_Swelling_falls⟩ := d_Swelling_falls
  obtain ⟨f_Swelling_shows, fd_Swelling_shows, F_Swelling_shows, m_Swelling_shows, j_Swelling_shows, l_Swelling_shows⟩ := d_Swelling_shows
  obtain ⟨f_Swelling_init, fd_Swelling_init, F_Swelling_init, m_Swelling_init, j_Swelling_init, l_Swelling_init⟩ := d_Swelling_init
  obtain ⟨f__ring_behind, fd__ring_behind, F__ring_behind, m__ring_behind⟩ := d__ring_behind.go X G
  obtain ⟨f__lift, fd__lift, F__lift, m__lift⟩ := d__lift.go X G
  obtain ⟨f__climb, fd__climb, F__climb, m__climb⟩ := d__climb.go X G
  obtain ⟨f_best_ring, fd_best_ring, F_best_ring, m_best_ring⟩ := d_best_ring.go X G
  obtain ⟨f_swell, fd_swell, F_swell, m_swell⟩ := d_swell.go X G
  obtain ⟨f_greatest_rate, fd_greatest_rate, F_greatest_rate, m_greatest_rate⟩ := d_greatest_rate.go X G
  obtain ⟨f_least_rate, fd_least_rate, F_least_rate, m_least_rate⟩ := d_least_rate.go X G
  obtain ⟨f__law_rates_right, fd__law_rates_right, F__law_rates_right, m__law_rates_right⟩ := d__law_rates_right.go X G
  obtain ⟨f__is_short, fd__is_short, F__is_short, m__is_short⟩ := d__is_short.go X G
  obtain ⟨f__check_short, fd__check_short, F__check_short, m__check_short⟩ := d__check_short.go X G
  obtain ⟨f__check_fitting, fd__check_fitting, F__check_fitting, m__check_fitting⟩ := d__check_fitting.go X G
  obtain ⟨f_AimWalk_steps, fd_AimWalk_steps, F_AimWalk_steps, m_AimWalk_steps, j_AimWalk_steps, l_AimWalk_steps⟩ := d_AimWalk_steps
  obtain ⟨f_ChangeWalk_steps, fd_ChangeWalk_steps, F_ChangeWalk_steps, m_ChangeWalk_steps, j_ChangeWalk_steps, l_ChangeWalk_steps⟩ := d_ChangeWalk_steps
  obtain ⟨f_AimWalk_first, fd_AimWalk_first, F_AimWalk_first, m_AimWalk_first, j_AimWalk_first, l_AimWalk_first⟩ := d_AimWalk_first
  obtain ⟨f_ChangeWalk_first, fd_ChangeWalk_first, F_ChangeWalk_first, m_ChangeWalk_first, j_ChangeWalk_first, l_ChangeWalk_first⟩ := d_ChangeWalk_first
  obtain ⟨f_AimWalk_is_end, fd_AimWalk_is_end, F_AimWalk_is_end, m_AimWalk_is_end, j_AimWalk_is_end, l_AimWalk_is_end⟩ := d_AimWalk_is_end
  obtain ⟨f_ChangeWalk_is_end, fd_ChangeWalk_is_end, F_ChangeWalk_is_end, m_ChangeWalk_is_end, j_ChangeWalk_is_end, l_ChangeWalk_is_end⟩ := d_ChangeWalk_is_end
  obtain ⟨f_is_within, fd_is_within, F_is_within, m_is_within⟩ := d_is_within.go X G
  obtain ⟨f_AimWalk_is_node, fd_AimWalk_is_node, F_AimWalk_is_node, m_AimWalk_is_node, j_AimWalk_is_node, l_AimWalk_is_node⟩ := d_AimWalk_is_node
  obtain ⟨f_ChangeWalk_is_node, fd_ChangeWalk_is_node, F_ChangeWalk_is_node, m_ChangeWalk_is_node, j_ChangeWalk_is_node, l_ChangeWalk_is_node⟩ := d_ChangeWalk_is_node
  obtain ⟨f_are_floors, fd_are_floors, F_are_floors, m_are_floors⟩ := d_are_floors.go X G
  obtain ⟨f_AimWalk_init, fd_AimWalk_init, F_AimWalk_init, m_AimWalk_init, j_AimWalk_init, l_AimWalk_init⟩ := d_AimWalk_init
  obtain ⟨f_AimWalk_signs, fd_AimWalk_signs, F_AimWalk_signs, m_AimWalk_signs, j_AimWalk_signs, l_AimWalk_signs⟩ := d_AimWalk_signs
  obtain ⟨f_AimWalk_behind, fd_AimWalk_behind, F_AimWalk_behind, m_AimWalk_behind, j_AimWalk_behind, l_AimWalk_behind⟩ := d_AimWalk_behind
  obtain ⟨f_AimWalk_is_fine, fd_AimWalk_is_fine, F_AimWalk_is_fine, m_AimWalk_is_fine, j_AimWalk_is_fine, l_AimWalk_is_fine⟩ := d_AimWalk_is_fine
  obtain ⟨f_ChangeWalk_init, fd_ChangeWalk_init, F_ChangeWalk_init, m_ChangeWalk_init, j_ChangeWalk_init, l_ChangeWalk_init⟩ := d_ChangeWalk_init
  obtain ⟨f_distance_between, fd_distance_between, F_distance_between, m_distance_between⟩ := d_distance_between.go X G
  obtain ⟨f_fits, fd_fits, F_fits, m_fits⟩ := d_fits.go X G
  obtain ⟨f_turn, fd_turn, F_turn, m_turn⟩ := d_turn.go X G
  obtain ⟨f_Fitted_shows, fd_Fitted_shows, F_Fitted_shows, m_Fitted_shows, j_Fitted_shows, l_Fitted_shows⟩ := d_Fitted_shows
  obtain ⟨f_is_closed, fd_is_closed, F_is_closed, m_is_closed⟩ := d_is_closed.go X G
  obtain ⟨f_Unfit_shows, fd_Unfit_shows, F_Unfit_shows, m_Unfit_shows, j_Unfit_shows, l_Unfit_shows⟩ := d_Unfit_shows
  obtain ⟨f__steps_ahead, fd__steps_ahead, F__steps_ahead, m__steps_ahead⟩ := d__steps_ahead.go X G
  obtain ⟨f_costs_to_end, fd_costs_to_end, F_costs_to_end, m_costs_to_end⟩ := d_costs_to_end.go X G
  obtain ⟨f_Fitted_init, fd_Fitted_init, F_Fitted_init, m_Fitted_init, j_Fitted_init, l_Fitted_init⟩ := d_Fitted_init
  obtain ⟨f_search, fd_search, F_search, m_search⟩ := d_search.go X G
  obtain ⟨f_Unfit_init, fd_Unfit_init, F_Unfit_init, m_Unfit_init, j_Unfit_init, l_Unfit_init⟩ := d_Unfit_init
  obtain ⟨f_cheapest_text, fd_cheapest_text, F_cheapest_text, m_cheapest_text⟩ := d_cheapest_text.go X G
  obtain ⟨f_fit, fd_fit, F_fit, m_fit⟩ := d_fit.go X G
  obtain ⟨f_least_change, fd_least_change, F_least_change, m_least_change⟩ := d_least_change.go X G
  obtain ⟨f_distance, fd_distance, F_distance, m_distance⟩ := d_distance.go X G
  obtain ⟨f__law_fitted_right, fd__law_fitted_right, F__law_fitted_right, m__law_fitted_right⟩ := d__law_fitted_right.go X G
  have z_CONVERSIONS := fun F ι H => rv_strs (S := S.toSg) (us := ["all", "both", "care", "lone", "lones", "pairs"]) (ls := [[97, 108, 108], [98, 111, 116, 104], [99, 97, 114, 101], [108, 111, 110, 101], [108, 111, 110, 101, 115], [112, 97, 105, 114, 115]]) l_CONVERSIONS (by rfl) F ι H
  have z_KINDS := fun F ι H => rv_strs (S := S.toSg) (us := ["any", "bare", "lone", "paired"]) (ls := [[97, 110, 121], [98, 97, 114, 101], [108, 111, 110, 101], [112, 97, 105, 114, 101, 100]]) l_KINDS (by rfl) F ι H
  have z_SIGNS := fun F ι H => rv_strs (S := S.toSg) (us := ["a", "n", "r"]) (ls := [[97], [110], [114]]) l_SIGNS (by rfl) F ι H
  have t__PLAIN : KTab S.toSg q__PLAIN kt__PLAIN := (kTab_cons (kEnt_str Dt__PLAIN k_PLAIN_all (by rfl) (by rfl)) (kTab_cons (kEnt_none Dt__PLAIN k_PLAIN_both (by rfl)) (kTab_cons (kEnt_none Dt__PLAIN k_PLAIN_care (by rfl)) (kTab_cons (kEnt_str Dt__PLAIN k_PLAIN_lone (by rfl) (by rfl)) (kTab_cons (kEnt_none Dt__PLAIN k_PLAIN_lones (by rfl)) (kTab_cons (kEnt_none Dt__PLAIN k_PLAIN_pairs (by rfl)) kTab_nil))))))
  have t__HELD : KTab S.toSg q__HELD kt__HELD := (kTab_cons (kEnt_none Dt__HELD k_HELD_all (by rfl)) (kTab_cons (kEnt_ref Dt__HELD k_HELD_both (by rfl) (lk_HELD_both.rv (by rfl) (by rfl))) (kTab_cons (kEnt_none Dt__HELD k_HELD_care (by rfl)) (kTab_cons (kEnt_none Dt__HELD k_HELD_lone (by rfl)) (kTab_cons (kEnt_ref Dt__HELD k_HELD_lones (by rfl) (lk_HELD_lones.rv (by rfl) (by rfl))) (kTab_cons (kEnt_ref Dt__HELD k_HELD_pairs (by rfl) (lk_HELD_pairs.rv (by rfl) (by rfl))) kTab_nil))))))
  have t__MADE_OF : KTab S.toSg q__MADE_OF kt__MADE_OF := (kTab_cons (kEnt_ref Dt__MADE_OF k_MADE_OF_any (by rfl) (rv_strs (us := ["a", "n", "r"]) (ls := [[97], [110], [114]]) lk_MADE_OF_any (by rfl))) (kTab_cons (kEnt_ref Dt__MADE_OF k_MADE_OF_bare (by rfl) (rv_strs (us := ["a", "n"]) (ls := [[97], [110]]) lk_MADE_OF_bare (by rfl))) (kTab_cons (kEnt_ref Dt__MADE_OF k_MADE_OF_lone (by rfl) (rv_strs (us := ["a", "r"]) (ls := [[97], [114]]) lk_MADE_OF_lone (by rfl))) kTab_nil)))
  have r__REPLACED : RTab S.toSg q__REPLACED rt__REPLACED := (rTab_cons (rEnt (as := [q_REPLACED_all0]) Dr__REPLACED r_REPLACED_all (by rfl) lr_REPLACED_all (pairsG_cons pr_REPLACED_all0 (by decide +kernel) (by rfl) (by rfl) (by decide) pairsG_nil)) (rTab_cons (rEnt (as := [q_REPLACED_both0, q_REPLACED_both1]) Dr__REPLACED r_REPLACED_both (by rfl) lr_REPLACED_both (pairsG_cons pr_REPLACED_both0 (by decide +kernel) (by rfl) (by rfl) (by decide) (pairsG_cons pr_REPLACED_both1 (by decide +kernel) (by rfl) (by rfl) (by decide) pairsG_nil))) (rTab_cons (rEnt (as := [q_REPLACED_care0, q_REPLACED_care1]) Dr__REPLACED r_REPLACED_care (by rfl) lr_REPLACED_care (pairsG_cons pr_REPLACED_care0 (by decide +kernel) (by rfl) (by rfl) (by decide) (pairsG_cons pr_REPLACED_care1 (by decide +kernel) (by rfl) (by rfl) (by decide) pairsG_nil))) (rTab_cons (rEnt (as := [q_REPLACED_lone0]) Dr__REPLACED r_REPLACED_lone (by rfl) lr_REPLACED_lone (pairsG_cons pr_REPLACED_lone0 (by decide +kernel) (by rfl) (by rfl) (by decide) pairsG_nil)) (rTab_cons (rEnt (as := [q_REPLACED_lones0, q_REPLACED_lones1, q_REPLACED_lones2]) Dr__REPLACED r_REPLACED_lones (by rfl) lr_REPLACED_lones (pairsG_cons pr_REPLACED_lones0 (by decide +kernel) (by rfl) (by rfl) (by decide) (pairsG_cons pr_REPLACED_lones1 (by decide +kernel) (by rfl) (by rfl) (by decide) (pairsG_cons pr_REPLACED_lones2 (by decide +kernel) (by rfl) (by rfl) (by decide) pairsG_nil)))) (rTab_cons (rEnt (as := [q_REPLACED_pairs0]) Dr__REPLACED r_REPLACED_pairs (by rfl) lr_REPLACED_pairs (pairsG_cons pr_REPLACED_pairs0 (by decide +kernel) (by rfl) (by rfl) (by decide) pairsG_nil)) rTab_nil))))))
  have o_Reader : ObjC S 0 := ⟨e_Reader.cl, e_Reader.ha, zc1, zc2, e_Reader.hm⟩
  have w_Reader := PySem.W.mg_of X G e_Reader.g
  have o_Swelling : ObjC S 1 := ⟨e_Swelling.cl, e_Swelling.ha, zc1, zc2, e_Swelling.hm⟩
  have w_Swelling := PySem.W.mg_of X G e_Swelling.g
  have o_AimWalk : ObjC S 2 := ⟨e_AimWalk.cl, e_AimWalk.ha, zc1, zc2, e_AimWalk.hm⟩
  have w_AimWalk := PySem.W.mg_of X G e_AimWalk.g
  have o_ChangeWalk : ObjC S 3 := ⟨e_ChangeWalk.cl, e_ChangeWalk.ha, zc1, zc2, e_ChangeWalk.hm⟩
  have w_ChangeWalk := PySem.W.mg_of X G e_ChangeWalk.g
  have o_Fitted : ObjC S 4 := ⟨e_Fitted.cl, e_Fitted.ha, zc1, zc2, e_Fitted.hm⟩
  have w_Fitted := PySem.W.mg_of X G e_Fitted.g
  have o_Unfit : ObjC S 5 := ⟨e_Unfit.cl, e_Unfit.ha, zc1, zc2, e_Unfit.hm⟩
  have w_Unfit := PySem.W.mg_of X G e_Unfit.g
  have f_way : Fld S "way" [(0, 0)] := (fld1 (fldP (l := ["way", "kind", "_known_moves", "_known_ends"]) e_Reader.cl a_0_way hn0 (by decide +kernel)))
  have f_kind : Fld S "kind" [(0, 1)] := (fld1 (fldP (l := ["way", "kind", "_known_moves", "_known_ends"]) e_Reader.cl a_0_kind hn0 (by decide +kernel)))
  have f__known_moves : Fld S "_known_moves" [(0, 2)] := (fld1 (fldP (l := ["way", "kind", "_known_moves", "_known_ends"]) e_Reader.cl a_0__known_moves hn0 (by decide +kernel)))
  have f__known_ends : Fld S "_known_ends" [(0, 3)] := (fld1 (fldP (l := ["way", "kind", "_known_moves", "_known_ends"]) e_Reader.cl a_0__known_ends hn0 (by decide +kernel)))
  have f_ahead : Fld S "ahead" [(1, 1)] := (fld1 (fldP (l := ["rate", "ahead", "ring", "heights"]) e_Swelling.cl a_1_ahead hn1 (by decide +kernel)))
  have f_ring : Fld S "ring" [(1, 2)] := (fld1 (fldP (l := ["rate", "ahead", "ring", "heights"]) e_Swelling.cl a_1_ring hn1 (by decide +kernel)))
  have f_rate : Fld S "rate" [(1, 0)] := (fld1 (fldP (l := ["rate", "ahead", "ring", "heights"]) e_Swelling.cl a_1_rate hn1 (by decide +kernel)))
  have f_heights : Fld S "heights" [(1, 3)] := (fld1 (fldP (l := ["rate", "ahead", "ring", "heights"]) e_Swelling.cl a_1_heights hn1 (by decide +kernel)))
  have f_reader : Fld S "reader" [(2, 0)] := (fld1 (fldP (l := ["reader", "wanted"]) e_AimWalk.cl a_2_reader hn2 (by decide +kernel)))
  have f_wanted : Fld S "wanted" [(2, 1)] := (fld1 (fldP (l := ["reader", "wanted"]) e_AimWalk.cl a_2_wanted hn2 (by decide +kernel)))
  have f_aim : Fld S "aim" [(3, 0)] := (fld1 (fldP (l := ["aim", "text"]) e_ChangeWalk.cl a_3_aim hn3 (by decide +kernel)))
  have f_text : Fld S "text" [(3, 1), (4, 0)] := (fld2 (fldP (l := ["aim", "text"]) e_ChangeWalk.cl a_3_text hn3 (by decide +kernel)) (fld1 (fldP (l := ["text", "floors"]) e_Fitted.cl a_4_text hn4 (by decide +kernel))))
  have f_floors : Fld S "floors" [(4, 1)] := (fld1 (fldP (l := ["text", "floors"]) e_Fitted.cl a_4_floors hn4 (by decide +kernel)))
  have f_places : Fld S "places" [(5, 0)] := (fld1 (fldP (l := ["places"]) e_Unfit.cl a_5_places hn5 (by decide +kernel)))
  have v_Fitted : IsT S (.ref (S.ct 4)) (tbOwn [(4, true), (5, false)] none) := isT2 o_Fitted o_Unfit i_Fitted_4 i_Fitted_5
  have v_Unfit : IsT S (.ref (S.ct 5)) (tbOwn [(4, false), (5, true)] none) := isT2 o_Fitted o_Unfit i_Unfit_4 i_Unfit_5
  have b_gcd := PySem.W.mg_of X G zgcd
  intro base
  have c_is_conversion : Cal S mg base "is_conversion" 1 ["word"] 1 K50.m_is_conversion f_is_conversion fd_is_conversion := ⟨ok_is_conversion (S := S) (mg := mg) (base := base) F_is_conversion n_isinstance n_str g_CONVERSIONS z_CONVERSIONS, F_is_conversion.kp, bd_is_conversion F_is_conversion, m_is_conversion⟩
  have c_is_way : Cal S mg base "is_way" 2 ["way"] 1 K50.m_is_way f_is_way fd_is_way := ⟨ok_is_way (S := S) (mg := mg) (base := base) F_is_way n_isinstance n_tuple n_len i_LONGEST n_all c_is_conversion, F_is_way.kp, bd_is_way F_is_way, m_is_way⟩
  have c_check_way : Cal S mg base "check_way" 3 ["way"] 1 K50.m_check_way f_check_way fd_check_way := ⟨ok_check_way (S := S) (mg := mg) (base := base) F_check_way c_is_way, F_check_way.kp, bd_check_way F_check_way, m_check_way⟩
  have c_check_kind : Cal S mg base "check_kind" 1 ["kind"] 1 K50.m_check_kind f_check_kind fd_check_kind := ⟨ok_check_kind (S := S) (mg := mg) (base := base) F_check_kind n_isinstance n_str g_KINDS z_KINDS, F_check_kind.kp, bd_check_kind F_check_kind, m_check_kind⟩
  have c_check_rates : Cal S mg base "check_rates" 4 ["way", "kind", "least"] 3 K50.m__check_rates f__check_rates fd__check_rates := ⟨ok__check_rates (S := S) (mg := mg) (base := base) F__check_rates c_check_way c_check_kind n_isinstance n_bool, F__check_rates.kp, bd__check_rates F__check_rates, m__check_rates⟩
  have q_Reader : Mak S mg base 0 "Reader" 1 ["self", "way", "kind"] 3 K50.m_Reader_init f_Reader_init fd_Reader_init 4 := ⟨ok_Reader_init (S := S) (mg := mg) (base := base) F_Reader_init f_way f_kind f__known_moves f__known_ends, ⟨e_Reader.mks, m_Reader_init, j_Reader_init, e_Reader.kp⟩, bd_Reader_init F_Reader_init, w_Reader, by rw [hn0]; rfl⟩
  have c_starting : Cal S mg base "starting" 1 ["way"] 1 K50.m_starting f_starting fd_starting := ⟨ok_starting (S := S) (mg := mg) (base := base) F_starting n_len, F_starting.kp, bd_starting F_starting, m_starting⟩
  have k_Reader_first : Met S mg base 0 "first" 2 ["self"] 1 K50.m_Reader_first f_Reader_first fd_Reader_first := ⟨ok_Reader_first (S := S) (mg := mg) (base := base) F_Reader_first c_starting f_way, e_Reader.cl, ⟨m_Reader_first, j_Reader_first, l_Reader_first⟩, bd_Reader_first F_Reader_first, by rw [hn0]; decide +kernel⟩
  have c__read_one : Cal S mg base "_read_one" 1 ["word", "flag", "sign"] 3 K50.m__read_one f__read_one fd__read_one := ⟨ok__read_one (S := S) (mg := mg) (base := base) F__read_one g__PLAIN t__PLAIN g__HELD t__HELD, F__read_one.kp, bd__read_one F__read_one, m__read_one⟩
  have c__read_all : Cal S mg base "_read_all" 2 ["word", "flag", "text"] 3 K50.m__read_all f__read_all fd__read_all := ⟨ok__read_all (S := S) (mg := mg) (base := base) F__read_all c__read_one, F__read_all.kp, bd__read_all F__read_all, m__read_all⟩
  have c_step : Cal S mg base "step" 3 ["way", "standing", "sign"] 3 K50.m_step f_step fd_step := ⟨ok_step (S := S) (mg := mg) (base := base) F_step n_zip c__read_all n_tuple, F_step.kp, bd_step F_step, m_step⟩
  have c_is_half : Cal S mg base "is_half" 1 ["kind", "sign"] 2 K50.m_is_half f_is_half fd_is_half := ⟨ok_is_half (S := S) (mg := mg) (base := base) F_is_half , F_is_half.kp, bd_is_half F_is_half, m_is_half⟩
  have k_Reader__move : Met S mg base 0 "_move" 4 ["self", "place", "sign"] 3 K50.m_Reader_move f_Reader_move fd_Reader_move := ⟨ok_Reader_move (S := S) (mg := mg) (base := base) F_Reader_move c_step f_way c_is_half f_kind, e_Reader.cl, ⟨m_Reader_move, j_Reader_move, l_Reader_move⟩, bd_Reader_move F_Reader_move, by rw [hn0]; decide +kernel⟩
  have c_coming : Cal S mg base "coming" 1 ["kind", "waits"] 2 K50.m_coming f_coming fd_coming := ⟨ok_coming (S := S) (mg := mg) (base := base) F_coming g__MADE_OF t__MADE_OF, F_coming.kp, bd_coming F_coming, m_coming⟩
  have k_Reader_moves : Met S mg base 0 "moves" 5 ["self", "place"] 2 K50.m_Reader_moves f_Reader_moves fd_Reader_moves := ⟨ok_Reader_moves (S := S) (mg := mg) (base := base) F_Reader_moves f__known_moves c_coming f_kind k_Reader__move, e_Reader.cl, ⟨m_Reader_moves, j_Reader_moves, l_Reader_moves⟩, bd_Reader_moves F_Reader_moves, by rw [hn0]; decide +kernel⟩
  have c_ending : Cal S mg base "ending" 3 ["way", "standing"] 2 K50.m_ending f_ending fd_ending := ⟨ok_ending (S := S) (mg := mg) (base := base) F_ending n_zip c__read_all g__HELD t__HELD, F_ending.kp, bd_ending F_ending, m_ending⟩
  have k_Reader_end : Met S mg base 0 "end" 4 ["self", "place"] 2 K50.m_Reader_end f_Reader_end fd_Reader_end := ⟨ok_Reader_end (S := S) (mg := mg) (base := base) F_Reader_end f__known_ends c_ending f_way, e_Reader.cl, ⟨m_Reader_end, j_Reader_end, l_Reader_end⟩, bd_Reader_end F_Reader_end, by rw [hn0]; decide +kernel⟩
  have k_Reader_reached : Met S mg base 0 "reached" 6 ["self"] 1 K50.m_Reader_reached f_Reader_reached fd_Reader_reached := ⟨ok_Reader_reached (S := S) (mg := mg) (base := base) F_Reader_reached k_Reader_first k_Reader_moves, e_Reader.cl, ⟨m_Reader_reached, j_Reader_reached, l_Reader_reached⟩, bd_Reader_reached F_Reader_reached, by rw [hn0]; decide +kernel⟩
  have c_walked : Cal S mg base "walked" 6 ["reader", "place", "text"] 3 K50.m_walked f_walked fd_walked := ⟨ok_walked (S := S) (mg := mg) (base := base) F_walked k_Reader_moves n_len, F_walked.kp, bd_walked F_walked, m_walked⟩
  have c_is_text : Cal S mg base "is_text" 1 ["text"] 1 K50.m_is_text f_is_text fd_is_text := ⟨ok_is_text (S := S) (mg := mg) (base := base) F_is_text n_isinstance n_str n_all g_SIGNS z_SIGNS, F_is_text.kp, bd_is_text F_is_text, m_is_text⟩
  have c_rate_of : Cal S mg base "rate_of" 7 ["reader", "place", "ring"] 3 K50.m_rate_of f_rate_of fd_rate_of := ⟨ok_rate_of (S := S) (mg := mg) (base := base) F_rate_of c_walked b_gcd n_len, F_rate_of.kp, bd_rate_of F_rate_of, m_rate_of⟩
  have c_is_integer : Cal S mg base "is_integer" 1 ["number"] 1 K50.m_is_integer f_is_integer fd_is_integer := ⟨ok_is_integer (S := S) (mg := mg) (base := base) F_is_integer n_isinstance n_int n_bool, F_is_integer.kp, bd_is_integer F_is_integer, m_is_integer⟩
  have k_Swelling__has_rate : Met S mg base 1 "_has_rate" 8 ["self", "reader"] 2 K50.m_Swelling_has_rate f_Swelling_has_rate fd_Swelling_has_rate := ⟨ok_Swelling_has_rate (S := S) (mg := mg) (base := base) F_Swelling_has_rate c_is_text f_ahead f_ring c_walked k_Reader_first f_rate c_rate_of n_isinstance n_tuple n_all c_is_integer, e_Swelling.cl, ⟨m_Swelling_has_rate, j_Swelling_has_rate, l_Swelling_has_rate⟩, bd_Swelling_has_rate F_Swelling_has_rate, by rw [hn1]; decide +kernel⟩
  have c_is_standing : Cal S mg base "is_standing" 1 ["way", "standing"] 2 K50.m_is_standing f_is_standing fd_is_standing := ⟨ok_is_standing (S := S) (mg := mg) (base := base) F_is_standing n_isinstance n_tuple n_len n_all n_zip n_bool g__PLAIN t__PLAIN, F_is_standing.kp, bd_is_standing F_is_standing, m_is_standing⟩
  have c_is_place : Cal S mg base "is_place" 2 ["way", "place"] 2 K50.m_is_place f_is_place fd_is_place := ⟨ok_is_place (S := S) (mg := mg) (base := base) F_is_place n_isinstance n_tuple n_len c_is_standing n_bool, F_is_place.kp, bd_is_place F_is_place, m_is_place⟩
  have k_Swelling__is_closed : Met S mg base 1 "_is_closed" 6 ["self", "reader"] 2 K50.m_Swelling_is_closed f_Swelling_is_closed fd_Swelling_is_closed := ⟨ok_Swelling_is_closed (S := S) (mg := mg) (base := base) F_Swelling_is_closed n_all f_heights c_is_place f_way c_is_integer k_Reader_first k_Reader_moves, e_Swelling.cl, ⟨m_Swelling_is_closed, j_Swelling_is_closed, l_Swelling_is_closed⟩, bd_Swelling_is_closed F_Swelling_is_closed, by rw [hn1]; decide +kernel⟩
  have c_weight : Cal S mg base "weight" 1 ["rate", "given", "least"] 3 K50.m_weight f_weight fd_weight := ⟨ok_weight (S := S) (mg := mg) (base := base) F_weight n_len, F_weight.kp, bd_weight F_weight, m_weight⟩
  have k_Swelling__falls : Met S mg base 1 "_falls" 6 ["self", "reader", "least"] 3 K50.m_Swelling_falls f_Swelling_falls fd_Swelling_falls := ⟨ok_Swelling_falls (S := S) (mg := mg) (base := base) F_Swelling_falls n_all f_heights k_Reader_moves c_weight f_rate, e_Swelling.cl, ⟨m_Swelling_falls, j_Swelling_falls, l_Swelling_falls⟩, bd_Swelling_falls F_Swelling_falls, by rw [hn1]; decide +kernel⟩
  have k_Swelling_shows : MetK S mg base 1 "shows" 9 ["self", "way", "kind", "least"] 3 K50.m_Swelling_shows "least" f_Swelling_shows fd_Swelling_shows := ⟨ok_Swelling_shows (S := S) (mg := mg) (base := base) F_Swelling_shows c_check_rates q_Reader k_Swelling__has_rate k_Swelling__is_closed k_Swelling__falls, e_Swelling.cl, ⟨m_Swelling_shows, j_Swelling_shows, l_Swelling_shows⟩, bd_Swelling_shows F_Swelling_shows, kb_Swelling_shows F_Swelling_shows, by rw [hn1]; decide +kernel⟩
  have q_Swelling : Mak S mg base 1 "Swelling" 1 ["self", "rate", "ahead", "ring", "heights"] 5 K50.m_Swelling_init f_Swelling_init fd_Swelling_init 4 := ⟨ok_Swelling_init (S := S) (mg := mg) (base := base) F_Swelling_init f_rate f_ahead f_ring f_heights, ⟨e_Swelling.mks, m_Swelling_init, j_Swelling_init, e_Swelling.kp⟩, bd_Swelling_init F_Swelling_init, w_Swelling, by rw [hn1]; rfl⟩
  have c__ring_behind : Cal S mg base "_ring_behind" 1 ["chosen", "place"] 2 K50.m__ring_behind f__ring_behind fd__ring_behind := ⟨ok__ring_behind (S := S) (mg := mg) (base := base) F__ring_behind , F__ring_behind.kp, bd__ring_behind F__ring_behind, m__ring_behind⟩
  have c__lift : Cal S mg base "_lift" 6 ["reader", "heights", "chosen", "rate", "least"] 5 K50.m__lift f__lift fd__lift := ⟨ok__lift (S := S) (mg := mg) (base := base) F__lift n_list k_Reader_moves c_weight, F__lift.kp, bd__lift F__lift, m__lift⟩
  have c__climb : Cal S mg base "_climb" 7 ["reader", "places", "rate", "least"] 4 K50.m__climb f__climb fd__climb := ⟨ok__climb (S := S) (mg := mg) (base := base) F__climb c__lift, F__climb.kp, bd__climb F__climb, m__climb⟩
  have c_best_ring : Cal S mg base "best_ring" 8 ["reader", "least"] 2 K50.m_best_ring f_best_ring fd_best_ring := ⟨ok_best_ring (S := S) (mg := mg) (base := base) F_best_ring n_list k_Reader_reached k_Reader_moves k_Reader_first c__ring_behind c_rate_of c__climb, F_best_ring.kp, bd_best_ring F_best_ring, m_best_ring⟩
  have c_swell : CalK S mg base "swell" 9 ["way", "kind", "least"] 2 K50.m_swell "least" f_swell fd_swell := ⟨ok_swell (S := S) (mg := mg) (base := base) F_swell c_check_rates q_Reader c_best_ring q_Swelling k_Reader_reached, F_swell.kp, bd_swell F_swell, kb_swell F_swell, m_swell⟩
  have c_greatest_rate : Cal S mg base "greatest_rate" 10 ["way", "kind"] 2 K50.m_greatest_rate f_greatest_rate fd_greatest_rate := ⟨ok_greatest_rate (S := S) (mg := mg) (base := base) F_greatest_rate f_rate c_swell, F_greatest_rate.kp, bd_greatest_rate F_greatest_rate, m_greatest_rate⟩
  have c_least_rate : Cal S mg base "least_rate" 10 ["way", "kind"] 2 K50.m_least_rate f_least_rate fd_least_rate := ⟨ok_least_rate (S := S) (mg := mg) (base := base) F_least_rate f_rate c_swell, F_least_rate.kp, bd_least_rate F_least_rate, m_least_rate⟩
  have c__law_rates_right : Cal S mg base "_law_rates_right" 11 [] 0 K50.m__law_rates_right f__law_rates_right fd__law_rates_right := ⟨ok__law_rates_right (S := S) (mg := mg) (base := base) F__law_rates_right c_greatest_rate c_least_rate f_rate c_swell q_Swelling k_Swelling_shows n_any, F__law_rates_right.kp, bd__law_rates_right F__law_rates_right, m__law_rates_right⟩
  have c__is_short : Cal S mg base "_is_short" 2 ["text"] 1 K50.m__is_short f__is_short fd__is_short := ⟨ok__is_short (S := S) (mg := mg) (base := base) F__is_short c_is_text n_len i_MOST_SIGNS, F__is_short.kp, bd__is_short F__is_short, m__is_short⟩
  have c__check_short : Cal S mg base "_check_short" 3 ["text"] 1 K50.m__check_short f__check_short fd__check_short := ⟨ok__check_short (S := S) (mg := mg) (base := base) F__check_short c__is_short, F__check_short.kp, bd__check_short F__check_short, m__check_short⟩
  have c_check_fitting : Cal S mg base "check_fitting" 4 ["way", "kind", "text", "wanted"] 4 K50.m__check_fitting f__check_fitting fd__check_fitting := ⟨ok__check_fitting (S := S) (mg := mg) (base := base) F__check_fitting c_check_way c_check_kind c__check_short c__is_short, F__check_fitting.kp, bd__check_fitting F__check_fitting, m__check_fitting⟩
  have k_AimWalk_steps : Met S mg base 2 "steps" 6 ["self", "node"] 2 K50.m_AimWalk_steps f_AimWalk_steps fd_AimWalk_steps := ⟨ok_AimWalk_steps (S := S) (mg := mg) (base := base) F_AimWalk_steps k_Reader_moves f_reader f_wanted n_len, e_AimWalk.cl, ⟨m_AimWalk_steps, j_AimWalk_steps, l_AimWalk_steps⟩, bd_AimWalk_steps F_AimWalk_steps, by rw [hn2]; decide +kernel⟩
  have k_ChangeWalk_steps : Met S mg base 3 "steps" 7 ["self", "node"] 2 K50.m_ChangeWalk_steps f_ChangeWalk_steps fd_ChangeWalk_steps := ⟨ok_ChangeWalk_steps (S := S) (mg := mg) (base := base) F_ChangeWalk_steps k_AimWalk_steps f_aim n_len f_text, e_ChangeWalk.cl, ⟨m_ChangeWalk_steps, j_ChangeWalk_steps, l_ChangeWalk_steps⟩, bd_ChangeWalk_steps F_ChangeWalk_steps, by rw [hn3]; decide +kernel⟩
  have k_AimWalk_first : Met S mg base 2 "first" 3 ["self"] 1 K50.m_AimWalk_first f_AimWalk_first fd_AimWalk_first := ⟨ok_AimWalk_first (S := S) (mg := mg) (base := base) F_AimWalk_first k_Reader_first f_reader, e_AimWalk.cl, ⟨m_AimWalk_first, j_AimWalk_first, l_AimWalk_first⟩, bd_AimWalk_first F_AimWalk_first, by rw [hn2]; decide +kernel⟩
  have k_ChangeWalk_first : Met S mg base 3 "first" 4 ["self"] 1 K50.m_ChangeWalk_first f_ChangeWalk_first fd_ChangeWalk_first := ⟨ok_ChangeWalk_first (S := S) (mg := mg) (base := base) F_ChangeWalk_first k_AimWalk_first f_aim, e_ChangeWalk.cl, ⟨m_ChangeWalk_first, j_ChangeWalk_first, l_ChangeWalk_first⟩, bd_ChangeWalk_first F_ChangeWalk_first, by rw [hn3]; decide +kernel⟩
  have k_AimWalk_is_end : Met S mg base 2 "is_end" 5 ["self", "node"] 2 K50.m_AimWalk_is_end f_AimWalk_is_end fd_AimWalk_is_end := ⟨ok_AimWalk_is_end (S := S) (mg := mg) (base := base) F_AimWalk_is_end k_Reader_end f_reader n_len f_wanted, e_AimWalk.cl, ⟨m_AimWalk_is_end, j_AimWalk_is_end, l_AimWalk_is_end⟩, bd_AimWalk_is_end F_AimWalk_is_end, by rw [hn2]; decide +kernel⟩
  have k_ChangeWalk_is_end : Met S mg base 3 "is_end" 6 ["self", "node"] 2 K50.m_ChangeWalk_is_end f_ChangeWalk_is_end fd_ChangeWalk_is_end := ⟨ok_ChangeWalk_is_end (S := S) (mg := mg) (base := base) F_ChangeWalk_is_end n_len f_text k_AimWalk_is_end f_aim, e_ChangeWalk.cl, ⟨m_ChangeWalk_is_end, j_ChangeWalk_is_end, l_ChangeWalk_is_end⟩, bd_ChangeWalk_is_end F_ChangeWalk_is_end, by rw [hn3]; decide +kernel⟩
  have c_is_within : Cal S mg base "is_within" 2 ["number", "low", "high"] 3 K50.m_is_within f_is_within fd_is_within := ⟨ok_is_within (S := S) (mg := mg) (base := base) F_is_within c_is_integer, F_is_within.kp, bd_is_within F_is_within, m_is_within⟩
  have k_AimWalk_is_node : Met S mg base 2 "is_node" 3 ["self", "node"] 2 K50.m_AimWalk_is_node f_AimWalk_is_node fd_AimWalk_is_node := ⟨ok_AimWalk_is_node (S := S) (mg := mg) (base := base) F_AimWalk_is_node n_isinstance n_tuple n_len c_is_place f_way f_reader c_is_within f_wanted, e_AimWalk.cl, ⟨m_AimWalk_is_node, j_AimWalk_is_node, l_AimWalk_is_node⟩, bd_AimWalk_is_node F_AimWalk_is_node, by rw [hn2]; decide +kernel⟩
  have k_ChangeWalk_is_node : Met S mg base 3 "is_node" 4 ["self", "node"] 2 K50.m_ChangeWalk_is_node f_ChangeWalk_is_node fd_ChangeWalk_is_node := ⟨ok_ChangeWalk_is_node (S := S) (mg := mg) (base := base) F_ChangeWalk_is_node n_isinstance n_tuple n_len c_is_within f_text k_AimWalk_is_node f_aim, e_ChangeWalk.cl, ⟨m_ChangeWalk_is_node, j_ChangeWalk_is_node, l_ChangeWalk_is_node⟩, bd_ChangeWalk_is_node F_ChangeWalk_is_node, by rw [hn3]; decide +kernel⟩
  have c_are_floors : Cal S mg base "are_floors" 8 ["walk", "floors", "total"] 3 K50.m_are_floors f_are_floors fd_are_floors := ⟨ok_are_floors (S := S) (mg := mg) (base := base) F_are_floors n_all k_ChangeWalk_is_node c_is_integer k_ChangeWalk_first k_ChangeWalk_is_end k_ChangeWalk_steps, F_are_floors.kp, bd_are_floors F_are_floors, m_are_floors⟩
  have q_AimWalk : Mak S mg base 2 "AimWalk" 3 ["self", "way", "kind", "wanted"] 4 K50.m_AimWalk_init f_AimWalk_init fd_AimWalk_init 2 := ⟨ok_AimWalk_init (S := S) (mg := mg) (base := base) F_AimWalk_init f_reader q_Reader f_wanted, ⟨e_AimWalk.mks, m_AimWalk_init, j_AimWalk_init, e_AimWalk.kp⟩, bd_AimWalk_init F_AimWalk_init, w_AimWalk, by rw [hn2]; rfl⟩
  have k_AimWalk_signs : Met S mg base 2 "signs" 7 ["self", "node"] 2 K50.m_AimWalk_signs f_AimWalk_signs fd_AimWalk_signs := ⟨ok_AimWalk_signs (S := S) (mg := mg) (base := base) F_AimWalk_signs k_AimWalk_steps, e_AimWalk.cl, ⟨m_AimWalk_signs, j_AimWalk_signs, l_AimWalk_signs⟩, bd_AimWalk_signs F_AimWalk_signs, by rw [hn2]; decide +kernel⟩
  have k_AimWalk_behind : Met S mg base 2 "behind" 7 ["self", "node", "sign"] 3 K50.m_AimWalk_behind f_AimWalk_behind fd_AimWalk_behind := ⟨ok_AimWalk_behind (S := S) (mg := mg) (base := base) F_AimWalk_behind k_AimWalk_steps, e_AimWalk.cl, ⟨m_AimWalk_behind, j_AimWalk_behind, l_AimWalk_behind⟩, bd_AimWalk_behind F_AimWalk_behind, by rw [hn2]; decide +kernel⟩
  have k_AimWalk_is_fine : Met S mg base 2 "is_fine" 6 ["self", "node"] 2 K50.m_AimWalk_is_fine f_AimWalk_is_fine fd_AimWalk_is_fine := ⟨ok_AimWalk_is_fine (S := S) (mg := mg) (base := base) F_AimWalk_is_fine k_AimWalk_is_end, e_AimWalk.cl, ⟨m_AimWalk_is_fine, j_AimWalk_is_fine, l_AimWalk_is_fine⟩, bd_AimWalk_is_fine F_AimWalk_is_fine, by rw [hn2]; decide +kernel⟩
  have q_ChangeWalk : Mak S mg base 3 "ChangeWalk" 5 ["self", "way", "kind", "text", "wanted"] 5 K50.m_ChangeWalk_init f_ChangeWalk_init fd_ChangeWalk_init 2 := ⟨ok_ChangeWalk_init (S := S) (mg := mg) (base := base) F_ChangeWalk_init f_aim q_AimWalk f_text, ⟨e_ChangeWalk.mks, m_ChangeWalk_init, j_ChangeWalk_init, e_ChangeWalk.kp⟩, bd_ChangeWalk_init F_ChangeWalk_init, w_ChangeWalk, by rw [hn3]; rfl⟩
  have c_distance_between : Cal S mg base "distance_between" 1 ["text", "other"] 2 K50.m_distance_between f_distance_between fd_distance_between := ⟨ok_distance_between (S := S) (mg := mg) (base := base) F_distance_between n_list n_range n_len n_enumerate n_min, F_distance_between.kp, bd_distance_between F_distance_between, m_distance_between⟩
  have c_fits : Cal S mg base "fits" 1 ["text", "kind"] 2 K50.m_fits f_fits fd_fits := ⟨ok_fits (S := S) (mg := mg) (base := base) F_fits , F_fits.kp, bd_fits F_fits, m_fits⟩
  have c_turn : Cal S mg base "turn" 1 ["way", "text"] 2 K50.m_turn f_turn fd_turn := ⟨ok_turn (S := S) (mg := mg) (base := base) F_turn g__REPLACED r__REPLACED, F_turn.kp, bd_turn F_turn, m_turn⟩
  have k_Fitted_shows : Met S mg base 4 "shows" 9 ["self", "way", "kind", "text", "wanted"] 5 K50.m_Fitted_shows f_Fitted_shows fd_Fitted_shows := ⟨ok_Fitted_shows (S := S) (mg := mg) (base := base) F_Fitted_shows c_check_fitting c_is_text f_text c_fits c_turn c_are_floors c_distance_between f_floors q_ChangeWalk, e_Fitted.cl, ⟨m_Fitted_shows, j_Fitted_shows, l_Fitted_shows⟩, bd_Fitted_shows F_Fitted_shows, by rw [hn4]; decide +kernel⟩
  have c_is_closed : Cal S mg base "is_closed" 8 ["walk", "nodes"] 2 K50.m_is_closed f_is_closed fd_is_closed := ⟨ok_is_closed (S := S) (mg := mg) (base := base) F_is_closed n_all k_AimWalk_is_node k_AimWalk_first k_AimWalk_is_fine k_AimWalk_signs k_AimWalk_behind, F_is_closed.kp, bd_is_closed F_is_closed, m_is_closed⟩
  have k_Unfit_shows : Met S mg base 5 "shows" 9 ["self", "way", "kind", "text", "wanted"] 5 K50.m_Unfit_shows f_Unfit_shows fd_Unfit_shows := ⟨ok_Unfit_shows (S := S) (mg := mg) (base := base) F_Unfit_shows c_check_fitting c_is_closed f_places q_AimWalk, e_Unfit.cl, ⟨m_Unfit_shows, j_Unfit_shows, l_Unfit_shows⟩, bd_Unfit_shows F_Unfit_shows, by rw [hn5]; decide +kernel⟩
  have c__steps_ahead : Cal S mg base "_steps_ahead" 8 ["walk"] 1 K50.m__steps_ahead f__steps_ahead fd__steps_ahead := ⟨ok__steps_ahead (S := S) (mg := mg) (base := base) F__steps_ahead k_ChangeWalk_first k_ChangeWalk_steps, F__steps_ahead.kp, bd__steps_ahead F__steps_ahead, m__steps_ahead⟩
  have c_costs_to_end : Cal S mg base "costs_to_end" 9 ["walk"] 1 K50.m_costs_to_end f_costs_to_end fd_costs_to_end := ⟨ok_costs_to_end (S := S) (mg := mg) (base := base) F_costs_to_end c__steps_ahead k_ChangeWalk_is_end, F_costs_to_end.kp, bd_costs_to_end F_costs_to_end, m_costs_to_end⟩
  have q_Fitted : Mak S mg base 4 "Fitted" 1 ["self", "text", "floors"] 3 K50.m_Fitted_init f_Fitted_init fd_Fitted_init 2 := ⟨ok_Fitted_init (S := S) (mg := mg) (base := base) F_Fitted_init f_text f_floors, ⟨e_Fitted.mks, m_Fitted_init, j_Fitted_init, e_Fitted.kp⟩, bd_Fitted_init F_Fitted_init, w_Fitted, by rw [hn4]; rfl⟩
  have c_search : Cal S mg base "search" 8 ["walk"] 1 K50.m_search f_search fd_search := ⟨ok_search (S := S) (mg := mg) (base := base) F_search k_AimWalk_first k_AimWalk_is_fine k_AimWalk_signs k_AimWalk_behind n_list, F_search.kp, bd_search F_search, m_search⟩
  have q_Unfit : Mak S mg base 5 "Unfit" 1 ["self", "places"] 2 K50.m_Unfit_init f_Unfit_init fd_Unfit_init 1 := ⟨ok_Unfit_init (S := S) (mg := mg) (base := base) F_Unfit_init f_places n_list, ⟨e_Unfit.mks, m_Unfit_init, j_Unfit_init, e_Unfit.kp⟩, bd_Unfit_init F_Unfit_init, w_Unfit, by rw [hn5]; rfl⟩
  have c_cheapest_text : Cal S mg base "cheapest_text" 8 ["walk", "costs"] 2 K50.m_cheapest_text f_cheapest_text fd_cheapest_text := ⟨ok_cheapest_text (S := S) (mg := mg) (base := base) F_cheapest_text k_ChangeWalk_first k_ChangeWalk_is_end k_ChangeWalk_steps, F_cheapest_text.kp, bd_cheapest_text F_cheapest_text, m_cheapest_text⟩
  have c_fit : Cal S mg base "fit" 10 ["way", "kind", "text", "wanted"] 4 K50.m_fit f_fit fd_fit := ⟨ok_fit (S := S) (mg := mg) (base := base) F_fit c_check_fitting q_ChangeWalk c_costs_to_end k_ChangeWalk_first c_search q_AimWalk q_Unfit n_min q_Fitted c_cheapest_text, F_fit.kp, bd_fit F_fit, m_fit⟩
  have c_least_change : Cal S mg base "least_change" 11 ["way", "kind", "text", "wanted"] 4 K50.m_least_change f_least_change fd_least_change := ⟨ok_least_change (S := S) (mg := mg) (base := base) F_least_change c_fit n_isinstance w_Fitted v_Fitted c_distance_between f_text, F_least_change.kp, bd_least_change F_least_change, m_least_change⟩
  have c_distance : Cal S mg base "distance" 4 ["text", "other"] 2 K50.m_distance f_distance fd_distance := ⟨ok_distance (S := S) (mg := mg) (base := base) F_distance c__check_short c_distance_between, F_distance.kp, bd_distance F_distance, m_distance⟩
  have c__law_fitted_right : Cal S mg base "_law_fitted_right" 12 [] 0 K50.m__law_fitted_right f__law_fitted_right fd__law_fitted_right := ⟨ok__law_fitted_right (S := S) (mg := mg) (base := base) F__law_fitted_right n_all c_distance c_fit c_least_change k_Fitted_shows k_Unfit_shows n_isinstance w_Unfit v_Unfit f_text q_Fitted q_Unfit, F__law_fitted_right.kp, bd__law_fitted_right F__law_fitted_right, m__law_fitted_right⟩
  exact (ok_law (S := S) (mg := mg) (base := base) FL n_int n_sum n_abs c__law_rates_right c__law_fitted_right).imp (law_imp tt)
end K50
namespace K50
open PySem PySem.Spec PyProof.Rows L2 RZ PpSet Rm

def mkS (P : Program) (w : World) (K : PySem.W.Frag) (C0 C1 C2 C3 C4 C5 : Addr) : Se := ⟨⟨P, w, K, fun n => match n with | 0 => C0 | 1 => C1 | 2 => C2 | 3 => C3 | 4 => C4 | 5 => C5 | _ => 0, fun n => match n with | 0 => ["way", "kind", "_known_moves", "_known_ends"] | 1 => ["rate", "ahead", "ring", "heights"] | 2 => ["reader", "wanted"] | 3 => ["aim", "text"] | 4 => ["text", "floors"] | 5 => ["places"] | _ => []⟩, fun _ => 0⟩
theorem hfacts {P : Program} {w : World} {K : PySem.W.Frag} {h h0 : Heap} {mg : Str → Option Value} {f : Addr} (X : K.In h) (G : h.Ns mainGlobals mg) (hfa : mg ("law" : Str) = some (.ref f)) (c : He.SaysX h_fa h_fn h_ts [] h_ex w h0 K) :
    ∃ fd : FuncData, (∀ (s : Shared) (v : Value), BindsTo s fd ⟨[v], []⟩ [("script", v)]) ∧ ∀ base : Heap, K.In base → base.Ns mainGlobals mg → FnOk P w K mg base CX0 13 f fd ["script"] (spLawR K) := by
  obtain ⟨fd, F⟩ := c.t.d.def_ 72 (d := dfn "law" none "law" "law" s_law) (by rfl)
  have e := hfa.symm.trans (He.glo_ok X G (c.t.d.fact 72 (f := .glo "law") (by rfl)))
  cases e
  have b := FunD.bindsA (ps := ["script"]) F fun _ _ _ _ _ _ us hl => match us, hl with | [_], _ => rfl
  refine ⟨fd, fun s v => b s [v] rfl, fun base _ _ => ?_⟩
  exact all_S (S := mkS P w K (He.ga K "Reader") (He.ga K "Swelling") (He.ga K "AimWalk") (He.ga K "ChangeWalk") (He.ga K "Fitted") (He.ga K "Unfit")) (q_CONVERSIONS := (He.ga K "CONVERSIONS")) (q_KINDS := (He.ga K "KINDS")) (q_SIGNS := (He.ga K "SIGNS")) (q__PLAIN := (He.ga K "_PLAIN")) (q__HELD := (He.ga K "_HELD")) (q_HELD_both := (va K (He.ga K "_HELD") "both")) (q_HELD_lones := (va K (He.ga K "_HELD") "lones")) (q_HELD_pairs := (va K (He.ga K "_HELD") "pairs")) (q__MADE_OF := (He.ga K "_MADE_OF")) (q_MADE_OF_any := (va K (He.ga K "_MADE_OF") "any")) (q_MADE_OF_bare := (va K (He.ga K "_MADE_OF") "bare")) (q_MADE_OF_lone := (va K (He.ga K "_MADE_OF") "lone")) (q__REPLACED := (He.ga K "_REPLACED")) (q_REPLACED_all := (va K (He.ga K "_REPLACED") "all")) (q_REPLACED_all0 := (ia K (va K (He.ga K "_REPLACED") "all") 0)) (q_REPLACED_both := (va K (He.ga K "_REPLACED") "both")) (q_REPLACED_both0 := (ia K (va K (He.ga K "_REPLACED") "both") 0)) (q_REPLACED_both1 := (ia K (va K (He.ga K "_REPLACED") "both") 1)) (q_REPLACED_care := (va K (He.ga K "_REPLACED") "care")) (q_REPLACED_care0 := (ia K (va K (He.ga K "_REPLACED") "care") 0)) (q_REPLACED_care1 := (ia K (va K (He.ga K "_REPLACED") "care") 1)) (q_REPLACED_lone := (va K (He.ga K "_REPLACED") "lone")) (q_REPLACED_lone0 := (ia K (va K (He.ga K "_REPLACED") "lone") 0)) (q_REPLACED_lones := (va K (He.ga K "_REPLACED") "lones")) (q_REPLACED_lones0 := (ia K (va K (He.ga K "_REPLACED") "lones") 0)) (q_REPLACED_lones1 := (ia K (va K (He.ga K "_REPLACED") "lones") 1)) (q_REPLACED_lones2 := (ia K (va K (He.ga K "_REPLACED") "lones") 2)) (q_REPLACED_pairs := (va K (He.ga K "_REPLACED") "pairs")) (q_REPLACED_pairs0 := (ia K (va K (He.ga K "_REPLACED") "pairs") 0)) rfl rfl rfl rfl rfl rfl Sx.tt X G (fun_ofD F)
    (fnG_of c.t.d 0 0 (by rfl) (by rfl))
    (fnG_of c.t.d 1 1 (by rfl) (by rfl))
    (fnG_of c.t.d 2 2 (by rfl) (by rfl))
    (fnG_of c.t.d 3 3 (by rfl) (by rfl))
    (fnG_of c.t.d 4 4 (by rfl) (by rfl))
    (mtG_of (x := "Reader") c.t.d 5 5 (by rfl) (by rfl))
    (fnG_of c.t.d 6 6 (by rfl) (by rfl))
    (mtG_of (x := "Reader") c.t.d 7 7 (by rfl) (by rfl))
    (fnG_of c.t.d 8 8 (by rfl) (by rfl))
    (fnG_of c.t.d 9 9 (by rfl) (by rfl))
    (fnG_of c.t.d 10 10 (by rfl) (by rfl))
    (fnG_of c.t.d 11 11 (by rfl) (by rfl))
    (mtG_of (x := "Reader") c.t.d 12 12 (by rfl) (by rfl))
    (fnG_of c.t.d 13 13 (by rfl) (by rfl))
    (mtG_of (x := "Reader") c.t.d 14 14 (by rfl) (by rfl))
    (fnG_of c.t.d 15 15 (by rfl) (by rfl))
    (mtG_of (x := "Reader") c.t.d 16 16 (by rfl) (by rfl))
    (mtG_of (x := "Reader") c.t.d 17 17 (by rfl) (by rfl))
    (fnG_of c.t.d 18 18 (by rfl) (by rfl))
    (fnG_of c.t.d 19 19 (by rfl) (by rfl))
    (fnG_of c.t.d 20 20 (by rfl) (by rfl))
    (fnG_of c.t.d 21 21 (by rfl) (by rfl))
    (mtG_of (x := "Swelling") c.t.d 22 22 (by rfl) (by rfl))
    (fnG_of c.t.d 23 23 (by rfl) (by rfl))
    (fnG_of c.t.d 24 24 (by rfl) (by rfl))
    (mtG_of (x := "Swelling") c.t.d 25 25 (by rfl) (by rfl))
    (fnG_of c.t.d 26 26 (by rfl) (by rfl))
    (mtG_of (x := "Swelling") c.t.d 27 27 (by rfl) (by rfl))
    (mtK_of (x := "Swelling") c.t.d 28 28 (by rfl) (by rfl))
    (mtG_of (x := "Swelling") c.t.d 29 29 (by rfl) (by rfl))
    (fnG_of c.t.d 30 30 (by rfl) (by rfl))
    (fnG_of c.t.d 31 31 (by rfl) (by rfl))
    (fnG_of c.t.d 32 32 (by rfl) (by rfl))
    (fnG_of c.t.d 33 33 (by rfl) (by rfl))
    (fnK_of c.t.d 34 34 (by rfl) (by rfl))
    (fnG_of c.t.d 35 35 (by rfl) (by rfl))
    (fnG_of c.t.d 36 36 (by rfl) (by rfl))
    (fnG_of c.t.d 37 37 (by rfl) (by rfl))
    (fnG_of c.t.d 38 38 (by rfl) (by rfl))
    (fnG_of c.t.d 39 39 (by rfl) (by rfl))
    (fnG_of c.t.d 40 40 (by rfl) (by rfl))
    (mtG_of (x := "AimWalk") c.t.d 41 41 (by rfl) (by rfl))
    (mtG_of (x := "ChangeWalk") c.t.d 42 42 (by rfl) (by rfl))
    (mtG_of (x := "AimWalk") c.t.d 43 43 (by rfl) (by rfl))
    (mtG_of (x := "ChangeWalk") c.t.d 44 44 (by rfl) (by rfl))
    (mtG_of (x := "AimWalk") c.t.d 45 45 (by rfl) (by rfl))
    (mtG_of (x := "ChangeWalk") c.t.d 46 46 (by rfl) (by rfl))
    (fnG_of c.t.d 47 47 (by rfl) (by rfl))
    (mtG_of (x := "AimWalk") c.t.d 48 48 (by rfl) (by rfl))
    (mtG_of (x := "ChangeWalk") c.t.d 49 49 (by rfl) (by rfl))
    (fnG_of c.t.d 50 50 (by rfl) (by rfl))
    (mtG_of (x := "AimWalk") c.t.d 51 51 (by rfl) (by rfl))
    (mtG_of (x := "AimWalk") c.t.d 52 52 (by rfl) (by rfl))
    (mtG_of (x := "AimWalk") c.t.d 53 53 (by rfl) (by rfl))
    (mtG_of (x := "AimWalk") c.t.d 54 54 (by rfl) (by rfl))
    (mtG_of (x := "ChangeWalk") c.t.d 55 55 (by rfl) (by rfl))
    (fnG_of c.t.d 56 56 (by rfl) (by rfl))
    (fnG_of c.t.d 57 57 (by rfl) (by rfl))
    (fnG_of c.t.d 58 58 (by rfl) (by rfl))
    (mtG_of (x := "Fitted") c.t.d 59 59 (by rfl) (by rfl))
    (fnG_of c.t.d 60 60 (by rfl) (by rfl))
    (mtG_of (x := "Unfit") c.t.d 61 61 (by rfl) (by rfl))
    (fnG_of c.t.d 62 62 (by rfl) (by rfl))
    (fnG_of c.t.d 63 63 (by rfl) (by rfl))
    (mtG_of (x := "Fitted") c.t.d 64 64 (by rfl) (by rfl))
    (fnG_of c.t.d 65 65 (by rfl) (by rfl))
    (mtG_of (x := "Unfit") c.t.d 66 66 (by rfl) (by rfl))
    (fnG_of c.t.d 67 67 (by rfl) (by rfl))
    (fnG_of c.t.d 68 68 (by rfl) (by rfl))
    (fnG_of c.t.d 69 69 (by rfl) (by rfl))
    (fnG_of c.t.d 70 70 (by rfl) (by rfl))
    (fnG_of c.t.d 71 71 (by rfl) (by rfl))
    (clG_of c.t.d 73 74 75 (by rfl) (by rfl) (by rfl) (all_at c.more 0 (by rfl)) (all_at c.more 1 (by rfl)))
    (clG_of c.t.d 76 77 78 (by rfl) (by rfl) (by rfl) (all_at c.more 2 (by rfl)) (all_at c.more 3 (by rfl)))
    (clG_of c.t.d 79 80 81 (by rfl) (by rfl) (by rfl) (all_at c.more 4 (by rfl)) (all_at c.more 5 (by rfl)))
    (clG_of c.t.d 82 83 84 (by rfl) (by rfl) (by rfl) (all_at c.more 6 (by rfl)) (all_at c.more 7 (by rfl)))
    (clG_of c.t.d 85 86 87 (by rfl) (by rfl) (by rfl) (all_at c.more 8 (by rfl)) (all_at c.more 9 (by rfl)))
    (clG_of c.t.d 88 89 90 (by rfl) (by rfl) (by rfl) (all_at c.more 10 (by rfl)) (all_at c.more 11 (by rfl)))
    (He.noat_ok (c.t.d.fact 91 (by rfl)))
    (He.noat_ok (c.t.d.fact 92 (by rfl)))
    (He.noat_ok (c.t.d.fact 93 (by rfl)))
    (He.noat_ok (c.t.d.fact 94 (by rfl)))
    (He.noat_ok (c.t.d.fact 95 (by rfl)))
    (He.noat_ok (c.t.d.fact 96 (by rfl)))
    (He.noat_ok (c.t.d.fact 97 (by rfl)))
    (He.noat_ok (c.t.d.fact 98 (by rfl)))
    (He.noat_ok (c.t.d.fact 99 (by rfl)))
    (He.noat_ok (c.t.d.fact 100 (by rfl)))
    (He.noat_ok (c.t.d.fact 101 (by rfl)))
    (He.noat_ok (c.t.d.fact 102 (by rfl)))
    (He.noat_ok (c.t.d.fact 103 (by rfl)))
    (He.noat_ok (c.t.d.fact 104 (by rfl)))
    (He.noat_ok (c.t.d.fact 105 (by rfl)))
    (He.eqO_ok (all_at c.more 12 (by rfl)))
    (of_decide_eq_true (all_at c.more 13 (by rfl)))
    (of_decide_eq_true (all_at c.more 14 (by rfl)))
    (of_decide_eq_true (all_at c.more 15 (by rfl)))
    (of_decide_eq_true (all_at c.more 16 (by rfl)))
    (of_decide_eq_true (all_at c.more 17 (by rfl)))
    (He.free_ok X G (c.t.d.fact 106 (by rfl)))
    (He.free_ok X G (c.t.d.fact 107 (by rfl)))
    (He.free_ok X G (c.t.d.fact 108 (by rfl)))
    (He.free_ok X G (c.t.d.fact 109 (by rfl)))
    (He.int_ok X G (c.t.d.fact 110 (by rfl)))
    (He.free_ok X G (c.t.d.fact 111 (by rfl)))
    (He.free_ok X G (c.t.d.fact 112 (by rfl)))
    (He.free_ok X G (c.t.d.fact 113 (by rfl)))
    (He.free_ok X G (c.t.d.fact 114 (by rfl)))
    (He.free_ok X G (c.t.d.fact 115 (by rfl)))
    (He.free_ok X G (c.t.d.fact 116 (by rfl)))
    (He.int_ok X G (c.t.d.fact 117 (by rfl)))
    (He.free_ok X G (c.t.d.fact 118 (by rfl)))
    (He.free_ok X G (c.t.d.fact 119 (by rfl)))
    (He.free_ok X G (c.t.d.fact 120 (by rfl)))
    (He.free_ok X G (c.t.d.fact 121 (by rfl)))
    (He.free_ok X G (c.t.d.fact 122 (by rfl)))
    (He.eqO_ok (all_at c.more 18 (by rfl)))
    (He.glo_ok X G (c.t.d.fact 123 (by rfl)))
    (seqB_ok (all_at c.more 19 (by rfl)))
    (He.glo_ok X G (c.t.d.fact 124 (by rfl)))
    (seqB_ok (all_at c.more 20 (by rfl)))
    (He.glo_ok X G (c.t.d.fact 125 (by rfl)))
    (seqB_ok (all_at c.more 21 (by rfl)))
    (He.glo_ok X G (c.t.d.fact 126 (by rfl)))
    (dictG_of (c.t.tab 0 (t := (fun K => He.ga K "_PLAIN", ["all", "lone"])) (by rfl)))
    (nsB_ok (all_at c.more 22 (by rfl)))
    (He.eqO_ok (all_at c.more 23 (by rfl)))
    (He.eqO_ok (all_at c.more 24 (by rfl)))
    (nsB_ok (all_at c.more 25 (by rfl)))
    (He.eqO_ok (all_at c.more 26 (by rfl)))
    (He.eqO_ok (all_at c.more 27 (by rfl)))
    (He.glo_ok X G (c.t.d.fact 127 (by rfl)))
    (dictG_of (c.t.tab 1 (t := (fun K => He.ga K "_HELD", ["both", "lones", "pairs"])) (by rfl)))
    (He.eqO_ok (all_at c.more 28 (by rfl)))
    (He.eqO_ok (all_at c.more 29 (by rfl)))
    (pairB_ok (all_at c.more 30 (by rfl)))
    (He.eqO_ok (all_at c.more 31 (by rfl)))
    (He.eqO_ok (all_at c.more 32 (by rfl)))
    (He.eqO_ok (all_at c.more 33 (by rfl)))
    (pairB_ok (all_at c.more 34 (by rfl)))
    (He.eqO_ok (all_at c.more 35 (by rfl)))
    (pairB_ok (all_at c.more 36 (by rfl)))
    (He.glo_ok X G (c.t.d.fact 128 (by rfl)))
    (dictG_of (c.t.tab 2 (t := (fun K => He.ga K "_MADE_OF", ["any", "bare", "lone"])) (by rfl)))
    (He.eqO_ok (all_at c.more 37 (by rfl)))
    (seqB_ok (all_at c.more 38 (by rfl)))
    (He.eqO_ok (all_at c.more 39 (by rfl)))
    (seqB_ok (all_at c.more 40 (by rfl)))
    (He.eqO_ok (all_at c.more 41 (by rfl)))
    (seqB_ok (all_at c.more 42 (by rfl)))
    (He.glo_ok X G (c.t.d.fact 129 (by rfl)))
    (dictG_of (c.t.tab 3 (t := (fun K => He.ga K "_REPLACED", ["all", "both", "care", "lone", "lones", "pairs"])) (by rfl)))
    (He.eqO_ok (all_at c.more 43 (by rfl)))
    (seqB_ok (all_at c.more 44 (by rfl)))
    (pairB_ok (all_at c.more 45 (by rfl)))
    (He.eqO_ok (all_at c.more 46 (by rfl)))
    (seqB_ok (all_at c.more 47 (by rfl)))
    (pairB_ok (all_at c.more 48 (by rfl)))
    (pairB_ok (all_at c.more 49 (by rfl)))
    (He.eqO_ok (all_at c.more 50 (by rfl)))
    (seqB_ok (all_at c.more 51 (by rfl)))
    (pairB_ok (all_at c.more 52 (by rfl)))
    (pairB_ok (all_at c.more 53 (by rfl)))
    (He.eqO_ok (all_at c.more 54 (by rfl)))
    (seqB_ok (all_at c.more 55 (by rfl)))
    (pairB_ok (all_at c.more 56 (by rfl)))
    (He.eqO_ok (all_at c.more 57 (by rfl)))
    (seqB_ok (all_at c.more 58 (by rfl)))
    (pairB_ok (all_at c.more 59 (by rfl)))
    (pairB_ok (all_at c.more 60 (by rfl)))
    (pairB_ok (all_at c.more 61 (by rfl)))
    (He.eqO_ok (all_at c.more 62 (by rfl)))
    (seqB_ok (all_at c.more 63 (by rfl)))
    (pairB_ok (all_at c.more 64 (by rfl)))
    base
end K50
open PySem PySem.W PySem.Calls PyProof.Rows
theorem PySem.Challenge.cw_turnedends_k50_known_longer_holds : PySem.Challenge.rw_turnedends_k50_known_longer.Holds := by
  w_on; o_law
  refine HandSHeadRun.head_imp (r := OpenLaw.row PySem.Challenge.rw_turnedends_k50_known_longer) (q := view (OpenLaw.row PySem.Challenge.rw_turnedends_k50_known_longer).prog [0, 80]) (H := K50.hk) (ob := K50.hob) (M := 30000) (loose := K50.h_lo) (d := HandSHeadRun.topDef (OpenLaw.row PySem.Challenge.rw_turnedends_k50_known_longer).prog 80) (kwd := []) K50.hob_eq
    K50.hrun (by kernel_rfl) (by kernel_rfl) (by kernel_rfl) (by rfl) (by first | assumption | decide +kernel) (by decide +kernel) ⟨rfl, rfl, rfl, rfl, rfl, by decide +kernel⟩ ?hw ?hc
  case hw => w_witness2
  case hc =>
    refine L2.walk_ofE (l := PySem.Challenge.rw_turnedends_k50_known_longer) (n := 63) (k := 13) (x := "script") (CX := L2.CX0) rfl (by decide) (by kernel_rfl) ⟨rfl, by decide, by decide⟩ ?F (fun _ _ _ _ z => z)
    intro w mg fa h Y G hmg0
    obtain ⟨K, KX, c⟩ := Y
    have hmg : mg ("law" : PySem.Str) = some (.ref fa) := by
      have e : (HandSHeadRun.topDef (OpenLaw.row PySem.Challenge.rw_turnedends_k50_known_longer).prog 80).name = ("law" : PySem.Str) := by kernel_rfl
      rw [← e]
      exact hmg0
    obtain ⟨fd, hb, hF⟩ := K50.hfacts (P := (PySem.Challenge.rw_turnedends_k50_known_longer).prog) (w := w) KX G hmg c
    exact ⟨K, fd, Rm.spLawR K, KX, hb, fun H a ns hl hO hS => ⟨a, ns, rfl, hS, hl, hO, fun _ => rfl⟩, hF⟩
